/- A drawn packet, bent once in a while: fields of any size, a body of its own. -/
import Derived.Test.YtoeoiljddcjphaaSDraw4
import Derived.OwnWalk
namespace Go.Proofs.Ytoeoiljddcjphaa
open Go.ChangeShapes Go.WideShapes Go.ChangeAt Go.RowKit Go.Joins
set_option linter.unusedVariables false
set_option linter.unusedSimpArgs false

/-- A box none of whose five cells is frozen. -/
def free5 (q : Nat) (w : World) : Prop := w.frozen? ⟨q, 0, none⟩ = false ∧ w.frozen? ⟨q, 1, none⟩ = false ∧ w.frozen? ⟨q, 2, none⟩ = false ∧ w.frozen? ⟨q, 3, none⟩ = false ∧ w.frozen? ⟨q, 4, none⟩ = false
theorem free5.other {k q : Nat} {w w' : World} (h : free5 q w) (hg : w.grownBy w' (some k)) (hq : q < w.heap.size) (hne : q ≠ k) : free5 q w' :=
  ⟨(froz_other hg hq hne).trans h.1, (froz_other hg hq hne).trans h.2.1, (froz_other hg hq hne).trans h.2.2.1, (froz_other hg hq hne).trans h.2.2.2.1, (froz_other hg hq hne).trans h.2.2.2.2⟩
theorem free5_new (w : World) (a b f s : Int) (v : Value) (e : TypeId) : free5 w.heap.size (w.alloc (.cells #[.int .i64 a, .int .i64 b, .int .i64 f, .int .i64 s, v] e)) := by
  unfold free5; simp

theorem boxed.put0 {k : Nat} {a b f s : Int} {v : Value} {w : World} (h : boxed k a b f s v w) (z : Int) : boxed k z b f s v (w.setCell ⟨k, 0, none⟩ (.int .i64 z)) := by
  exact ⟨World.cell?_setCell_same w _ _ h.1, (World.cell?_setCell_other w _ _ _ (by simp)).trans h.2.1, (World.cell?_setCell_other w _ _ _ (by simp)).trans h.2.2.1, (World.cell?_setCell_other w _ _ _ (by simp)).trans h.2.2.2.1, (World.cell?_setCell_other w _ _ _ (by simp)).trans h.2.2.2.2⟩
theorem boxed.put1 {k : Nat} {a b f s : Int} {v : Value} {w : World} (h : boxed k a b f s v w) (z : Int) : boxed k a z f s v (w.setCell ⟨k, 1, none⟩ (.int .i64 z)) := by
  exact ⟨(World.cell?_setCell_other w _ _ _ (by simp)).trans h.1, World.cell?_setCell_same w _ _ h.2.1, (World.cell?_setCell_other w _ _ _ (by simp)).trans h.2.2.1, (World.cell?_setCell_other w _ _ _ (by simp)).trans h.2.2.2.1, (World.cell?_setCell_other w _ _ _ (by simp)).trans h.2.2.2.2⟩
theorem boxed.put2 {k : Nat} {a b f s : Int} {v : Value} {w : World} (h : boxed k a b f s v w) (z : Int) : boxed k a b z s v (w.setCell ⟨k, 2, none⟩ (.int .i64 z)) := by
  exact ⟨(World.cell?_setCell_other w _ _ _ (by simp)).trans h.1, (World.cell?_setCell_other w _ _ _ (by simp)).trans h.2.1, World.cell?_setCell_same w _ _ h.2.2.1, (World.cell?_setCell_other w _ _ _ (by simp)).trans h.2.2.2.1, (World.cell?_setCell_other w _ _ _ (by simp)).trans h.2.2.2.2⟩
theorem boxed.put3 {k : Nat} {a b f s : Int} {v : Value} {w : World} (h : boxed k a b f s v w) (z : Int) : boxed k a b f z v (w.setCell ⟨k, 3, none⟩ (.int .i64 z)) := by
  exact ⟨(World.cell?_setCell_other w _ _ _ (by simp)).trans h.1, (World.cell?_setCell_other w _ _ _ (by simp)).trans h.2.1, (World.cell?_setCell_other w _ _ _ (by simp)).trans h.2.2.1, World.cell?_setCell_same w _ _ h.2.2.2.1, (World.cell?_setCell_other w _ _ _ (by simp)).trans h.2.2.2.2⟩
theorem own_lt {w : World} {B n c : Nat} {o : Option Addr} {L : List Int} (h : ownB w B (.slice o n c) L) : ∀ g, o = some ⟨g, 0, none⟩ → g < w.heap.size := by
  intro g hg
  subst hg
  obtain ⟨_, h2⟩ := h
  rcases h2 with ⟨h2, _⟩ | ⟨g', cap, cur, hv, hg', hh, r⟩
  · simp at h2
  · simp at hv
    obtain ⟨rfl, _⟩ := hv
    obtain ⟨hlt, _⟩ := Array.getElem?_eq_some_iff.1 hh
    exact hlt
theorem own_put {w : World} {B n c : Nat} {o : Option Addr} {L : List Int} (h : ownB w B (.slice o n c) L) (P q : Nat) (u : Value) (hP : ∀ g, o = some ⟨g, 0, none⟩ → g < P) : ownB (w.setCell ⟨P, q, none⟩ u) B (.slice o n c) L := by
  obtain ⟨h1, h2⟩ := h
  refine ⟨h1, ?_⟩
  rcases h2 with h2 | ⟨g, cap, cur, hv, hg, hh, r⟩
  · exact Or.inl h2
  · have hlt : g < P := hP g (by simp at hv; exact hv.1)
    exact Or.inr ⟨g, cap, cur, hv, hg, by rw [Below.heap_setCell _ _ _ _ (by simp; omega)]; exact hh, r⟩

set_option maxHeartbeats 2000000 in
theorem l1bent_any (k : Nat) (w : World) (hc : isCur k w) (hk : k < w.heap.size) :
    Calls Try.prog 60 #[.pointer (some ⟨k, 0, none⟩)] w fun e w' => ∃ (a b f s : Int) (v : Value) (L : List Int), e = .returned (pkt a b f s v) ∧ ownB w' w.heap.size v L ∧ isB L ∧ L.length ≤ 2000 ∧ isCur k w' ∧ w.grownBy w' (some k) := by
  have E5 := empty5_new w 26
  have hc0 := hc.alloc hk (.cells #[.int .i64 0, .int .i64 0, .int .i64 0, .int .i64 0, .slice none 0 0] 26)
  have hg0 := grown_alloc w (.cells #[.int .i64 0, .int .i64 0, .int .i64 0, .int .i64 0, .slice none 0 0] 26) k
  go_enter Try.func60, Try.ntmps60
  go_wp2_with fail
  generalize hw0 : w.alloc (.cells #[.int .i64 0, .int .i64 0, .int .i64 0, .int .i64 0, .slice none 0 0] 26) = w0 at *
  have hs0 : w.heap.size < w0.heap.size := by rw [← hw0]; simp
  clear hw0
  have hkR : w.heap.size ≠ k := by omega
  refine (l1draw_any k _ hc0 (by omega)).mono ?_
  rintro e w1 ⟨a, b, f, s, v, L, rfl, hv, hLb, hLn, hc1, hg1⟩
  have hs1 : w.heap.size < w1.heap.size := Nat.lt_of_lt_of_le hs0 hg1.size
  obtain ⟨ov, cv, hve, _⟩ := hv.open
  subst hve
  go_wp2_with fail
  have BP0 := boxed_new w1 a b f s (.slice ov L.length cv) 26
  have FP0 := free5_new w1 a b f s (.slice ov L.length cv) 26
  have hc2 := hc1.alloc (by omega) (.cells #[.int .i64 a, .int .i64 b, .int .i64 f, .int .i64 s, .slice ov L.length cv] 26)
  have hg2 := grown_alloc w1 (.cells #[.int .i64 a, .int .i64 b, .int .i64 f, .int .i64 s, .slice ov L.length cv] 26) k
  have hv2 : ownB (w1.alloc (.cells #[.int .i64 a, .int .i64 b, .int .i64 f, .int .i64 s, .slice ov L.length cv] 26)) w0.heap.size (.slice ov L.length cv) L := hv.alloc _
  have E51 := (E5.other hg1 hs0 hkR).other hg2 hs1 hkR
  have hP0 : w0.heap.size ≤ w1.heap.size := hg1.size
  have hk0 : k < w0.heap.size := by omega
  have hov := own_lt hv
  generalize hw2 : w1.alloc (.cells #[.int .i64 a, .int .i64 b, .int .i64 f, .int .i64 s, .slice ov L.length cv] 26) = w2 at *
  have hs2 : w1.heap.size < w2.heap.size := by rw [← hw2]; simp
  clear hw2
  refine (l1Once_any k 6 _ hc2 (by omega) (by omega)).mono ?_
  rintro e w3 ⟨x, rfl, hcE, hg3⟩
  have BP := BP0.other hg3 hs2 (by omega)
  have FP := FP0.other hg3 hs2 (by omega)
  have hvE := own_other hv2 hg3 hk0
  have EE := E51.other hg3 (by omega) hkR
  have hgE := grownBy_then hg1 (grownBy_then hg2 hg3)
  have hs3 := Nat.lt_of_lt_of_le hs2 hg3.size
  clear hc hc0 hc1 hc2 hv hv2 BP0 FP0 E5 E51 hg1 hg2 hg3
  cases x
  · obtain ⟨y0, y1, y2, y3, y4⟩ := BP
    obtain ⟨⟨d0, d1, d2, d3, d4⟩, g0, g1, g2, g3, g4⟩ := EE
    go_wp2
    refine bodyPost_ret (v := pkt a b f s (.slice ov L.length cv)) (by simp [results, Try.results60, go_sem, d0, d1, d2, d3, d4]) rfl ⟨a, b, f, s, _, L, rfl, ?_, hLb, by omega, ?_, ?_⟩
    · refine own_mono (base := w0.heap.size) ?_ (Nat.le_of_lt hs0)
      repeat (refine ownsRow_setCell_below ?_ hs0 _)
      exact hvE
    · exact hcE.below ((put_at (put_at (put_at (put_at (put_at (Below.refl w.heap.size w3) 0 _) 1 _) 2 _) 3 _) 4 _).mono hk)
    · exact grown_below (grownBy_then hg0 hgE) (put_at (put_at (put_at (put_at (put_at (Below.refl w.heap.size w3) 0 _) 1 _) 2 _) 3 _) 4 _) (Nat.le_refl _)
  · go_wp2_with fail
    refine (l1Below_any k 5 _ hcE (by omega) (by omega)).mono ?_
    rintro e w4 ⟨n, rfl, hn0, hn1, hc4, hg4⟩
    replace BP := BP.other hg4 hs3 (by omega)
    replace FP := FP.other hg4 hs3 (by omega)
    replace hvE := own_other hvE hg4 hk0
    replace EE := EE.other hg4 (by omega) hkR
    replace hgE := grownBy_then hgE hg4
    have hs4 := Nat.lt_of_lt_of_le hs3 hg4.size
    clear hcE hg4
    have hn : n = 0 ∨ n = 1 ∨ n = 2 ∨ n = 3 ∨ n = 4 := by omega
    rcases hn with h | h | h | h | h <;> subst h
    · go_wp2_with fail
      refine (l1PickInt_any k w4.heap.size [-1, 65535, 65536] _ (hc4.alloc (by omega) _) (by simp) (by omega) (by simp) (by simp) ?hcl).mono ?_
      case hcl =>
        intro q hq
        have : q = 0 ∨ q = 1 ∨ q = 2 := by simp at hq; omega
        rcases this with h | h | h <;> subst h <;> simp
      rintro e w5 ⟨q5, _, rfl, hcE, hg5⟩
      generalize ([-1, 65535, 65536] : List Int).getD q5 0 = z at *
      replace hg5 := grownBy_then (grown_alloc w4 (.cells #[.int .i64 (-1), .int .i64 65535, .int .i64 65536] 3) k) hg5
      replace BP := BP.other hg5 hs4 (by omega)
      replace FP := FP.other hg5 hs4 (by omega)
      replace hvE := own_other hvE hg5 hk0
      replace EE := EE.other hg5 (by omega) hkR
      replace hgE := grownBy_then hgE hg5
      have hs5 := Nat.lt_of_lt_of_le hs4 hg5.size
      clear hc4 hg5
      obtain ⟨q0, q1, q2, q3, q4⟩ := FP
      have BP5 := BP
      obtain ⟨x0, x1, x2, x3, x4⟩ := BP5
      have hb6 : Below w1.heap.size w5 (w5.setCell ⟨w1.heap.size, 0, none⟩ (.int .i64 z)) := put_at (Below.refl _ _) 0 _
      replace BP := BP.put0 z
      replace hvE := own_put hvE w1.heap.size 0 (.int .i64 z) hov
      replace EE := EE.kept hb6 hs1
      replace hcE := hcE.below (hb6.mono (by omega))
      replace hgE := grown_below hgE hb6 hP0
      clear hb6
      obtain ⟨y0, y1, y2, y3, y4⟩ := BP
      obtain ⟨⟨d0, d1, d2, d3, d4⟩, g0, g1, g2, g3, g4⟩ := EE
      go_wp2
      refine bodyPost_ret (v := pkt z b f s (.slice ov L.length cv)) (by simp [results, Try.results60, go_sem, d0, d1, d2, d3, d4]) rfl ⟨z, b, f, s, _, L, rfl, ?_, hLb, by omega, ?_, ?_⟩
      · refine own_mono (base := w0.heap.size) ?_ (Nat.le_of_lt hs0)
        repeat (refine ownsRow_setCell_below ?_ hs0 _)
        exact hvE
      · exact hcE.below ((put_at (put_at (put_at (put_at (put_at (Below.refl w.heap.size (w5.setCell ⟨w1.heap.size, 0, none⟩ (.int .i64 z))) 0 _) 1 _) 2 _) 3 _) 4 _).mono hk)
      · exact grown_below (grownBy_then hg0 hgE) (put_at (put_at (put_at (put_at (put_at (Below.refl w.heap.size (w5.setCell ⟨w1.heap.size, 0, none⟩ (.int .i64 z))) 0 _) 1 _) 2 _) 3 _) 4 _) (Nat.le_refl _)
    · go_wp2_with fail
      refine (l1PickInt_any k w4.heap.size [-1, 65535, 65536] _ (hc4.alloc (by omega) _) (by simp) (by omega) (by simp) (by simp) ?hcl).mono ?_
      case hcl =>
        intro q hq
        have : q = 0 ∨ q = 1 ∨ q = 2 := by simp at hq; omega
        rcases this with h | h | h <;> subst h <;> simp
      rintro e w5 ⟨q5, _, rfl, hcE, hg5⟩
      generalize ([-1, 65535, 65536] : List Int).getD q5 0 = z at *
      replace hg5 := grownBy_then (grown_alloc w4 (.cells #[.int .i64 (-1), .int .i64 65535, .int .i64 65536] 3) k) hg5
      replace BP := BP.other hg5 hs4 (by omega)
      replace FP := FP.other hg5 hs4 (by omega)
      replace hvE := own_other hvE hg5 hk0
      replace EE := EE.other hg5 (by omega) hkR
      replace hgE := grownBy_then hgE hg5
      have hs5 := Nat.lt_of_lt_of_le hs4 hg5.size
      clear hc4 hg5
      obtain ⟨q0, q1, q2, q3, q4⟩ := FP
      have BP5 := BP
      obtain ⟨x0, x1, x2, x3, x4⟩ := BP5
      have hb6 : Below w1.heap.size w5 (w5.setCell ⟨w1.heap.size, 1, none⟩ (.int .i64 z)) := put_at (Below.refl _ _) 1 _
      replace BP := BP.put1 z
      replace hvE := own_put hvE w1.heap.size 1 (.int .i64 z) hov
      replace EE := EE.kept hb6 hs1
      replace hcE := hcE.below (hb6.mono (by omega))
      replace hgE := grown_below hgE hb6 hP0
      clear hb6
      obtain ⟨y0, y1, y2, y3, y4⟩ := BP
      obtain ⟨⟨d0, d1, d2, d3, d4⟩, g0, g1, g2, g3, g4⟩ := EE
      go_wp2
      refine bodyPost_ret (v := pkt a z f s (.slice ov L.length cv)) (by simp [results, Try.results60, go_sem, d0, d1, d2, d3, d4]) rfl ⟨a, z, f, s, _, L, rfl, ?_, hLb, by omega, ?_, ?_⟩
      · refine own_mono (base := w0.heap.size) ?_ (Nat.le_of_lt hs0)
        repeat (refine ownsRow_setCell_below ?_ hs0 _)
        exact hvE
      · exact hcE.below ((put_at (put_at (put_at (put_at (put_at (Below.refl w.heap.size (w5.setCell ⟨w1.heap.size, 1, none⟩ (.int .i64 z))) 0 _) 1 _) 2 _) 3 _) 4 _).mono hk)
      · exact grown_below (grownBy_then hg0 hgE) (put_at (put_at (put_at (put_at (put_at (Below.refl w.heap.size (w5.setCell ⟨w1.heap.size, 1, none⟩ (.int .i64 z))) 0 _) 1 _) 2 _) 3 _) 4 _) (Nat.le_refl _)
    · go_wp2_with fail
      refine (l1PickInt_any k w4.heap.size [-1, 5, 9, 15, 16, 3] _ (hc4.alloc (by omega) _) (by simp) (by omega) (by simp) (by simp) ?hcl).mono ?_
      case hcl =>
        intro q hq
        have : q = 0 ∨ q = 1 ∨ q = 2 ∨ q = 3 ∨ q = 4 ∨ q = 5 := by simp at hq; omega
        rcases this with h | h | h | h | h | h <;> subst h <;> simp
      rintro e w5 ⟨q5, _, rfl, hcE, hg5⟩
      generalize ([-1, 5, 9, 15, 16, 3] : List Int).getD q5 0 = z at *
      replace hg5 := grownBy_then (grown_alloc w4 (.cells #[.int .i64 (-1), .int .i64 5, .int .i64 9, .int .i64 15, .int .i64 16, .int .i64 3] 3) k) hg5
      replace BP := BP.other hg5 hs4 (by omega)
      replace FP := FP.other hg5 hs4 (by omega)
      replace hvE := own_other hvE hg5 hk0
      replace EE := EE.other hg5 (by omega) hkR
      replace hgE := grownBy_then hgE hg5
      have hs5 := Nat.lt_of_lt_of_le hs4 hg5.size
      clear hc4 hg5
      obtain ⟨q0, q1, q2, q3, q4⟩ := FP
      have BP5 := BP
      obtain ⟨x0, x1, x2, x3, x4⟩ := BP5
      have hb6 : Below w1.heap.size w5 (w5.setCell ⟨w1.heap.size, 2, none⟩ (.int .i64 z)) := put_at (Below.refl _ _) 2 _
      replace BP := BP.put2 z
      replace hvE := own_put hvE w1.heap.size 2 (.int .i64 z) hov
      replace EE := EE.kept hb6 hs1
      replace hcE := hcE.below (hb6.mono (by omega))
      replace hgE := grown_below hgE hb6 hP0
      clear hb6
      obtain ⟨y0, y1, y2, y3, y4⟩ := BP
      obtain ⟨⟨d0, d1, d2, d3, d4⟩, g0, g1, g2, g3, g4⟩ := EE
      go_wp2
      refine bodyPost_ret (v := pkt a b z s (.slice ov L.length cv)) (by simp [results, Try.results60, go_sem, d0, d1, d2, d3, d4]) rfl ⟨a, b, z, s, _, L, rfl, ?_, hLb, by omega, ?_, ?_⟩
      · refine own_mono (base := w0.heap.size) ?_ (Nat.le_of_lt hs0)
        repeat (refine ownsRow_setCell_below ?_ hs0 _)
        exact hvE
      · exact hcE.below ((put_at (put_at (put_at (put_at (put_at (Below.refl w.heap.size (w5.setCell ⟨w1.heap.size, 2, none⟩ (.int .i64 z))) 0 _) 1 _) 2 _) 3 _) 4 _).mono hk)
      · exact grown_below (grownBy_then hg0 hgE) (put_at (put_at (put_at (put_at (put_at (Below.refl w.heap.size (w5.setCell ⟨w1.heap.size, 2, none⟩ (.int .i64 z))) 0 _) 1 _) 2 _) 3 _) 4 _) (Nat.le_refl _)
    · go_wp2_with fail
      refine (l1PickInt_any k w4.heap.size [-1, 65536] _ (hc4.alloc (by omega) _) (by simp) (by omega) (by simp) (by simp) ?hcl).mono ?_
      case hcl =>
        intro q hq
        have : q = 0 ∨ q = 1 := by simp at hq; omega
        rcases this with h | h <;> subst h <;> simp
      rintro e w5 ⟨q5, _, rfl, hcE, hg5⟩
      generalize ([-1, 65536] : List Int).getD q5 0 = z at *
      replace hg5 := grownBy_then (grown_alloc w4 (.cells #[.int .i64 (-1), .int .i64 65536] 3) k) hg5
      replace BP := BP.other hg5 hs4 (by omega)
      replace FP := FP.other hg5 hs4 (by omega)
      replace hvE := own_other hvE hg5 hk0
      replace EE := EE.other hg5 (by omega) hkR
      replace hgE := grownBy_then hgE hg5
      have hs5 := Nat.lt_of_lt_of_le hs4 hg5.size
      clear hc4 hg5
      obtain ⟨q0, q1, q2, q3, q4⟩ := FP
      have BP5 := BP
      obtain ⟨x0, x1, x2, x3, x4⟩ := BP5
      have hb6 : Below w1.heap.size w5 (w5.setCell ⟨w1.heap.size, 3, none⟩ (.int .i64 z)) := put_at (Below.refl _ _) 3 _
      replace BP := BP.put3 z
      replace hvE := own_put hvE w1.heap.size 3 (.int .i64 z) hov
      replace EE := EE.kept hb6 hs1
      replace hcE := hcE.below (hb6.mono (by omega))
      replace hgE := grown_below hgE hb6 hP0
      clear hb6
      obtain ⟨y0, y1, y2, y3, y4⟩ := BP
      obtain ⟨⟨d0, d1, d2, d3, d4⟩, g0, g1, g2, g3, g4⟩ := EE
      go_wp2
      refine bodyPost_ret (v := pkt a b f z (.slice ov L.length cv)) (by simp [results, Try.results60, go_sem, d0, d1, d2, d3, d4]) rfl ⟨a, b, f, z, _, L, rfl, ?_, hLb, by omega, ?_, ?_⟩
      · refine own_mono (base := w0.heap.size) ?_ (Nat.le_of_lt hs0)
        repeat (refine ownsRow_setCell_below ?_ hs0 _)
        exact hvE
      · exact hcE.below ((put_at (put_at (put_at (put_at (put_at (Below.refl w.heap.size (w5.setCell ⟨w1.heap.size, 3, none⟩ (.int .i64 z))) 0 _) 1 _) 2 _) 3 _) 4 _).mono hk)
      · exact grown_below (grownBy_then hg0 hgE) (put_at (put_at (put_at (put_at (put_at (Below.refl w.heap.size (w5.setCell ⟨w1.heap.size, 3, none⟩ (.int .i64 z))) 0 _) 1 _) 2 _) 3 _) 4 _) (Nat.le_refl _)
    · obtain ⟨i0, hi, hz0, hz1, hz2⟩ := info_parts infoU8
      go_wp2_with fail
      refine (l1Below_any k 2 _ hc4 (by omega) (by omega)).mono ?_
      rintro e w5 ⟨m, rfl, hm0, hm1, hcE, hg5⟩
      replace BP := BP.other hg5 hs4 (by omega)
      replace FP := FP.other hg5 hs4 (by omega)
      replace EE := EE.other hg5 (by omega) hkR
      replace hgE := grownBy_then hgE hg5
      have hs5 := Nat.lt_of_lt_of_le hs4 hg5.size
      clear hc4 hg5 hvE hLb
      have hRw5 : w.heap.size < w5.heap.size := by omega
      have hm : m = 0 ∨ m = 1 := by omega
      rcases hm with h | h <;> subst h
      · go_wp2_with (at_make; refine wpList_make_full _ rfl _ _ 22 rfl w5.heap.size 5 i0 (.int .u8 0) 1 Try.underlying22 hi hz0 hz1 _ _ _ _ 16 rfl rfl rfl rfl ?b2 ?b3 ?b4 ?_)
        case b2 => rw [hz2]; omega
        case b3 => unfold maxLen; omega
        case b4 => simp
        intro w6 hown hgrow
        have hb6 : Below w5.heap.size w5 w6 := (Below.refl _ _).grown hgrow (Nat.le_refl _) (fun k h => by cases h)
        have hvE : ownB w6 w5.heap.size (.slice (some ⟨w5.heap.size, 0, none⟩) 16 16) (List.replicate 16 0) := by
          simpa [ownB, toList_madeCells_one, Value.cells] using hown
        have hLb : isB (List.replicate 16 (0 : Int)) := by
          intro x hx
          have := List.eq_of_mem_replicate hx
          omega
        have BP6 := BP.kept hb6 hs5
        have FP6 := (hb6.frozen (p := ⟨w1.heap.size, 4, none⟩) hs5).trans FP.2.2.2.2
        have x4 := BP6.2.2.2.2
        have hb7 := put_at (hb6.mono (Nat.le_of_lt hs5)) 4 (.slice (some ⟨w5.heap.size, 0, none⟩) 16 16)
        replace BP := BP6.put4 (v' := .slice (some ⟨w5.heap.size, 0, none⟩) 16 16)
        replace hvE := ownsRow_setCell_below hvE (a := ⟨w1.heap.size, 4, none⟩) hs5 (.slice (some ⟨w5.heap.size, 0, none⟩) 16 16)
        replace EE := EE.kept hb7 hs1
        replace hcE := hcE.below (hb7.mono (by omega))
        replace hgE := grown_below hgE hb7 hP0
        clear hown hgrow hb6 hb7 BP6
        obtain ⟨y0, y1, y2, y3, y4⟩ := BP
        obtain ⟨⟨d0, d1, d2, d3, d4⟩, g0, g1, g2, g3, g4⟩ := EE
        go_wp2
        refine bodyPost_ret (v := pkt a b f s (.slice (some ⟨w5.heap.size, 0, none⟩) 16 16)) (by simp [results, Try.results60, go_sem, d0, d1, d2, d3, d4]) rfl ⟨a, b, f, s, _, List.replicate 16 0, rfl, ?_, hLb, by simp, ?_, ?_⟩
        · refine own_mono (base := w5.heap.size) ?_ (Nat.le_of_lt hRw5)
          repeat (refine ownsRow_setCell_below ?_ hRw5 _)
          exact hvE
        · exact hcE.below ((put_at (put_at (put_at (put_at (put_at (Below.refl w.heap.size (w6.setCell ⟨w1.heap.size, 4, none⟩ (.slice (some ⟨w5.heap.size, 0, none⟩) 16 16))) 0 _) 1 _) 2 _) 3 _) 4 _).mono hk)
        · exact grown_below (grownBy_then hg0 hgE) (put_at (put_at (put_at (put_at (put_at (Below.refl w.heap.size (w6.setCell ⟨w1.heap.size, 4, none⟩ (.slice (some ⟨w5.heap.size, 0, none⟩) 16 16))) 0 _) 1 _) 2 _) 3 _) 4 _) (Nat.le_refl _)
      · go_wp2_with (at_make; refine wpList_make_full _ rfl _ _ 22 rfl w5.heap.size 5 i0 (.int .u8 0) 1 Try.underlying22 hi hz0 hz1 _ _ _ _ 17 rfl rfl rfl rfl ?b2 ?b3 ?b4 ?_)
        case b2 => rw [hz2]; omega
        case b3 => unfold maxLen; omega
        case b4 => simp
        intro w6 hown hgrow
        have hb6 : Below w5.heap.size w5 w6 := (Below.refl _ _).grown hgrow (Nat.le_refl _) (fun k h => by cases h)
        have hvE : ownB w6 w5.heap.size (.slice (some ⟨w5.heap.size, 0, none⟩) 17 17) (List.replicate 17 0) := by
          simpa [ownB, toList_madeCells_one, Value.cells] using hown
        have hLb : isB (List.replicate 17 (0 : Int)) := by
          intro x hx
          have := List.eq_of_mem_replicate hx
          omega
        have BP6 := BP.kept hb6 hs5
        have FP6 := (hb6.frozen (p := ⟨w1.heap.size, 4, none⟩) hs5).trans FP.2.2.2.2
        have x4 := BP6.2.2.2.2
        have hb7 := put_at (hb6.mono (Nat.le_of_lt hs5)) 4 (.slice (some ⟨w5.heap.size, 0, none⟩) 17 17)
        replace BP := BP6.put4 (v' := .slice (some ⟨w5.heap.size, 0, none⟩) 17 17)
        replace hvE := ownsRow_setCell_below hvE (a := ⟨w1.heap.size, 4, none⟩) hs5 (.slice (some ⟨w5.heap.size, 0, none⟩) 17 17)
        replace EE := EE.kept hb7 hs1
        replace hcE := hcE.below (hb7.mono (by omega))
        replace hgE := grown_below hgE hb7 hP0
        clear hown hgrow hb6 hb7 BP6
        obtain ⟨y0, y1, y2, y3, y4⟩ := BP
        obtain ⟨⟨d0, d1, d2, d3, d4⟩, g0, g1, g2, g3, g4⟩ := EE
        go_wp2
        refine bodyPost_ret (v := pkt a b f s (.slice (some ⟨w5.heap.size, 0, none⟩) 17 17)) (by simp [results, Try.results60, go_sem, d0, d1, d2, d3, d4]) rfl ⟨a, b, f, s, _, List.replicate 17 0, rfl, ?_, hLb, by simp, ?_, ?_⟩
        · refine own_mono (base := w5.heap.size) ?_ (Nat.le_of_lt hRw5)
          repeat (refine ownsRow_setCell_below ?_ hRw5 _)
          exact hvE
        · exact hcE.below ((put_at (put_at (put_at (put_at (put_at (Below.refl w.heap.size (w6.setCell ⟨w1.heap.size, 4, none⟩ (.slice (some ⟨w5.heap.size, 0, none⟩) 17 17))) 0 _) 1 _) 2 _) 3 _) 4 _).mono hk)
        · exact grown_below (grownBy_then hg0 hgE) (put_at (put_at (put_at (put_at (put_at (Below.refl w.heap.size (w6.setCell ⟨w1.heap.size, 4, none⟩ (.slice (some ⟨w5.heap.size, 0, none⟩) 17 17))) 0 _) 1 _) 2 _) 3 _) 4 _) (Nat.le_refl _)

end Go.Proofs.Ytoeoiljddcjphaa
