/- The scoreboard's own methods: Len, Less, Swap, bestId. -/
import Derived.Test.YtldjaapbkihibaaSHeap
import Derived.RegionTactic
import Derived.BigRegion
namespace Go.Proofs.Ytldjaapbkihibaa
open Go.ChangeShapes Go.WideShapes Go.ChangeAt Go.RowKit Go.Joins
set_option linter.unusedVariables false
set_option linter.unusedSimpArgs false

/-- Who is on the board: an id and its score. -/
abbrev Sc := Int × Int
def layD : Lay Sc := ⟨2, fun a => [.int .i64 a.1, .int .i64 a.2], (0, 0), fun _ => rfl⟩
abbrev ownD := ownL layD 191
def lessD (a b : Sc) : Bool := if a.2 = b.2 then decide (a.1 < b.1) else decide (b.2 < a.2)
theorem RdL.sc {w : World} {b off : Nat} {l : List Sc} (h : ∀ i, i < l.length → ∀ j, j < layD.k → w.cell? ⟨b, off + i * layD.k + j, none⟩ = (layD.cs (l.getD i layD.d))[j]?) (i : Nat) (hi : i < l.length) :
    w.cell? ⟨b, off + i * 2, none⟩ = some (.int .i64 (l.getD i (0, 0)).1) ∧ w.cell? ⟨b, off + i * 2 + 1, none⟩ = some (.int .i64 (l.getD i (0, 0)).2) :=
  ⟨h i hi 0 (by decide), h i hi 1 (by decide)⟩
def swapD (l : List Sc) (i j : Nat) : List Sc := (l.set i (l.getD j (0, 0))).set j (l.getD i (0, 0))
theorem swapD_length (l : List Sc) (i j : Nat) : (swapD l i j).length = l.length := by simp [swapD]

theorem flat_set2h {α : Type} (L : Lay α) (hk : L.k = 2) {v0 v1 : Value} {a : α} (ha : L.cs a = [v0, v1]) : ∀ (l : List α) (i : Nat), ((l.flatMap L.cs).set (i * 2) v0).set (i * 2 + 1) v1 = (l.set i a).flatMap L.cs
  | [], i => by simp
  | q :: l, 0 => by
    have hq := (L.len q).trans hk
    match hc : L.cs q, hq with
    | [q0, q1], _ => simp [ha, hc]
  | q :: l, i + 1 => by
    have hq := (L.len q).trans hk
    match hc : L.cs q, hq with
    | [q0, q1], _ =>
      rw [show (i + 1) * 2 = i * 2 + 1 + 1 by omega]
      simp only [List.flatMap_cons, hc, List.cons_append, List.nil_append, List.set_cons_succ]
      rw [flat_set2h L hk ha l i]

theorem cell?_setCell_some {w : World} {p q : Addr} {x v : Value} (h : w.cell? q = some v) : ∃ v', (w.setCell p x).cell? q = some v' := by
  by_cases e : p = q
  · subst e; exact ⟨x, World.cell?_setCell_same w p x h⟩
  · exact ⟨v, (World.cell?_setCell_other w p q x e).trans h⟩
theorem grown_tr {a b c : World} {r : Option Nat} (h : a.grownBy b r) (k : b.grownBy c r) : a.grownBy c r :=
  ⟨k.os.trans h.os, k.tape.trans h.tape, k.output.trans h.output, Nat.le_trans h.size k.size, fun i hi hne => (k.block i (Nat.lt_of_lt_of_le hi h.size) hne).trans (h.block i hi hne)⟩
theorem ownD_set {w : World} {base g c : Nat} {l : List Sc} {n i : Nat} {x y : Int} (h : w.ownsRow base 191 2 (.slice (some ⟨g, 0, none⟩) n c) n (l.flatMap layD.cs)) :
    ((w.setCell ⟨g, i * 2, none⟩ (.int .i64 x)).setCell ⟨g, i * 2 + 1, none⟩ (.int .i64 y)).ownsRow base 191 2 (.slice (some ⟨g, 0, none⟩) n c) n ((l.set i (x, y)).flatMap layD.cs) ∧ w.grownBy ((w.setCell ⟨g, i * 2, none⟩ (.int .i64 x)).setCell ⟨g, i * 2 + 1, none⟩ (.int .i64 y)) (some g) := by
  have h1 := h.stored (i * 2) (.int .i64 x)
  have h2 := h1.1.stored (i * 2 + 1) (.int .i64 y)
  rw [flat_set2h layD rfl (a := (x, y)) rfl] at h2
  exact ⟨h2.1, grown_tr h1.2 h2.2⟩
theorem swapD_own {w : World} {base g c : Nat} {l : List Sc} {i j : Nat} {xi xs yi ys : Int} (h : ownD w base (.slice (some ⟨g, 0, none⟩) l.length c) l) (hi : l.getD i (0, 0) = (xi, xs)) (hj : l.getD j (0, 0) = (yi, ys)) :
    ownD ((((w.setCell ⟨g, i * 2, none⟩ (.int .i64 yi)).setCell ⟨g, i * 2 + 1, none⟩ (.int .i64 ys)).setCell ⟨g, j * 2, none⟩ (.int .i64 xi)).setCell ⟨g, j * 2 + 1, none⟩ (.int .i64 xs)).drew base (.slice (some ⟨g, 0, none⟩) l.length c) (swapD l i j) ∧
      w.grownBy ((((w.setCell ⟨g, i * 2, none⟩ (.int .i64 yi)).setCell ⟨g, i * 2 + 1, none⟩ (.int .i64 ys)).setCell ⟨g, j * 2, none⟩ (.int .i64 xi)).setCell ⟨g, j * 2 + 1, none⟩ (.int .i64 xs)).drew (some g) := by
  have h1 := ownD_set (i := i) (x := yi) (y := ys) h
  have h2 := ownD_set (i := j) (x := xi) (y := xs) h1.1
  have h3 := grown_tr h1.2 h2.2
  refine ⟨?_, ⟨h3.os, h3.tape, h3.output, h3.size, h3.block⟩⟩
  have h4 := h2.1.drew
  unfold ownD ownL swapD
  rw [hi, hj, show ((l.set i (yi, ys)).set j (xi, xs)).length = l.length by simp]
  exact h4

set_option maxHeartbeats 400000 in
theorem sbLen_any (o : Option Addr) (n c : Nat) (w : World) : Calls Try.prog 170 #[.slice o n c] w fun e w' => e = .returned (.int .i64 n) ∧ w = w' := by
  go_enter Try.func170, Try.ntmps170
  go_wp2
  go_ret
  exact ⟨rfl, rfl⟩

set_option maxHeartbeats 1000000 in
theorem sbLess_any (o : Option Addr) (c : Nat) (l : List Sc) (i j : Nat) (w : World) (C : Nat) (hR : RdL layD C w o l) (hi : i < l.length) (hj : j < l.length) (hlen : l.length ≤ 1048576) :
    Calls Try.prog 171 #[.slice o l.length c, .int .i64 i, .int .i64 j] w fun e w' => e = .returned (.bool (lessD (l.getD i (0, 0)) (l.getD j (0, 0)))) ∧ ∃ q, w' = w.drewN q := by
  rcases hR with hR | ⟨b, off, rfl, hbl, hcell⟩
  · subst hR; simp at hi
  have ci := RdL.sc hcell i hi
  have cj := RdL.sc hcell j hj
  clear hcell
  generalize l.getD i (0, 0) = x at *
  generalize l.getD j (0, 0) = y at *
  obtain ⟨xi, xs⟩ := x
  obtain ⟨yi, ys⟩ := y
  dsimp only at ci cj
  obtain ⟨ci0, ci1⟩ := ci
  obtain ⟨cj0, cj1⟩ := cj
  have z1 : (i : Int) < (l.length : Int) := by omega
  have z2 : (j : Int) < (l.length : Int) := by omega
  by_cases hs : xs = ys
  · have hn : (xs != ys) = false := by simp [hs]
    have HE := hide (show decide (xi < yi) = lessD (xi, xs) (yi, ys) by simp [lessD, hs])
    clear hs
    go_enter Try.func171, Try.ntmps171
    go_wp2
    go_quiet (fail)
    go_wp2
    go_quiet (fail)
    go_wp2
    go_ret
    exact ⟨ret_bool HE.out, _, (World.drewN_drewN _ _ _)⟩
  · have hn : (xs != ys) = true := by simp [hs]
    have HE := hide (show decide (ys < xs) = lessD (xi, xs) (yi, ys) by simp [lessD, hs])
    clear hs
    go_enter Try.func171, Try.ntmps171
    go_wp2
    go_quiet (fail)
    go_wp2
    go_quiet (fail)
    go_wp2
    go_ret
    exact ⟨ret_bool HE.out, _, (World.drewN_drewN _ _ _)⟩

set_option maxHeartbeats 2000000 in
theorem sbSwap_any (base g c : Nat) (l : List Sc) (i j : Nat) (w : World) (hown : ownD w base (.slice (some ⟨g, 0, none⟩) l.length c) l) (hi : i < l.length) (hj : j < l.length) (hlen : l.length ≤ 1048576) :
    Calls Try.prog 174 #[.slice (some ⟨g, 0, none⟩) l.length c, .int .i64 i, .int .i64 j] w fun e w' => e = .returned (.tuple #[]) ∧ ownD w' base (.slice (some ⟨g, 0, none⟩) l.length c) (swapD l i j) ∧ w.grownBy w' (some g) := by
  have hR := hown.rd
  rcases hR with hR | ⟨b, off, e0, hbl, hcell⟩
  · subst hR; simp at hi
  cases e0
  have ci := RdL.sc hcell i hi
  have cj := RdL.sc hcell j hj
  clear hcell
  simp only [Nat.zero_add] at ci cj
  have z1 : (i : Int) < (l.length : Int) := by omega
  have z2 : (j : Int) < (l.length : Int) := by omega
  have fi0 := hown.frozenAt (i * 2)
  have fi1 := hown.frozenAt (i * 2 + 1)
  have fj0 := hown.frozenAt (j * 2)
  have fj1 := hown.frozenAt (j * 2 + 1)
  have HO := hide hown
  clear hown
  have HS := hide (show (l.set i (l.getD j (0, 0))).set j (l.getD i (0, 0)) = swapD l i j from rfl)
  have HL := hide hlen
  generalize hgi : l.getD i (0, 0) = x at *
  generalize hgj : l.getD j (0, 0) = y at *
  have HGI := hide hgi
  have HGJ := hide hgj
  clear hgi hgj
  obtain ⟨xi, xs⟩ := x
  obtain ⟨yi, ys⟩ := y
  dsimp only at ci cj
  obtain ⟨ci0, ci1⟩ := ci
  obtain ⟨cj0, cj1⟩ := cj
  obtain ⟨a0, ha0⟩ := cell?_setCell_some (w := w) (p := ⟨g, i * 2, none⟩) (x := .int .i64 yi) cj0
  obtain ⟨a1, ha1⟩ := cell?_setCell_some (w := w) (p := ⟨g, i * 2, none⟩) (x := .int .i64 yi) cj1
  obtain ⟨b0, hb0⟩ := cell?_setCell_some (p := ⟨g, i * 2 + 1, none⟩) (x := .int .i64 ys) ha0
  obtain ⟨b1, hb1⟩ := cell?_setCell_some (p := ⟨g, i * 2 + 1, none⟩) (x := .int .i64 ys) ha1
  obtain ⟨c1, hc1⟩ := cell?_setCell_some (p := ⟨g, j * 2, none⟩) (x := .int .i64 xi) hb1
  go_enter Try.func174, Try.ntmps174
  go_wp2
  go_region
  all_goals (try go_wp2)
  all_goals go_end0
  all_goals exact ⟨rfl, swapD_own HO.out HGI.out HGJ.out⟩

end Go.Proofs.Ytldjaapbkihibaa
