/- Slices of backs: how they read; the laws' own helpers over them: toBack, szBackS, toBackS, eqBack, eqBackS. -/
import Derived.Test.YtfmnhdemhbbjlaaLists
import Derived.Deep.RegionHeld3
namespace Go.Proofs.Ytfmnhdemhbbjlaa
open Go.ChangeShapes Go.WideShapes Go.ChangeAt Go.RowKit Go.Joins
set_option linter.unusedVariables false
set_option linter.unusedSimpArgs false

abbrev Bk := Int × Int × Bool
def layK : Lay Bk := ⟨3, fun a => [.int .i64 a.1, .int .i64 a.2.1, .bool a.2.2], (0, 0, false), fun _ => rfl⟩
abbrev back (i g : Int) (d : Bool) : Value := .agg #[.int .i64 i, .int .i64 g, .bool d]
abbrev RdK := RdL layK
abbrev ownK := ownL layK 137

theorem RdL.back {C : Nat} {w : World} {b off : Nat} {l : List Bk} (h : ∀ i, i < l.length → ∀ j, j < layK.k → w.cell? ⟨b, off + i * layK.k + j, none⟩ = (layK.cs (l.getD i layK.d))[j]?) (i : Nat) (hi : i < l.length) :
    w.cell? ⟨b, off + i * 3, none⟩ = some (.int .i64 (l.getD i (0, 0, false)).1) ∧ w.cell? ⟨b, off + i * 3 + 1, none⟩ = some (.int .i64 (l.getD i (0, 0, false)).2.1) ∧ w.cell? ⟨b, off + i * 3 + 2, none⟩ = some (.bool (l.getD i (0, 0, false)).2.2) :=
  ⟨h i hi 0 (by decide), h i hi 1 (by decide), h i hi 2 (by decide)⟩

theorem infoBack : (Try.prog.info? 137).map (fun i => (i.zero, i.size, i.bytes)) = some (some (.agg #[.int .i64 0, .int .i64 0, .bool false]), 3, 24) := by kernel_rfl

theorem cellsInt1 : Try.prog.cellsOf 3 = 1 := by kernel_rfl
theorem cellsBool1 : Try.prog.cellsOf 4 = 1 := by kernel_rfl
set_option maxHeartbeats 400000 in
theorem eqBack_same (i g : Int) (d : Bool) (w : World) :
    Calls Try.prog 80 #[back i g d, back i g d] w fun e w' => e = .returned (.bool true) ∧ Below w.heap.size w w' := by
  have hB : Below w.heap.size w w := Below.refl _ _
  go_enter Try.func80, Try.ntmps80
  go_wp2
  all_goals go_ret
  all_goals exact ⟨rfl, by (repeat (first | with_reducible exact hB | with_reducible exact Below.refl _ _ | with_reducible refine Below.drew ?_ | with_reducible refine below_drewN ?_ _ | with_reducible refine Below.alloc ?_ ?_ _ | with_reducible refine Below.setCell ?_ ?_ _ | (focus (simp; done)) | (focus (simp; omega)) | omega))⟩

/-- The row that is filled, at its (k+1)st store. -/
theorem fillK_step {w wr : World} {base g c : Nat} {l : List Bk} {k : Nat} {x y : Int} {z : Bool} (hxy : l.getD k (0, 0, false) = (x, y, z)) (hk : k < l.length) (hg : base ≤ g) (hown : wr.ownsRow w.heap.size 137 3 (.slice (some ⟨g, 0, none⟩) l.length c) l.length ((fillL layK l k).flatMap layK.cs))
    (hB : Below base w wr) : (((wr.setCell ⟨g, k * 3, none⟩ (.int .i64 x)).setCell ⟨g, k * 3 + 1, none⟩ (.int .i64 y)).setCell ⟨g, k * 3 + 2, none⟩ (.bool z)).ownsRow w.heap.size 137 3 (.slice (some ⟨g, 0, none⟩) l.length c) l.length ((fillL layK l (k + 1)).flatMap layK.cs) ∧
      Below base w (((wr.setCell ⟨g, k * 3, none⟩ (.int .i64 x)).setCell ⟨g, k * 3 + 1, none⟩ (.int .i64 y)).setCell ⟨g, k * 3 + 2, none⟩ (.bool z)) := by
  have h := (((hown.stored (k * 3) (.int .i64 x)).1.stored (k * 3 + 1) (.int .i64 y)).1.stored (k * 3 + 2) (.bool z)).1
  rw [flat_set3 layK rfl (a := (x, y, z)) rfl, ← hxy, show l.getD k (0, 0, false) = l.getD k layK.d from rfl, fillL_set layK l k hk] at h
  exact ⟨h, ((hB.setCell (p := ⟨g, k * 3, none⟩) hg _).setCell (p := ⟨g, k * 3 + 1, none⟩) hg _).setCell (p := ⟨g, k * 3 + 2, none⟩) hg _⟩

set_option maxHeartbeats 1000000 in
theorem eqBackS_same (o1 o2 : Option Addr) (c1 c2 : Nat) (l : List Bk) (w : World) (h1 : RdK w.heap.size w o1 l) (h2 : RdK w.heap.size w o2 l) (hl : l.length ≤ 1048576) :
    Calls Try.prog 50 #[.slice o1 l.length c1, .slice o2 l.length c2] w fun e w' => e = .returned (.bool true) ∧ Below w.heap.size w w' := by
  go_enter Try.func50, Try.ntmps50
  go_wp2
  go_loopw [5] (fun i wr => ∃ k : Nat, k ≤ l.length ∧ i = .int .i64 k ∧ Below w.heap.size w wr)
    (fun i _ => l.length - (intOf i).toNat)
  case atStart => exact ⟨0, Nat.zero_le _, rfl, Below.refl _ _⟩
  case round =>
    obtain ⟨k, hk, rfl, hBr⟩ := hrel
    by_cases hlt : k < l.length
    · rcases h1 with h1 | ⟨b1, off1, rfl, hb1, hcell1⟩
      · subst h1; simp at hlt
      rcases h2 with h2 | ⟨b2, off2, rfl, hb2, hcell2⟩
      · subst h2; simp at hlt
      obtain ⟨x, y, z, hxy⟩ : ∃ x y z, l.getD k (0, 0, false) = (x, y, z) := ⟨_, _, _, rfl⟩
      have hcx1 := RdL.back (C := w.heap.size) hcell1 k hlt
      have hcx2 := RdL.back (C := w.heap.size) hcell2 k hlt
      rw [hxy] at hcx1 hcx2
      have p0 : wr.cell? ⟨b1, off1 + k * 3, none⟩ = some (.int .i64 x) := (hBr.cell (p := ⟨b1, off1 + k * 3, none⟩) hb1).trans hcx1.1
      have p1 : wr.cell? ⟨b1, off1 + k * 3 + 1, none⟩ = some (.int .i64 y) := (hBr.cell (p := ⟨b1, off1 + k * 3 + 1, none⟩) hb1).trans hcx1.2.1
      have p2 : wr.cell? ⟨b1, off1 + k * 3 + 2, none⟩ = some (.bool z) := (hBr.cell (p := ⟨b1, off1 + k * 3 + 2, none⟩) hb1).trans hcx1.2.2
      have q0 : wr.cell? ⟨b2, off2 + k * 3, none⟩ = some (.int .i64 x) := (hBr.cell (p := ⟨b2, off2 + k * 3, none⟩) hb2).trans hcx2.1
      have q1 : wr.cell? ⟨b2, off2 + k * 3 + 1, none⟩ = some (.int .i64 y) := (hBr.cell (p := ⟨b2, off2 + k * 3 + 1, none⟩) hb2).trans hcx2.2.1
      have q2 : wr.cell? ⟨b2, off2 + k * 3 + 2, none⟩ = some (.bool z) := (hBr.cell (p := ⟨b2, off2 + k * 3 + 2, none⟩) hb2).trans hcx2.2.2
      have HB := hide hBr
      have hsr := hide hBr.size
      clear hcell1 hcell2 hBr hcx1 hcx2 hxy
      have i1 : (k : Int) < (l.length : Int) := by omega
      go_wp2
      go_region_held3 (fun w' => w'.cell? ⟨b1, off1 + k * 3, none⟩ = some (.int .i64 x) ∧ w'.cell? ⟨b1, off1 + k * 3 + 1, none⟩ = some (.int .i64 y) ∧ w'.cell? ⟨b1, off1 + k * 3 + 2, none⟩ = some (.bool z) ∧ w'.cell? ⟨b2, off2 + k * 3, none⟩ = some (.int .i64 x) ∧ w'.cell? ⟨b2, off2 + k * 3 + 1, none⟩ = some (.int .i64 y) ∧ w'.cell? ⟨b2, off2 + k * 3 + 2, none⟩ = some (.bool z)) (first | exact ⟨p0, p1, p2, q0, q1, q2⟩) (first | (go_at_call 80; refine (eqBack_same _ _ _ _).mono ?_; rintro e w2 ⟨rfl, hb2'⟩; replace hb2' : Below wr.heap.size wr w2 := (Below.drew (Below.refl _ _)).trans hb2'; have p0 := (hb2'.cell (p := ⟨b1, off1 + k * 3, none⟩) (Nat.lt_of_lt_of_le hb1 hsr.out)).trans p0; have p1 := (hb2'.cell (p := ⟨b1, off1 + k * 3 + 1, none⟩) (Nat.lt_of_lt_of_le hb1 hsr.out)).trans p1; have p2 := (hb2'.cell (p := ⟨b1, off1 + k * 3 + 2, none⟩) (Nat.lt_of_lt_of_le hb1 hsr.out)).trans p2; have q0 := (hb2'.cell (p := ⟨b2, off2 + k * 3, none⟩) (Nat.lt_of_lt_of_le hb2 hsr.out)).trans q0; have q1 := (hb2'.cell (p := ⟨b2, off2 + k * 3 + 1, none⟩) (Nat.lt_of_lt_of_le hb2 hsr.out)).trans q1; have q2 := (hb2'.cell (p := ⟨b2, off2 + k * 3 + 2, none⟩) (Nat.lt_of_lt_of_le hb2 hsr.out)).trans q2))
      go_wp2
      go_roundw
      case rel => exact ⟨k + 1, by omega, by go_num, HB.out.trans (hb2'.mono HB.out.size)⟩
      case measure => simp [intOf]; omega
    · have e : k = l.length := by omega
      subst e
      go_wp2
      go_ret
      exact ⟨rfl, hBr⟩

end Go.Proofs.Ytfmnhdemhbbjlaa
