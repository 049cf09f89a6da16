/- The laws' 'tables': what is put is got. -/
import Derived.Test.YtiijecnhbioehaaGrHomeMath
import Derived.Test.YtiijecnhbioehaaGrLFlows
import Derived.Test.YtiijecnhbioehaaGrSHome5T
import Derived.Test.YtiijecnhbioehaaSTabI
namespace Go.Proofs.Ytiijecnhbioehaa
open Go.ChangeShapes Go.WideShapes Go.ChangeAt Go.RowKit Go.Joins
set_option linter.unusedVariables false
set_option linter.unusedSimpArgs false

def tab2 : List Sl := [sl0, ⟨true, 1, 2, 7, 9⟩]
theorem tab2_new : newM 2 = [sl0, sl0] ∧ newB 2 = true := ⟨rfl, rfl⟩
theorem tab2_put : putM [sl0, sl0] 1 2 7 9 = tab2 ∧ putB [sl0, sl0] 1 2 7 9 = true := ⟨by rfl, by rfl⟩
theorem tab2_get : getM tab2 1 2 = ⟨true, 1, 2, 7, 9⟩ ∧ gotB tab2 1 2 = true := ⟨by rfl, by rfl⟩
theorem tab2_count : countM tab2 = 1 := by rfl

set_option maxHeartbeats 2000000 in
theorem tables_any (w : World) : Calls Try.prog 20 #[] w fun e w' => e = .returned (.bool true) ∧ Below w.heap.size w w' := by
  have hT := implTableNew_any 2 w
  rw [tab2_new.1, tab2_new.2] at hT
  go_enter Try.func20, Try.ntmps20
  go_wp2_with fail
  refine hT.mono ?_
  rintro e v1 ⟨vt, rfl, hin, hb1⟩
  obtain ⟨o1, c1, hve⟩ := InT.opn hin
  subst hve
  obtain ⟨W2, hW2⟩ : ∃ W, v1.alloc (.cells #[.slice o1 2 c1] 25) = W := ⟨_, rfl⟩
  have hb2 : Below v1.heap.size v1 W2 := by rw [← hW2]; exact (Below.refl _ _).alloc (Nat.le_refl _) _
  have hx2 : W2.heap[v1.heap.size]? = some (.cells #[.slice o1 2 c1] 25 (0, 0)) := by rw [← hW2]; exact World.alloc_heap_new v1 _
  have c2 := block_cell1 hx2 0 _ rfl
  have HX2 := hide hx2
  have hs1 := hb1.size
  have hz2 : v1.heap.size < W2.heap.size := by rw [← hW2]; simp
  have HB2 := hide (hb1.trans (hb2.mono hs1))
  have hP := implPut_sh (tab (.slice o1 2 c1)) [sl0, sl0] 1 2 7 9 W2 ((hin.rd.kept hb2 (Nat.le_refl _)).le hb2.size) (by decide)
  rw [tab2_put.1, tab2_put.2] at hP
  clear hT hin hb1 hb2 hx2
  go_wp2_with fail
  refine hP.mono ?_
  rintro e v3 ⟨vp, rfl, hin3, hb3⟩
  obtain ⟨o3, c3, hve⟩ := InT.opn hin3
  rw [show tab2.length = 2 from rfl] at hve
  subst hve
  have hx3 := (hb3.block _ hz2).trans HX2.out
  have k3 := block_cell1 hx3 0 _ rfl
  have f3 := frozen_of hx3 0
  obtain ⟨W4, hW4⟩ : ∃ W, v3.setCell ⟨v1.heap.size, 0, none⟩ (.slice o3 2 c3) = W := ⟨_, rfl⟩
  have hin4 : InT W2.heap.size v3.heap.size W4 (tab (.slice o3 2 c3)) tab2 := by rw [← hW4]; exact hin3.step (stp_set v3 v1.heap.size 0 _) (.inl (by omega))
  have hs4 : W4.heap.size = v3.heap.size := by rw [← hW4]; simp
  have hx4 : W4.heap[v1.heap.size]? = some (.cells #[.slice o3 2 c3] 25 (0, 0)) := by rw [← hW4]; exact box_set1 v3 v1.heap.size 0 _ _ _ hx3
  have HX4 := hide hx4
  have k4 := block_cell1 hx4 0 _ rfl
  have hs3 := hb3.size
  have HB4 : Hid (Below w.heap.size w W4) := by rw [← hW4]; exact (HB2.out.trans (hb3.mono HB2.out.size)).setCell (p := ⟨v1.heap.size, 0, none⟩) hs1 _
  have hG := implGet_sh (tab (.slice o3 2 c3)) tab2 1 2 W4 (hin4.rd.le (by omega)) (by decide)
  rw [tab2_get.1, tab2_get.2] at hG
  have HI4 := hide hin4
  clear hP hin3 hin4 hb3 hx3 hx4 c2
  go_wp2_with fail
  refine hG.mono ?_
  rintro e v5 ⟨rfl, hb5⟩
  obtain ⟨W6, hW6⟩ : ∃ W, v5.alloc (.cells #[.bool true, .int .i64 1, .int .i64 2, .int .i64 7, .int .i64 9] 35) = W := ⟨_, rfl⟩
  have hb6 : Below W4.heap.size W4 W6 := by rw [← hW6]; exact hb5.alloc hb5.size _
  have k6 : W6.cell? ⟨v1.heap.size, 0, none⟩ = some (.slice o3 2 c3) := (hb6.cell (p := ⟨v1.heap.size, 0, none⟩) (by show v1.heap.size < _; omega)).trans k4
  have s6 : W6.cell? ⟨v5.heap.size, 3, none⟩ = some (.int .i64 7) := by rw [← hW6]; simp [go_sem]
  have HB6 := hide (HB4.out.trans (hb6.mono HB4.out.size))
  have hC := implCountOf_sh (tab (.slice o3 2 c3)) tab2 W6 ((HI4.out.rd.kept hb6 (by omega)).le (by have := hb6.size; omega)) HI4.out.cap (by decide)
  rw [tab2_count] at hC
  clear hG hb5 hb6 k4 k3 f3
  go_wp2_with fail
  refine hC.mono ?_
  rintro e v7 ⟨rfl, hb7⟩
  have HB7 := hide (HB6.out.trans (hb7.mono HB6.out.size))
  clear hC hb7
  go_wp2
  go_ret
  exact ⟨rfl, HB7.out⟩

end Go.Proofs.Ytiijecnhbioehaa
