/- The laws' hashes: one alone is its own pair. -/
import Derived.Test.YtgnfcnajepbhpaaSDrawH
namespace Go.Proofs.Ytgnfcnajepbhpaa
open Go.ChangeShapes Go.WideShapes Go.ChangeAt Go.RowKit Go.Joins
set_option linter.unusedVariables false
set_option linter.unusedSimpArgs false

theorem rd_back (w : World) (i g : Int) (d : Bool) (e : TypeId) : RdK (w.alloc (.cells #[.int .i64 i, .int .i64 g, .bool d] e)).heap.size (w.alloc (.cells #[.int .i64 i, .int .i64 g, .bool d] e)) (some ⟨w.heap.size, 0, none⟩) [(i, g, d)] := by
  right
  refine ⟨w.heap.size, 0, rfl, by simp, fun q hq j hj => ?_⟩
  have e0 : q = 0 := by simpa using hq
  subst e0
  have hj' : j = 0 ∨ j = 1 ∨ j = 2 := by have : j < 3 := hj; omega
  rcases hj' with rfl | rfl | rfl <;> simp [layK]

set_option maxHeartbeats 1000000 in
theorem hashes_any (w : World) : Calls Try.prog 18 #[] w fun e w' => e = .returned (.bool true) ∧ Below w.heap.size w w' := by
  have hp := fun W h => implPairOf_any 5 0 (some ⟨w.heap.size, 0, none⟩) 1 [(3, 1, false)] W h (by decide)
  rw [pair_one] at hp
  have hr := rd_back w 3 1 false 41
  have hb0 : Below w.heap.size w (w.alloc (.cells #[.int .i64 3, .int .i64 1, .bool false] 41)) := (Below.refl _ _).alloc (Nat.le_refl _) _
  go_enter Try.func18, Try.ntmps18
  go_wp2_with fail
  generalize w.alloc (.cells #[.int .i64 3, .int .i64 1, .bool false] 41) = w0 at *
  refine (hp w0 hr).mono ?_
  rintro e w1 ⟨v, rfl, ho1, hb1⟩
  obtain ⟨o1, c1, e1, hr1⟩ := ownL.open (L := layI) ho1
  rw [e1]
  rcases hr1 with hr1 | ⟨b, off, rfl, hbl, hcell⟩
  · simp at hr1
  have d0 := RdL.int hcell 0 (by decide)
  have d1 := RdL.int hcell 1 (by decide)
  simp at d0 d1
  have hB1 : Below w.heap.size w w1 := hb0.trans (hb1.mono hb0.size)
  have hbk := fun W => implBucketOf_any 5 0 0 W
  have hpos : 0 ≤ bucketOfI 5 0 0 := by
    have := bucketOfI_pos 5 0 0
    rw [show (keyB 5 && flowOkB 0 0) = true by decide] at this
    simpa using this
  generalize bucketOfI 5 0 0 = z at *
  clear hcell ho1 hb0 hb1 hr hp e1
  go_wp2_with fail
  refine (hbk _).mono ?_
  rintro e w2 ⟨rfl, hb2⟩
  have hB2 : Below w.heap.size w w2 := hB1.trans (hb2.mono hB1.size)
  clear hB1 hb2 d0 d1
  go_wp2
  go_ret
  exact ⟨rfl, hB2⟩

end Go.Proofs.Ytgnfcnajepbhpaa
