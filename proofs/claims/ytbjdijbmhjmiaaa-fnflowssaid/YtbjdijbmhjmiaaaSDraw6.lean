/- A drawn packet that may open. -/
import Derived.Test.YtbjdijbmhjmiaaaSDraw5
namespace Go.Proofs.Ytbjdijbmhjmiaaa
open Go.ChangeShapes Go.WideShapes Go.ChangeAt Go.RowKit Go.Joins
set_option linter.unusedVariables false
set_option linter.unusedSimpArgs false

set_option maxHeartbeats 1000000 in
theorem drawOpens_any (o : Option Addr) (cap : Nat) (l : List Int) (w : World) (hR : Rd w o l) (hB8 : isB l) (hm : l.length ≤ maxLen) :
    Calls Try.prog 12 #[.slice o l.length cap] w fun e w' => ∃ (a b f s : Int) (v : Value) (L : List Int), e = .returned (pkt a b f s v) ∧ ownB w' w.heap.size v L ∧ isB L ∧ L.length ≤ 2000 ∧ Below w.heap.size w w' := by
  have E5 := empty5_new w 32
  have hb0 : Below w.heap.size w (w.alloc (.cells #[.int .i64 0, .int .i64 0, .int .i64 0, .int .i64 0, .slice none 0 0] 32)) := (Below.refl _ _).alloc (Nat.le_refl _) _
  have hR0 := hR.kept hb0
  go_enter Try.func12, Try.ntmps12
  go_wp2_with fail
  generalize hw0 : w.alloc (.cells #[.int .i64 0, .int .i64 0, .int .i64 0, .int .i64 0, .slice none 0 0] 32) = w0 at *
  have hs0 : w.heap.size < w0.heap.size := by rw [← hw0]; simp
  clear hw0
  refine (l1New_any o cap l w0 hR0 hB8 hm).mono ?_
  rintro e w1 ⟨rfl, hc1, hb1, hs1⟩
  go_wp2_with fail
  refine (l1bent_any w0.heap.size w1 hc1 hs1).mono ?_
  rintro e w2 ⟨a, b, f, s, v, L, rfl, hv, hL, hn, hc2, hg2⟩
  have hb2 : Below w0.heap.size w1 w2 := below_of_grown hg2 hs1
  have EE := (E5.kept hb1 hs0).kept hb2 hs0
  have hb02 : Below w.heap.size w w2 := hb0.trans ((hb1.trans hb2).mono (Nat.le_of_lt hs0))
  have hRw1 : w.heap.size < w1.heap.size := by omega
  clear E5 hb1 hb2 hg2 hc1 hc2 hR hR0 hb0
  obtain ⟨ov, cv, hve, _⟩ := hv.open
  subst hve
  obtain ⟨⟨d0, d1, d2, d3, d4⟩, g0, g1, g2, g3, g4⟩ := EE
  go_wp2
  refine bodyPost_ret (v := pkt a b f s (.slice ov L.length cv)) (by simp [results, Try.results12, go_sem, d0, d1, d2, d3, d4]) rfl ⟨a, b, f, s, _, L, rfl, ?_, hL, hn, ?_⟩
  · refine own_mono (base := w1.heap.size) ?_ (Nat.le_of_lt hRw1)
    repeat (refine ownsRow_setCell_below ?_ hRw1 _)
    exact hv
  · exact hb02.trans (put_at (put_at (put_at (put_at (put_at (Below.refl w.heap.size w2) 0 _) 1 _) 2 _) 3 _) 4 _)

end Go.Proofs.Ytbjdijbmhjmiaaa
