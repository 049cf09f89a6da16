/- Next on both sides: a packet's and a carrier's copy that owns its memory. -/
import Derived.Test.YtoeoiljddcjphaaSHere
import Derived.Test.YtoeoiljddcjphaaSegL
import Derived.Test.YtoeoiljddcjphaaApp
import Derived.Test.YtoeoiljddcjphaaBoxes
namespace Go.Proofs.Ytoeoiljddcjphaa
open Go.ChangeShapes Go.WideShapes Go.ChangeAt Go.RowKit Go.Joins
set_option linter.unusedVariables false
set_option linter.unusedSimpArgs false

set_option maxHeartbeats 1000000 in
theorem clonePacket_any (a b f s : Int) (o : Option Addr) (cap : Nat) (l : List Int) (w : World) (hR : Rd w o l) (hnil : o = none → cap = 0) (hl : l.length ≤ 1048576) :
    Calls Try.prog 65 #[pkt a b f s (.slice o l.length cap)] w fun e w' => ∃ v, e = .returned (pkt a b f s v) ∧ ownB w' w.heap.size v l ∧ Below w.heap.size w w' := by
  have hb0 : Below w.heap.size w ((w.alloc (.cells #[.int .i64 a, .int .i64 b, .int .i64 f, .int .i64 s, .slice o l.length cap] 26)).alloc (.cells #[.int .i64 0, .int .i64 0, .int .i64 0, .int .i64 0, .slice none 0 0] 26)) := ((Below.refl _ _).alloc (Nat.le_refl _) _).alloc (by simp) _
  have hs0 : ((w.alloc (.cells #[.int .i64 a, .int .i64 b, .int .i64 f, .int .i64 s, .slice o l.length cap] 26)).alloc (.cells #[.int .i64 0, .int .i64 0, .int .i64 0, .int .i64 0, .slice none 0 0] 26)).heap.size = w.heap.size + 2 := by simp
  have p0 : boxed w.heap.size a b f s (.slice o l.length cap) ((w.alloc (.cells #[.int .i64 a, .int .i64 b, .int .i64 f, .int .i64 s, .slice o l.length cap] 26)).alloc (.cells #[.int .i64 0, .int .i64 0, .int .i64 0, .int .i64 0, .slice none 0 0] 26)) := by unfold boxed; simp
  have r0 : empty5 (w.heap.size + 1) ((w.alloc (.cells #[.int .i64 a, .int .i64 b, .int .i64 f, .int .i64 s, .slice o l.length cap] 26)).alloc (.cells #[.int .i64 0, .int .i64 0, .int .i64 0, .int .i64 0, .slice none 0 0] 26)) := by
    have := empty5_new (w.alloc (.cells #[.int .i64 a, .int .i64 b, .int .i64 f, .int .i64 s, .slice o l.length cap] 26)) 26
    simpa only [World.size_alloc] using this
  have f4 : ((w.alloc (.cells #[.int .i64 a, .int .i64 b, .int .i64 f, .int .i64 s, .slice o l.length cap] 26)).alloc (.cells #[.int .i64 0, .int .i64 0, .int .i64 0, .int .i64 0, .slice none 0 0] 26)).frozen? ⟨w.heap.size, 4, none⟩ = false := by simp
  go_enter Try.func65, Try.ntmps65
  go_wp2_with (at_builtin; refine wpList_append_bytes rfl _ _ rfl (w.heap.size + 2) (.slice none 0 0) [] rfl (World.ownsRow_nil _ _ _ _) o cap l rfl hnil (hR.kept hb0) ?c1 ?c2 ?_)
  case c1 => simp; omega
  case c2 => omega
  generalize ((w.alloc (.cells #[.int .i64 a, .int .i64 b, .int .i64 f, .int .i64 s, .slice o l.length cap] 26)).alloc (.cells #[.int .i64 0, .int .i64 0, .int .i64 0, .int .i64 0, .slice none 0 0] 26)) = w0 at *
  intro v w1 hv hg hb1
  replace hv : ownB w1 (w.heap.size + 2) v l := hv
  obtain ⟨ov, cv, hve, _⟩ := hv.open
  subst hve
  replace p0 := p0.kept hb1 (by omega)
  replace r0 := r0.kept hb1 (by omega)
  replace f4 := (hb1.frozen (p := ⟨w.heap.size, 4, none⟩) (by show w.heap.size < w.heap.size + 2; omega)).trans f4
  have HB := hide (hb0.trans (hb1.mono (by omega)))
  have HV := hide hv
  clear hb0 hb1 hv hg hR
  obtain ⟨x0, x1, x2, x3, x4⟩ := p0
  obtain ⟨⟨y0, y1, y2, y3, y4⟩, g0, g1, g2, g3, g4⟩ := r0
  go_wp2
  refine bodyPost_ret (v := pkt a b f s (.slice ov l.length cv)) (by simp [results, Try.results65, go_sem, y0, y1, y2, y3, y4]) rfl ⟨_, rfl, ?_, ?_⟩
  · refine own_mono (base := w.heap.size + 2) ?_ (by omega)
    repeat (refine ownsRow_setCell_below ?_ (by simp <;> omega) _)
    exact HV.out
  · repeat (refine Below.setCell ?_ (by simp <;> omega) _)
    exact HB.out

end Go.Proofs.Ytoeoiljddcjphaa
