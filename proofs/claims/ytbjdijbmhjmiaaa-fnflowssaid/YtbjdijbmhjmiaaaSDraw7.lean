/- Two drawn flows. -/
import Derived.Test.YtbjdijbmhjmiaaaSDraw6
namespace Go.Proofs.Ytbjdijbmhjmiaaa
open Go.ChangeShapes Go.WideShapes Go.ChangeAt Go.RowKit Go.Joins
set_option linter.unusedVariables false
set_option linter.unusedSimpArgs false

theorem put_over {B : Nat} {w w' : World} (h : Below B w w') (P o : Nat) (v : Value) (hP : B ≤ P) : Below B w (w'.setCell ⟨P, o, none⟩ v) :=
  Below.setCell (p := ⟨P, o, none⟩) h hP v
theorem fieldFlow (a b f s : Int) (v : Value) (w : World) : (Instr.field 32 (.agg #[.int .i64 a, .int .i64 b, .int .i64 f, .int .i64 s, v]) 0).run Try.prog w = .ok (.agg #[.int .i64 a, .int .i64 b]) w := by
  first | rfl | kernel_rfl

set_option maxHeartbeats 1000000 in
theorem drawFlowCmp_any (o : Option Addr) (cap : Nat) (l : List Int) (w : World) (hR : Rd w o l) (hB8 : isB l) (hm : l.length ≤ maxLen) :
    Calls Try.prog 11 #[.slice o l.length cap] w fun e w' => ∃ (a b c d : Int), e = .returned (.tuple #[.agg #[.int .i64 a, .int .i64 b], .agg #[.int .i64 c, .int .i64 d]]) ∧ Below w.heap.size w w' := by
  have c0 : ((w.alloc (.cells #[.int .i64 0, .int .i64 0] 28)).alloc (.cells #[.int .i64 0, .int .i64 0] 28)).cell? ⟨w.heap.size, 0, none⟩ = some (.int .i64 0) := by simp
  have c1 : ((w.alloc (.cells #[.int .i64 0, .int .i64 0] 28)).alloc (.cells #[.int .i64 0, .int .i64 0] 28)).cell? ⟨w.heap.size, 1, none⟩ = some (.int .i64 0) := by simp
  have c2 : ((w.alloc (.cells #[.int .i64 0, .int .i64 0] 28)).alloc (.cells #[.int .i64 0, .int .i64 0] 28)).cell? ⟨w.heap.size + 1, 0, none⟩ = some (.int .i64 0) := by simp
  have c3 : ((w.alloc (.cells #[.int .i64 0, .int .i64 0] 28)).alloc (.cells #[.int .i64 0, .int .i64 0] 28)).cell? ⟨w.heap.size + 1, 1, none⟩ = some (.int .i64 0) := by simp
  have f0 : ((w.alloc (.cells #[.int .i64 0, .int .i64 0] 28)).alloc (.cells #[.int .i64 0, .int .i64 0] 28)).frozen? ⟨w.heap.size, 0, none⟩ = false := by simp
  have f1 : ((w.alloc (.cells #[.int .i64 0, .int .i64 0] 28)).alloc (.cells #[.int .i64 0, .int .i64 0] 28)).frozen? ⟨w.heap.size, 1, none⟩ = false := by simp
  have f2 : ((w.alloc (.cells #[.int .i64 0, .int .i64 0] 28)).alloc (.cells #[.int .i64 0, .int .i64 0] 28)).frozen? ⟨w.heap.size + 1, 0, none⟩ = false := by simp
  have f3 : ((w.alloc (.cells #[.int .i64 0, .int .i64 0] 28)).alloc (.cells #[.int .i64 0, .int .i64 0] 28)).frozen? ⟨w.heap.size + 1, 1, none⟩ = false := by simp
  have hb0 : Below w.heap.size w ((w.alloc (.cells #[.int .i64 0, .int .i64 0] 28)).alloc (.cells #[.int .i64 0, .int .i64 0] 28)) := ((Below.refl _ _).alloc (Nat.le_refl _) _).alloc (by simp) _
  have hR0 := hR.kept hb0
  go_enter Try.func11, Try.ntmps11
  go_wp2_with fail
  generalize hw0 : (w.alloc (.cells #[.int .i64 0, .int .i64 0] 28)).alloc (.cells #[.int .i64 0, .int .i64 0] 28) = w0 at *
  have hs0 : w.heap.size + 1 < w0.heap.size := by rw [← hw0]; simp
  have hs00 : w.heap.size < w0.heap.size := by omega
  clear hw0
  refine (l1New_any o cap l w0 hR0 hB8 hm).mono ?_
  rintro e w1 ⟨rfl, hc1, hb1, hs1⟩
  go_wp2_with fail
  refine (l1bent_any w0.heap.size w1 hc1 hs1).mono ?_
  rintro e w2 ⟨a, b, f, s, v, L, rfl, hv, hL, hn, hc2, hg2⟩
  have hs2 := Nat.lt_of_lt_of_le hs1 hg2.size
  have F1 := fieldFlow a b f s v w2
  unfold pkt
  go_wp2_with fail
  refine (l1bent_any w0.heap.size w2 hc2 hs2).mono ?_
  rintro e w3 ⟨a', b', f', s', v', L', rfl, hv', hL', hn', hc3, hg3⟩
  have hb3 : Below w0.heap.size w0 w3 := hb1.trans ((below_of_grown hg2 hs1).trans (below_of_grown hg3 hs2))
  replace c0 := (hb3.cell (p := ⟨w.heap.size, 0, none⟩) hs00).trans c0
  replace c1 := (hb3.cell (p := ⟨w.heap.size, 1, none⟩) hs00).trans c1
  replace c2 := (hb3.cell (p := ⟨w.heap.size + 1, 0, none⟩) hs0).trans c2
  replace c3 := (hb3.cell (p := ⟨w.heap.size + 1, 1, none⟩) hs0).trans c3
  replace f0 := (hb3.frozen (p := ⟨w.heap.size, 0, none⟩) hs00).trans f0
  replace f1 := (hb3.frozen (p := ⟨w.heap.size, 1, none⟩) hs00).trans f1
  replace f2 := (hb3.frozen (p := ⟨w.heap.size + 1, 0, none⟩) hs0).trans f2
  replace f3 := (hb3.frozen (p := ⟨w.heap.size + 1, 1, none⟩) hs0).trans f3
  have hb03 : Below w.heap.size w w3 := hb0.trans (hb3.mono (Nat.le_of_lt hs00))
  clear hb0 hb1 hb3 hg2 hg3 hc1 hc2 hc3 hv hv' hR hR0
  have F3 := fieldFlow a' b' f' s' v' w3
  unfold pkt
  go_wp2
  refine bodyPost_ret (v := .tuple #[.agg #[.int .i64 a, .int .i64 b], .agg #[.int .i64 a', .int .i64 b']]) (by simp [results, Try.results11, go_sem, c0, c1, c2, c3]) rfl ⟨a, b, a', b', rfl, ?_⟩
  exact hb03.trans (put_over (put_over (put_over (put_over (Below.refl w.heap.size w3) w.heap.size 0 _ (Nat.le_refl _)) w.heap.size 1 _ (Nat.le_refl _)) (w.heap.size + 1) 0 _ (Nat.le_succ _)) (w.heap.size + 1) 1 _ (Nat.le_succ _))

end Go.Proofs.Ytbjdijbmhjmiaaa
