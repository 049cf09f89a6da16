/- deedOf: a command as a value of its own type. -/
import Derived.Test.YtldjaapbkihibaaSCmd
import Derived.Test.YtldjaapbkihibaaSPlace
namespace Go.Proofs.Ytldjaapbkihibaa
open Go.ChangeShapes Go.WideShapes Go.ChangeAt Go.RowKit Go.Joins
set_option linter.unusedVariables false
set_option linter.unusedSimpArgs false

theorem cmd_box {w w1 : World} {k i g : Int} {t : TypeId} (h : Below (w.alloc (.cells #[.int .i64 k, .int .i64 i, .int .i64 g] t)).heap.size (w.alloc (.cells #[.int .i64 k, .int .i64 i, .int .i64 g] t)) w1) (o : Obj) :
    w1.cell? ⟨w.heap.size, 0, none⟩ = some (.int .i64 k) ∧ w1.cell? ⟨w.heap.size, 1, none⟩ = some (.int .i64 i) ∧ w1.cell? ⟨w.heap.size, 2, none⟩ = some (.int .i64 g) ∧
    (w1.alloc o).cell? ⟨w.heap.size, 0, none⟩ = some (.int .i64 k) ∧ (w1.alloc o).cell? ⟨w.heap.size, 2, none⟩ = some (.int .i64 g) ∧ Below w.heap.size w w1 ∧ Below w.heap.size w (w1.alloc o) := by
  have hs : w.heap.size < (w.alloc (.cells #[.int .i64 k, .int .i64 i, .int .i64 g] t)).heap.size := by simp
  have hs1 : w.heap.size < w1.heap.size := Nat.lt_of_lt_of_le hs h.size
  have hB : Below w.heap.size w w1 := ((Below.refl _ _).alloc (Nat.le_refl _) _).trans (h.mono (by omega))
  have e : ∀ q, w1.cell? ⟨w.heap.size, q, none⟩ = (w.alloc (.cells #[.int .i64 k, .int .i64 i, .int .i64 g] t)).cell? ⟨w.heap.size, q, none⟩ := fun q => h.cell hs
  have e' : ∀ q, (w1.alloc o).cell? ⟨w.heap.size, q, none⟩ = w1.cell? ⟨w.heap.size, q, none⟩ := fun q => ((Below.refl w1.heap.size w1).alloc (Nat.le_refl _) o).cell hs1
  refine ⟨?_, ?_, ?_, ?_, ?_, hB, hB.alloc (by omega) o⟩
  all_goals (simp only [e', e]; unfold World.cell?; simp only [heap_alloc_new]; rfl)

/-- A command as a value of its own type. -/
def deedV (k i g : Int) : Value :=
  if k = 0 then .iface 150 (.agg #[.int .i64 i, .int .i64 g]) else
  if k = 1 then .iface 151 (.agg #[.int .i64 i, .int .i64 g]) else
  if k = 2 then .iface 153 (.agg #[.int .i64 i]) else .iface 154 (.agg #[.int .i64 i])

set_option maxHeartbeats 1000000 in
theorem deedOf_any (k i g : Int) (w : World) :
    Calls Try.prog 56 #[cmd k i g] w fun e w' => e = .returned (.tuple #[if cmdOkB k i g then deedV k i g else .nilIface, .bool (cmdOkB k i g)]) ∧ Below w.heap.size w w' := by
  have hc := fun w => implPoolCmdOk_any k i g w
  generalize cmdOkB k i g = t at hc ⊢
  cases t
  all_goals (
    go_enter Try.func56, Try.ntmps56
    go_wp2_with (first | (go_at_call 107; refine (hc _).mono ?_; rintro e w1 ⟨rfl, hb1⟩; obtain ⟨c0, c1, c2, d0, d2, hB, hB'⟩ := cmd_box hb1 (.cells #[.int .i64 i] 148); have HB := hide hB; have HB' := hide hB'; clear hb1 hB hB'))
    all_goals go_ret2
    all_goals refine ⟨?_, by first | exact HB.out | exact HB'.out⟩)
  all_goals (try simp only [beq_iff_eq, beq_eq_false_iff_ne, ne_eq] at *)
  all_goals simp_all [deedV]

end Go.Proofs.Ytldjaapbkihibaa
