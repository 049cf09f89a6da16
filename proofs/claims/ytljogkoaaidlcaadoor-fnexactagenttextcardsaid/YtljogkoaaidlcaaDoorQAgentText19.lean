/- The program's map of ranks. -/
import Derived.MapViews
import Derived.DeepKeys4
import Derived.Test.YtljogkoaaidlcaaDoorQAgentText15
namespace Go.Proofs.YtljogkoaaidlcaaDoor
open Go.ChangeShapes Go.WideShapes Go.ChangeAt Go.RowKit Go.Joins Go.Maps
set_option linter.unusedVariables false
set_option linter.unusedSimpArgs false
set_option maxRecDepth 100000

theorem flowDeep : Tryd.prog.keyTypeAt (Tryd.prog.types.size + 1) 48 = true := by kernel_rfl
theorem flowWide : (match Tryd.prog.underlying 48 with | some (.array _ _) | some (.struct _) => true | _ => false) = true := by kernel_rfl
theorem flowKeyed : Keyed Tryd.prog 48 := Keyed.of_law (deep_law_laid laidOut (m := 3) (by omega) (of_decide_eq_true (by kernel_rfl)) (by kernel_rfl) flowWide)
theorem cellsImplFlow : Tryd.prog.cellsOf 48 = 2 := by kernel_rfl
theorem flowFormed (x y : Value) : (Value.agg #[x, y]).formed Tryd.prog 48 = true := by kernel_rfl
theorem wfI64 {n : Int} (h0 : 0 ≤ n) (h1 : n < 9223372036854775808) : (Lit.int .i64 n).wf = true := by
 simp [Lit.wf, IntKind.min, IntKind.max, IntKind.signed, IntKind.bits]; omega
/-- What a flow reads as, as a key. -/
theorem flowKey (a b : Int) (h : flowOkB a b = true) : ∃ kl : Lit, keyOf Tryd.prog 48 (.agg #[.int .i64 a, .int .i64 b]) = some kl := by
 have q := flowOkB_iff.1 h
 have t : DataW.Trod (fun _ => ()) Tryd.prog (default : World) 0 (fun _ => true) true 48 (.agg #[.int .i64 a, .int .i64 b]) (.agg [.lit (.int .i64 a), .lit (.int .i64 b)]) [] :=
  shut_agg2 (y0 := (.lit (.int .i64 a), [])) (y1 := (.lit (.int .i64 b), [])) Tryd.underlying48 (by kernel_rfl) cellsImplFlow ⟨1, by simp [DataW.trod, Tryd.underlying3, wfI64 q.1 (by omega)]⟩ ⟨1, by simp [DataW.trod, Tryd.underlying3, wfI64 q.2.2.1 (by omega)]⟩
 exact ⟨_, (keyOf_asKey flowDeep flowWide (flowFormed _ _) t).1⟩

def rankD (k1 k2 : Lit) (r1 r2 : Int) : Nat → DataW Unit
 | 0 => .map []
 | 1 => (DataW.map []).put k1 (.lit (.int .i64 r1))
 | _ => ((DataW.map []).put k1 (.lit (.int .i64 r1))).put k2 (.lit (.int .i64 r2))

theorem rank_at (k1 k2 : Lit) (r1 r2 : Int) (hk1 : WideAt.IsKeyLit k1) (hk2 : WideAt.IsKeyLit k2) (h : k1 = k2 → r1 = r2) :
  (rankD k1 k2 r1 r2 2).atKey k1 (.lit (.int .i64 0)) = .lit (.int .i64 r1) ∧ (rankD k1 k2 r1 r2 2).atKey k2 (.lit (.int .i64 0)) = .lit (.int .i64 r2) := by
 have hm : IsMap ((DataW.map []).put k1 (.lit (.int .i64 r1)) : DataW Unit) := ⟨_, rfl⟩
 refine ⟨?_, atKey_put_same hm hk2 _ _⟩
 show (((DataW.map []).put k1 (.lit (.int .i64 r1))).put k2 (.lit (.int .i64 r2))).atKey k1 _ = _
 by_cases e : k1 = k2
 ·rw [h e]
  subst e
  exact atKey_put_same ⟨_, rfl⟩ hk2 _ _
 ·exact (atKey_put_other e _ _).trans (atKey_put_same ⟨_, rfl⟩ hk1 _ _)

theorem zeroInt (w : World) : (zeroValue 3).run Tryd.prog w = .ok (.int .i64 0) w := by kernel_rfl
theorem look_at {w : World} {m : Nat} {D : DataW Unit} {key : Value} {kl : Lit} {r : Int} (hown : w.ownsMap Tryd.prog 48 (plainElem Tryd.prog 3) m 2 D) (hk : keyOf Tryd.prog 48 key = some kl) (hr : D.atKey kl (.lit (.int .i64 0)) = .lit (.int .i64 r)) :
  (Instr.lookup 96 (.map (some m)) key false).run Tryd.prog w = .ok (.int .i64 r) w := by
 obtain ⟨c, hrun, hat, _⟩ := hown.lookup_int flowKeyed Tryd.underlying96 Tryd.underlying3 (zeroInt w) hk
 rw [hat] at hr
 simp at hr
 rw [hrun, hr]

end Go.Proofs.YtljogkoaaidlcaaDoor

