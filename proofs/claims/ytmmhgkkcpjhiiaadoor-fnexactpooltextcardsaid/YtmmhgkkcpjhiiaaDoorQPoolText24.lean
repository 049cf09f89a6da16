/- The program's pool with those who serve: the newest table ahead of the others. -/
import Derived.Great.BuildSlice
import Derived.Test.YtmmhgkkcpjhiiaaDoorQPoolText23
import Derived.Test.YtmmhgkkcpjhiiaaDoorQPoolText07
namespace Go.Proofs.YtmmhgkkcpjhiiaaDoor
open Go.ChangeShapes Go.WideShapes Go.ChangeAt Go.RowKit Go.Joins
set_option linter.unusedVariables false
set_option linter.unusedSimpArgs false

def layT : Lay Pt := ⟨24, ptL, ptZ, fun _ => rfl⟩
theorem infoPt : (Tryd.prog.info? 148).map (fun i => (i.zero, i.size, i.bytes)) = some (some (.agg #[.bool false, .int .i64 0, .int .i64 0, .bool false, .int .i64 0, .int .i64 0, .bool false, .int .i64 0, .int .i64 0, .bool false, .int .i64 0, .int .i64 0, .bool false, .int .i64 0, .int .i64 0, .bool false, .int .i64 0, .int .i64 0, .bool false, .int .i64 0, .int .i64 0, .bool false, .int .i64 0, .int .i64 0]), 24, 192) := by kernel_rfl
theorem ptL_one (f : Pt) : ∀ u ∈ layT.cs f, u.oneCell' = true := fun v hv => by
 have hv' : v ∈ ptL f := hv
 unfold ptL at hv'
 simp only [List.mem_flatMap, layP, List.mem_cons, List.not_mem_nil, or_false] at hv'
 obtain ⟨a, _, rfl | rfl | rfl⟩ := hv' <;> rfl
theorem appT : AppOk layT 114 148 := ⟨Tryd.underlying114, ⟨_, _, infoPt, rfl, by decide⟩, by decide, ptL_one⟩
theorem fill_pt (f : Pt) (s : Nat) (z : Value) (hs : s = 24) (hz : z.cells.size = 24) : Instr.fill (fun i => some (i * s, s)) ((Array.range (1 * s)).map (z.cells[· % z.cells.size]!)) [(0, ptv f)] = some (ptA f) := by
 subst hs
 have h := Great.fill_whole (s := 24) (by decide) [ptv f] ((Array.range (1 * 24)).map (z.cells[· % z.cells.size]!)) (fun v hv => by simp at hv; subst hv; rfl) (by simp)
 simpa [ptv, Value.cells] using h
theorem wpList_one_pt {ops : Array Oper} {rest : List Oper} {o : Oper} {a : Act} {w : World} {Q : Exit → Act → World → Prop} (hgd : o.guard = none) (x : Operand) (ho : o.op = .buildSlice 114 1 #[(0, x)]) (f : Pt) (hx : a.eval x = ptv f)
  (h : wpList Tryd.prog ops Q rest (a.put o.dst (.slice (some ⟨w.heap.size, 0, none⟩) 1 1)) (w.alloc (.cells (ptA f) 148))) : wpList Tryd.prog ops Q (o :: rest) a w := by
 have hi := infoPt
 cases hq : Tryd.prog.info? 148 with
 | none => simp [hq] at hi
 | some i =>
  simp [hq] at hi
  refine wpList_buildSlice hgd _ 148 1 _ ho (ptA f) i _ Tryd.underlying114 hq hi.1 (by rw [hi.2.1]; decide) (by rw [hi.2.1]; decide) ?_ h
  simp only [List.map_toArray, List.map_cons, List.map_nil, hx]
  exact fill_pt f _ _ hi.2.1 rfl
theorem one_ownT (w : World) (f : Pt) : ownL layT 148 (w.alloc (.cells (ptA f) 148)) w.heap.size (.slice (some ⟨w.heap.size, 0, none⟩) 1 1) [f] :=
 ⟨by simp [layT, ptL_len], .inr ⟨w.heap.size, 1, ptA f, rfl, Nat.le_refl _, heap_alloc_new w _, by simp, by unfold maxLen; omega, by rw [ptA_size]; rfl, by simp [layT, ptA]; exact List.take_of_length_le (by rw [ptL_len]; exact Nat.le_refl _)⟩⟩
theorem setQ_below {C : Nat} {w W : World} {B : Nat} (h : Below C w W) (hB : C ≤ B) (x y z : Value) : Below C w (setP W B x y z) := ((h.setCell (p := ⟨B, 0, none⟩) hB _).setCell (p := ⟨B, 1, none⟩) hB _).setCell (p := ⟨B, 2, none⟩) hB _
abbrev polv (key : Int) (vb vr : Value) : Value := .agg #[.int .i64 key, vb, vr]

end Go.Proofs.YtmmhgkkcpjhiiaaDoor

