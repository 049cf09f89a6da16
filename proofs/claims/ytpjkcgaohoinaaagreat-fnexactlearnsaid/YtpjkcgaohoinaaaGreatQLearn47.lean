/- What the row says of the whole program, in parts. -/
import Derived.Test.YtpjkcgaohoinaaaGreatQLearn01
namespace Go.Proofs.YtpjkcgaohoinaaaGreat
open Go.ChangeShapes Go.WideShapes Go.ChangeAt Go.RowKit Go.Joins
set_option linter.unusedVariables false
set_option linter.unusedSimpArgs false

set_option maxRecDepth 100000 in
set_option maxHeartbeats 40000000 in
theorem fnExactLearn_closed : joinedFacts Tryz.pinned.checked.prog 3 Tryz.f3 Rows.fnExactLearnSpec Rows.fnExactLearnRow = true := by
 unfold joinedFacts
 rw [Bool.and_eq_true]
 refine ⟨?_, by as_aux_lemma => kernel_rfl⟩
 rw [Bool.and_eq_true]
 refine ⟨?_, by as_aux_lemma => kernel_rfl⟩
 rw [Bool.and_eq_true]
 refine ⟨?_, by as_aux_lemma => kernel_rfl⟩
 rw [Bool.and_eq_true]
 refine ⟨?_, by as_aux_lemma => kernel_rfl⟩
 iterate 3 rw [Bool.and_assoc]
 rw [Bool.and_eq_true]
 refine ⟨?_, by as_aux_lemma => kernel_rfl⟩
 iterate 3 rw [Bool.and_assoc]
 rw [Bool.and_eq_true]
 refine ⟨?_, by as_aux_lemma => kernel_rfl⟩
 iterate 3 rw [Bool.and_assoc]
 rw [Bool.and_eq_true]
 refine ⟨?_, by as_aux_lemma => kernel_rfl⟩
 iterate 3 rw [Bool.and_assoc]
 rw [Bool.and_eq_true]
 refine ⟨?_, by as_aux_lemma => kernel_rfl⟩
 iterate 3 rw [Bool.and_assoc]
 rw [Bool.and_eq_true]
 refine ⟨?_, by as_aux_lemma => kernel_rfl⟩
 iterate 3 rw [Bool.and_assoc]
 rw [Bool.and_eq_true]
 refine ⟨?_, by as_aux_lemma => kernel_rfl⟩
 as_aux_lemma => kernel_rfl


end Go.Proofs.YtpjkcgaohoinaaaGreat

