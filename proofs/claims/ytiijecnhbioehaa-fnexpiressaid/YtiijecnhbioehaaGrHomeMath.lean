/- The flows of a table that may be, in order, are strictly ascending. -/
import Derived.Test.YtiijecnhbioehaaGrDueMath
import Derived.Test.YtiijecnhbioehaaGrPutMath
namespace Go.Proofs.Ytiijecnhbioehaa
open Go.ChangeShapes Go.WideShapes Go.ChangeAt Go.RowKit Go.Joins
set_option linter.unusedVariables false
set_option linter.unusedSimpArgs false

theorem flows_nodup {l : List Sl} (h : tableOkB l = true) : (flowsTo l l.length).Nodup := by
  unfold flowsTo List.Nodup
  rw [List.take_length, List.pairwise_map, List.pairwise_filter, List.pairwise_iff_getElem]
  intro i j hi hj hij hu1 hu2 e
  have a1 : at' l i = l[i] := by unfold at'; rw [List.getD_eq_getElem?_getD, List.getElem?_eq_getElem hi]; rfl
  have a2 : at' l j = l[j] := by unfold at'; rw [List.getD_eq_getElem?_getD, List.getElem?_eq_getElem hj]; rfl
  have e1 := (found_iff h (a := l[i].a) (p := l[i].p) (j := i)).2 ⟨hi, by rw [a1]; exact hu1, by rw [a1], by rw [a1]⟩
  have e2 := (found_iff h (a := l[i].a) (p := l[i].p) (j := j)).2 ⟨hj, by rw [a2]; exact hu2, by rw [a2]; exact (congrArg Prod.fst e).symm, by rw [a2]; exact (congrArg Prod.snd e).symm⟩
  rw [e1] at e2
  injection e2 with e2 _
  omega
theorem flowsM_asc {l : List Sl} (h : tableOkB l = true) (i : Nat) (hi : i + 1 < (flowsM l).length) : ltF ((flowsM l).getD i (0, 0)) ((flowsM l).getD (i + 1) (0, 0)) = true := by
  have e : flowsM l = sortF (flowsTo l l.length) := by unfold flowsM; rw [if_pos h]
  rw [e] at hi ⊢
  have hs := sortF_srt (flowsTo l l.length)
  have hnd : (sortF (flowsTo l l.length)).Nodup := (sortF_perm _).nodup_iff.2 (flows_nodup h)
  have h1 := List.pairwise_iff_getElem.1 hs i (i + 1) (by omega) hi (by omega)
  have h2 := List.pairwise_iff_getElem.1 hnd i (i + 1) (by omega) hi (by omega)
  rw [List.getD_eq_getElem?_getD, List.getD_eq_getElem?_getD, List.getElem?_eq_getElem hi, List.getElem?_eq_getElem (show i < _ by omega)]
  show ltF (sortF (flowsTo l l.length))[i] (sortF (flowsTo l l.length))[i + 1] = true
  cases hf : ltF (sortF (flowsTo l l.length))[i] (sortF (flowsTo l l.length))[i + 1] with
  | true => rfl
  | false => exact absurd (ltF_antisymm hf h1) h2
theorem flowsM_ok {l : List Sl} (h : tableOkB l = true) (i : Nat) (hi : i < (flowsM l).length) : flowOkB ((flowsM l).getD i (0, 0)).1 ((flowsM l).getD i (0, 0)).2 = true := by
  have e : flowsM l = sortF (flowsTo l l.length) := by unfold flowsM; rw [if_pos h]
  rw [e] at hi ⊢
  rw [List.getD_eq_getElem?_getD, List.getElem?_eq_getElem hi]
  exact flowsTo_ok h _ ((sortF_perm _).mem_iff.1 (List.getElem_mem hi))
theorem cmp_asc {x y : Int × Int} (h : ltF x y = true) (h1 : flowOkB x.1 x.2 = true) (h2 : flowOkB y.1 y.2 = true) : flowCmpI x.1 x.2 y.1 y.2 = -1 := by
  rw [← flowCmp_yes h1 h2]
  unfold ltF at h
  rw [decide_eq_true_iff] at h
  have hc : ∀ a b : Int, cmpI a b < 0 → cmpI a b = -1 := fun a b hh => cmpI_lt (cmpI_neg.1 hh)
  split
  · next e => rw [if_pos e] at h; exact hc _ _ h
  · next e => rw [if_neg e] at h; exact hc _ _ h

end Go.Proofs.Ytiijecnhbioehaa
