/- A sorted row of flows is one alone. -/
import Derived.Test.YtiijecnhbioehaaSFlows
namespace Go.Proofs.Ytiijecnhbioehaa
open Go.ChangeShapes Go.WideShapes Go.ChangeAt Go.RowKit Go.Joins
set_option linter.unusedVariables false
set_option linter.unusedSimpArgs false

theorem cmpI_neg {x y : Int} : cmpI x y < 0 ↔ x < y := by
  unfold cmpI
  constructor
  · intro h
    split at h
    · assumption
    · split at h <;> omega
  · intro h
    rw [if_pos h]; decide
theorem ltF_iff {x y : Int × Int} : ltF x y = true ↔ (x.1 < y.1 ∨ (x.1 = y.1 ∧ x.2 < y.2)) := by
  unfold ltF
  rw [decide_eq_true_iff]
  by_cases h : x.1 = y.1
  · rw [if_pos h, cmpI_neg]; omega
  · rw [if_neg h, cmpI_neg]; omega
theorem ltF_false {x y : Int × Int} : ltF x y = false ↔ ¬ (x.1 < y.1 ∨ (x.1 = y.1 ∧ x.2 < y.2)) := by
  rw [← ltF_iff]; simp
theorem ltF_irrefl (x : Int × Int) : ltF x x = false := by rw [ltF_false]; omega
theorem ltF_trans {x y z : Int × Int} (h1 : ltF x y = true) (h2 : ltF y z = true) : ltF x z = true := by rw [ltF_iff] at *; omega
theorem ltF_ntrans {x y z : Int × Int} (h1 : ltF x y = false) (h2 : ltF y z = false) : ltF x z = false := by rw [ltF_false] at *; omega
theorem ltF_antisymm {x y : Int × Int} (h1 : ltF x y = false) (h2 : ltF y x = false) : x = y := by
  rw [ltF_false] at *
  have e1 : x.1 = y.1 := by omega
  have e2 : x.2 = y.2 := by omega
  exact Prod.ext e1 e2
theorem ltF_asymm {x y : Int × Int} (h : ltF x y = true) : ltF y x = false := by rw [ltF_iff] at h; rw [ltF_false]; omega
def SrtF (L : List (Int × Int)) : Prop := L.Pairwise (fun a b => ltF b a = false)
theorem insF_nil (f : Int × Int) : insF f [] = [f] := rfl
theorem insF_lt {f x : Int × Int} (L : List (Int × Int)) (h : ltF x f = true) : insF f (x :: L) = x :: insF f L := by
  have e : plF f (x :: L) = plF f L + 1 := by unfold plF; rw [List.takeWhile_cons, if_pos h]; rfl
  unfold insF
  rw [e, List.take_succ_cons, List.drop_succ_cons]; rfl
theorem insF_ge {f x : Int × Int} (L : List (Int × Int)) (h : ltF x f = false) : insF f (x :: L) = f :: x :: L := by
  have e : plF f (x :: L) = 0 := by unfold plF; rw [List.takeWhile_cons, if_neg (by rw [h]; decide)]; rfl
  unfold insF
  rw [e]; rfl
theorem insF_perm (f : Int × Int) : ∀ L : List (Int × Int), (insF f L).Perm (f :: L)
  | [] => List.Perm.refl _
  | x :: L => by
    cases h : ltF x f with
    | true => rw [insF_lt L h]; exact ((insF_perm f L).cons x).trans (List.Perm.swap f x L)
    | false => rw [insF_ge L h]
theorem insF_srt (f : Int × Int) : ∀ L : List (Int × Int), SrtF L → SrtF (insF f L)
  | [], _ => by rw [insF_nil]; exact List.pairwise_singleton _ _
  | x :: L, hs => by
    obtain ⟨h1, h2⟩ := List.pairwise_cons.1 hs
    cases h : ltF x f with
    | true =>
      rw [insF_lt L h]
      refine List.pairwise_cons.2 ⟨fun y hy => ?_, insF_srt f L h2⟩
      rcases List.mem_cons.1 ((insF_perm f L).mem_iff.1 hy) with e | e
      · rw [e]; exact ltF_asymm h
      · exact h1 y e
    | false =>
      rw [insF_ge L h]
      refine List.pairwise_cons.2 ⟨fun y hy => ?_, hs⟩
      rcases List.mem_cons.1 hy with e | e
      · rw [e]; exact h
      · exact ltF_ntrans (h1 y e) h
theorem foldF_ok : ∀ (fs L : List (Int × Int)), SrtF L → SrtF (fs.foldl (fun L f => insF f L) L) ∧ (fs.foldl (fun L f => insF f L) L).Perm (fs ++ L)
  | [], L, h => ⟨h, List.Perm.refl _⟩
  | f :: fs, L, h => by
    obtain ⟨h1, h2⟩ := foldF_ok fs (insF f L) (insF_srt f L h)
    refine ⟨h1, h2.trans ?_⟩
    exact ((insF_perm f L).append_left fs).trans List.perm_middle
theorem sortF_srt (fs : List (Int × Int)) : SrtF (sortF fs) := (foldF_ok fs [] List.Pairwise.nil).1
theorem sortF_perm (fs : List (Int × Int)) : (sortF fs).Perm fs := by have h := (foldF_ok fs [] List.Pairwise.nil).2; rwa [List.append_nil] at h
theorem srt_one : ∀ {A B : List (Int × Int)}, SrtF A → SrtF B → A.Perm B → A = B
  | [], B, _, _, h => h.nil_eq
  | a :: A, [], _, _, h => absurd h.length_eq (by simp)
  | a :: A, b :: B, hA, hB, h => by
    obtain ⟨a1, a2⟩ := List.pairwise_cons.1 hA
    obtain ⟨b1, b2⟩ := List.pairwise_cons.1 hB
    have e : a = b := by
      rcases List.mem_cons.1 (h.mem_iff.1 (List.mem_cons_self (a := a) (l := A))) with e | e
      · exact e
      · rcases List.mem_cons.1 (h.mem_iff.2 (List.mem_cons_self (a := b) (l := B))) with e2 | e2
        · exact e2.symm
        · exact ltF_antisymm (b1 a e) (a1 b e2)
    subst e
    rw [srt_one a2 b2 (List.Perm.cons_inv h)]

end Go.Proofs.Ytiijecnhbioehaa
