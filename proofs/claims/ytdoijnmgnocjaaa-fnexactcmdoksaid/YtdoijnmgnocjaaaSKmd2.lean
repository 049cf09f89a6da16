/- The program's namesNothing. -/
import Derived.Test.YtdoijnmgnocjaaaSKmd
namespace Go.Proofs.Ytdoijnmgnocjaaa
open Go.ChangeShapes Go.WideShapes Go.ChangeAt Go.RowKit Go.Joins
set_option linter.unusedVariables false
set_option linter.unusedSimpArgs false

def nullB (t n : Int) (NP NC : Bool) : Bool := decide (t = 0) && (decide (n = 0) && (NP && NC))
theorem nullB_iff {t n : Int} {NP NC : Bool} : nullB t n NP NC = true ↔ t = 0 ∧ n = 0 ∧ NP = true ∧ NC = true := by simp [nullB]
theorem null_yes {t n : Int} {NP NC q : Bool} (h : q = true ↔ t = 0 ∧ n = 0 ∧ NP = true ∧ NC = true) : q = nullB t n NP NC := by rw [Bool.eq_iff_iff, h, nullB_iff]
set_option maxRecDepth 100000 in
set_option maxHeartbeats 4000000 in
theorem namesNothing_any (k t n a b f s : Int) (o : Option Addr) (len cap : Nat) (x y z : Int) (w : World) :
    Calls Try.prog 62 #[kmd k t n a b f s (.slice o len cap) x y z] w fun e w' => e = .returned (.bool (nullB t n (nonePB a b f s len) (noneCB x y z))) ∧ Below w.heap.size w w' := by
  have hB : Below w.heap.size w w := Below.refl _ _
  have hN := fun w => isNoPacket_any a b f s o len cap w
  generalize nonePB a b f s len = NP at *
  have hE : noneCB x y z = true ↔ x = 0 ∧ y = 0 ∧ z = 0 := by simp [noneCB, and_assoc]
  obtain ⟨NC, hNC⟩ : ∃ q, noneCB x y z = q := ⟨_, rfl⟩
  rw [hNC] at hE ⊢
  clear hNC
  have HE := hide hE
  clear hE
  by_cases q0 : t = 0
  · subst q0
    by_cases q1 : n = 0
    · subst q1
      cases NP
      · go_enter Try.func62, Try.ntmps62
        go_wp2_with (first | (go_at_call 93; refine (hN _).mono ?_; rintro e w1 ⟨rfl, hb⟩; obtain ⟨hc, hf⟩ := bcell hb; have hz0 : w.heap.size < w1.heap.size := (by have hz := hb.size; (try simp at hz); omega); have hB : Below w.heap.size w w1 := (by refine Below.trans ?_ (hb.mono (by have hs := hB.size; (try simp) <;> omega)); (repeat (first | with_reducible exact hB | with_reducible exact Below.refl _ _ | with_reducible refine Below.drew ?_ | with_reducible refine below_drewN ?_ _ | with_reducible refine Below.alloc ?_ ?_ _ | with_reducible refine Below.setCell ?_ ?_ _ | (focus (simp; done)) | (focus (simp; omega)) | omega)))))
        all_goals go_ret
        all_goals refine ⟨ret_bool (null_yes ?_), by (repeat (first | with_reducible exact hB | with_reducible exact Below.refl _ _ | with_reducible refine Below.drew ?_ | with_reducible refine below_drewN ?_ _ | with_reducible refine Below.alloc ?_ ?_ _ | with_reducible refine Below.setCell ?_ ?_ _ | (focus (simp; done)) | (focus (simp; omega)) | omega))⟩
        all_goals (have hq := HE.out; simp [hq] <;> omega)
      · by_cases q2 : x = 0
        · subst q2
          by_cases q3 : y = 0
          · subst q3
            by_cases q4 : z = 0
            · subst q4
              go_enter Try.func62, Try.ntmps62
              go_wp2_with (first | (go_at_call 93; refine (hN _).mono ?_; rintro e w1 ⟨rfl, hb⟩; obtain ⟨hc, hf⟩ := bcell hb; have hz0 : w.heap.size < w1.heap.size := (by have hz := hb.size; (try simp at hz); omega); have hB : Below w.heap.size w w1 := (by refine Below.trans ?_ (hb.mono (by have hs := hB.size; (try simp) <;> omega)); (repeat (first | with_reducible exact hB | with_reducible exact Below.refl _ _ | with_reducible refine Below.drew ?_ | with_reducible refine below_drewN ?_ _ | with_reducible refine Below.alloc ?_ ?_ _ | with_reducible refine Below.setCell ?_ ?_ _ | (focus (simp; done)) | (focus (simp; omega)) | omega)))))
              all_goals go_ret
              all_goals refine ⟨ret_bool (null_yes ?_), by (repeat (first | with_reducible exact hB | with_reducible exact Below.refl _ _ | with_reducible refine Below.drew ?_ | with_reducible refine below_drewN ?_ _ | with_reducible refine Below.alloc ?_ ?_ _ | with_reducible refine Below.setCell ?_ ?_ _ | (focus (simp; done)) | (focus (simp; omega)) | omega))⟩
              all_goals (have hq := HE.out; simp [hq] <;> omega)
            · go_enter Try.func62, Try.ntmps62
              go_wp2_with (first | (go_at_call 93; refine (hN _).mono ?_; rintro e w1 ⟨rfl, hb⟩; obtain ⟨hc, hf⟩ := bcell hb; have hz0 : w.heap.size < w1.heap.size := (by have hz := hb.size; (try simp at hz); omega); have hB : Below w.heap.size w w1 := (by refine Below.trans ?_ (hb.mono (by have hs := hB.size; (try simp) <;> omega)); (repeat (first | with_reducible exact hB | with_reducible exact Below.refl _ _ | with_reducible refine Below.drew ?_ | with_reducible refine below_drewN ?_ _ | with_reducible refine Below.alloc ?_ ?_ _ | with_reducible refine Below.setCell ?_ ?_ _ | (focus (simp; done)) | (focus (simp; omega)) | omega)))))
              all_goals go_ret
              all_goals refine ⟨ret_bool (null_yes ?_), by (repeat (first | with_reducible exact hB | with_reducible exact Below.refl _ _ | with_reducible refine Below.drew ?_ | with_reducible refine below_drewN ?_ _ | with_reducible refine Below.alloc ?_ ?_ _ | with_reducible refine Below.setCell ?_ ?_ _ | (focus (simp; done)) | (focus (simp; omega)) | omega))⟩
              all_goals (have hq := HE.out; simp [hq] <;> omega)
          · go_enter Try.func62, Try.ntmps62
            go_wp2_with (first | (go_at_call 93; refine (hN _).mono ?_; rintro e w1 ⟨rfl, hb⟩; obtain ⟨hc, hf⟩ := bcell hb; have hz0 : w.heap.size < w1.heap.size := (by have hz := hb.size; (try simp at hz); omega); have hB : Below w.heap.size w w1 := (by refine Below.trans ?_ (hb.mono (by have hs := hB.size; (try simp) <;> omega)); (repeat (first | with_reducible exact hB | with_reducible exact Below.refl _ _ | with_reducible refine Below.drew ?_ | with_reducible refine below_drewN ?_ _ | with_reducible refine Below.alloc ?_ ?_ _ | with_reducible refine Below.setCell ?_ ?_ _ | (focus (simp; done)) | (focus (simp; omega)) | omega)))))
            all_goals go_ret
            all_goals refine ⟨ret_bool (null_yes ?_), by (repeat (first | with_reducible exact hB | with_reducible exact Below.refl _ _ | with_reducible refine Below.drew ?_ | with_reducible refine below_drewN ?_ _ | with_reducible refine Below.alloc ?_ ?_ _ | with_reducible refine Below.setCell ?_ ?_ _ | (focus (simp; done)) | (focus (simp; omega)) | omega))⟩
            all_goals (have hq := HE.out; simp [hq] <;> omega)
        · go_enter Try.func62, Try.ntmps62
          go_wp2_with (first | (go_at_call 93; refine (hN _).mono ?_; rintro e w1 ⟨rfl, hb⟩; obtain ⟨hc, hf⟩ := bcell hb; have hz0 : w.heap.size < w1.heap.size := (by have hz := hb.size; (try simp at hz); omega); have hB : Below w.heap.size w w1 := (by refine Below.trans ?_ (hb.mono (by have hs := hB.size; (try simp) <;> omega)); (repeat (first | with_reducible exact hB | with_reducible exact Below.refl _ _ | with_reducible refine Below.drew ?_ | with_reducible refine below_drewN ?_ _ | with_reducible refine Below.alloc ?_ ?_ _ | with_reducible refine Below.setCell ?_ ?_ _ | (focus (simp; done)) | (focus (simp; omega)) | omega)))))
          all_goals go_ret
          all_goals refine ⟨ret_bool (null_yes ?_), by (repeat (first | with_reducible exact hB | with_reducible exact Below.refl _ _ | with_reducible refine Below.drew ?_ | with_reducible refine below_drewN ?_ _ | with_reducible refine Below.alloc ?_ ?_ _ | with_reducible refine Below.setCell ?_ ?_ _ | (focus (simp; done)) | (focus (simp; omega)) | omega))⟩
          all_goals (have hq := HE.out; simp [hq] <;> omega)
    · go_enter Try.func62, Try.ntmps62
      go_wp2_with (first | (go_at_call 93; refine (hN _).mono ?_; rintro e w1 ⟨rfl, hb⟩; obtain ⟨hc, hf⟩ := bcell hb; have hz0 : w.heap.size < w1.heap.size := (by have hz := hb.size; (try simp at hz); omega); have hB : Below w.heap.size w w1 := (by refine Below.trans ?_ (hb.mono (by have hs := hB.size; (try simp) <;> omega)); (repeat (first | with_reducible exact hB | with_reducible exact Below.refl _ _ | with_reducible refine Below.drew ?_ | with_reducible refine below_drewN ?_ _ | with_reducible refine Below.alloc ?_ ?_ _ | with_reducible refine Below.setCell ?_ ?_ _ | (focus (simp; done)) | (focus (simp; omega)) | omega)))))
      all_goals go_ret
      all_goals refine ⟨ret_bool (null_yes ?_), by (repeat (first | with_reducible exact hB | with_reducible exact Below.refl _ _ | with_reducible refine Below.drew ?_ | with_reducible refine below_drewN ?_ _ | with_reducible refine Below.alloc ?_ ?_ _ | with_reducible refine Below.setCell ?_ ?_ _ | (focus (simp; done)) | (focus (simp; omega)) | omega))⟩
      all_goals (have hq := HE.out; simp [hq] <;> omega)
  · go_enter Try.func62, Try.ntmps62
    go_wp2_with (first | (go_at_call 93; refine (hN _).mono ?_; rintro e w1 ⟨rfl, hb⟩; obtain ⟨hc, hf⟩ := bcell hb; have hz0 : w.heap.size < w1.heap.size := (by have hz := hb.size; (try simp at hz); omega); have hB : Below w.heap.size w w1 := (by refine Below.trans ?_ (hb.mono (by have hs := hB.size; (try simp) <;> omega)); (repeat (first | with_reducible exact hB | with_reducible exact Below.refl _ _ | with_reducible refine Below.drew ?_ | with_reducible refine below_drewN ?_ _ | with_reducible refine Below.alloc ?_ ?_ _ | with_reducible refine Below.setCell ?_ ?_ _ | (focus (simp; done)) | (focus (simp; omega)) | omega)))))
    all_goals go_ret
    all_goals refine ⟨ret_bool (null_yes ?_), by (repeat (first | with_reducible exact hB | with_reducible exact Below.refl _ _ | with_reducible refine Below.drew ?_ | with_reducible refine below_drewN ?_ _ | with_reducible refine Below.alloc ?_ ?_ _ | with_reducible refine Below.setCell ?_ ?_ _ | (focus (simp; done)) | (focus (simp; omega)) | omega))⟩
    all_goals (have hq := HE.out; simp [hq] <;> omega)
end Go.Proofs.Ytdoijnmgnocjaaa
