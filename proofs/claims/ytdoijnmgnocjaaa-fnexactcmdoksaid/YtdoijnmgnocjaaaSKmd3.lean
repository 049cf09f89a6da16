/- The program's CmdOk. -/
import Derived.Test.YtdoijnmgnocjaaaSKmd2
import Derived.Test.YtdoijnmgnocjaaaSBacks2
namespace Go.Proofs.Ytdoijnmgnocjaaa
open Go.ChangeShapes Go.WideShapes Go.ChangeAt Go.RowKit Go.Joins
set_option linter.unusedVariables false
set_option linter.unusedSimpArgs false

theorem isLimK_any (n : Int) (w : World) : Calls Try.prog 61 #[.int .i64 n] w fun e w' => e = .returned (.bool (decide (0 ≤ n) && decide (n ≤ 16))) ∧ w = w' := by
  go_enter Try.func61, Try.ntmps61
  go_wp2
  all_goals go_ret
  all_goals refine ⟨ret_bool ?_, rfl⟩
  all_goals first | (simp [*]; done) | (simp; omega)

set_option maxRecDepth 100000 in
set_option maxHeartbeats 4000000 in
theorem cmdOk0 (t n a b f s : Int) (o : Option Addr) (len cap : Nat) (x y z : Int) (w : World) (hl : len ≤ maxLen) :
    Calls Try.prog 27 #[kmd 0 t n a b f s (.slice o len cap) x y z] w fun e w' => e = .returned (.bool (kmdB 0 t n a b f s len x y z)) ∧ Below w.heap.size w w' := by
  have hB : Below w.heap.size w w := Below.refl _ _
  have hP := fun w => implPacketOk_any a b f s o len cap w hl
  have hC := fun w => implPoolCmdOk_any x y z w
  have hI := fun w => isBack_any t w
  have hL := fun w => isLimK_any n w
  unfold kmdB
  generalize packetOkB a b f s len = P at *
  generalize cmdOkB x y z = C at *
  obtain ⟨NP, hNP⟩ : ∃ q, nonePB a b f s len = q := ⟨_, rfl⟩
  obtain ⟨NC, hNC⟩ : ∃ q, noneCB x y z = q := ⟨_, rfl⟩
  rw [hNP, hNC]
  have hQ := fun W => namesNothing_any 0 t n 0 0 0 0 none 0 0 x y z W
  rw [show nonePB 0 0 0 0 0 = true from rfl, hNC] at hQ
  obtain ⟨Q, hQe⟩ : ∃ Q, nullB t n true NC = Q := ⟨_, rfl⟩
  rw [hQe] at hQ
  have HQ : Hid (Q = true ↔ (t : Int) = 0 ∧ (n : Int) = 0 ∧ true = true ∧ NC = true) := by unfold Hid; rw [← hQe]; exact nullB_iff
  clear hQe hNP hNC
  cases P
  all_goals (
    go_enter Try.func27, Try.ntmps27
    go_wp2_with (first | (go_at_call 62; refine (hQ _).mono ?_; rintro e w1 ⟨rfl, hb⟩; obtain ⟨hc, hf⟩ := bcell hb; have hz0 : w.heap.size < w1.heap.size := (by have hz := hb.size; (try simp at hz); omega); have hB : Below w.heap.size w w1 := (by refine Below.trans ?_ (hb.mono (by have hs := hB.size; (try simp) <;> omega)); (repeat (first | with_reducible exact hB | with_reducible exact Below.refl _ _ | with_reducible refine Below.drew ?_ | with_reducible refine below_drewN ?_ _ | with_reducible refine Below.alloc ?_ ?_ _ | with_reducible refine Below.setCell ?_ ?_ _ | (focus (simp; done)) | (focus (simp; omega)) | omega)))) | (go_at_call 59; refine (hP _).mono ?_; rintro e w1 ⟨rfl, hb⟩; obtain ⟨hc, hf⟩ := bcell hb; have hz0 : w.heap.size < w1.heap.size := (by have hz := hb.size; (try simp at hz); omega); have hB : Below w.heap.size w w1 := (by refine Below.trans ?_ (hb.mono (by have hs := hB.size; (try simp) <;> omega)); (repeat (first | with_reducible exact hB | with_reducible exact Below.refl _ _ | with_reducible refine Below.drew ?_ | with_reducible refine below_drewN ?_ _ | with_reducible refine Below.alloc ?_ ?_ _ | with_reducible refine Below.setCell ?_ ?_ _ | (focus (simp; done)) | (focus (simp; omega)) | omega)))) | (go_at_call 60; refine (hC _).mono ?_; rintro e w1 ⟨rfl, hb⟩; obtain ⟨hc, hf⟩ := bcell hb; have hz0 : w.heap.size < w1.heap.size := (by have hz := hb.size; (try simp at hz); omega); have hB : Below w.heap.size w w1 := (by refine Below.trans ?_ (hb.mono (by have hs := hB.size; (try simp) <;> omega)); (repeat (first | with_reducible exact hB | with_reducible exact Below.refl _ _ | with_reducible refine Below.drew ?_ | with_reducible refine below_drewN ?_ _ | with_reducible refine Below.alloc ?_ ?_ _ | with_reducible refine Below.setCell ?_ ?_ _ | (focus (simp; done)) | (focus (simp; omega)) | omega)))) | (go_at_call 43; refine (hI _).mono ?_; rintro e w1 ⟨rfl, rfl⟩) | (go_at_call 61; refine (hL _).mono ?_; rintro e w1 ⟨rfl, rfl⟩))
    all_goals go_ret
    all_goals refine ⟨ret_bool (kok_yes ?_), by (repeat (first | with_reducible exact hB | with_reducible exact Below.refl _ _ | with_reducible refine Below.drew ?_ | with_reducible refine below_drewN ?_ _ | with_reducible refine Below.alloc ?_ ?_ _ | with_reducible refine Below.setCell ?_ ?_ _ | (focus (simp; done)) | (focus (simp; omega)) | omega))⟩
    all_goals (have hq := HQ.out; clear HQ; cases NP <;> cases NC <;> simp at hq <;> simp [KOk, hq] <;> omega))
set_option maxRecDepth 100000 in
set_option maxHeartbeats 4000000 in
theorem cmdOk1 (t n a b f s : Int) (o : Option Addr) (len cap : Nat) (x y z : Int) (w : World) (hl : len ≤ maxLen) :
    Calls Try.prog 27 #[kmd 1 t n a b f s (.slice o len cap) x y z] w fun e w' => e = .returned (.bool (kmdB 1 t n a b f s len x y z)) ∧ Below w.heap.size w w' := by
  have hB : Below w.heap.size w w := Below.refl _ _
  have hP := fun w => implPacketOk_any a b f s o len cap w hl
  have hC := fun w => implPoolCmdOk_any x y z w
  have hI := fun w => isBack_any t w
  have hL := fun w => isLimK_any n w
  unfold kmdB
  generalize packetOkB a b f s len = P at *
  generalize cmdOkB x y z = C at *
  obtain ⟨NP, hNP⟩ : ∃ q, nonePB a b f s len = q := ⟨_, rfl⟩
  obtain ⟨NC, hNC⟩ : ∃ q, noneCB x y z = q := ⟨_, rfl⟩
  rw [hNP, hNC]
  have hQ := fun W => namesNothing_any 1 0 n a b f s o len cap x y z W
  rw [hNP, hNC] at hQ
  obtain ⟨Q, hQe⟩ : ∃ Q, nullB 0 n NP NC = Q := ⟨_, rfl⟩
  rw [hQe] at hQ
  have HQ : Hid (Q = true ↔ (0 : Int) = 0 ∧ (n : Int) = 0 ∧ NP = true ∧ NC = true) := by unfold Hid; rw [← hQe]; exact nullB_iff
  clear hQe hNP hNC
  by_cases q0 : 0 ≤ t
  · go_enter Try.func27, Try.ntmps27
    go_wp2_with (first | (go_at_call 62; refine (hQ _).mono ?_; rintro e w1 ⟨rfl, hb⟩; obtain ⟨hc, hf⟩ := bcell hb; have hz0 : w.heap.size < w1.heap.size := (by have hz := hb.size; (try simp at hz); omega); have hB : Below w.heap.size w w1 := (by refine Below.trans ?_ (hb.mono (by have hs := hB.size; (try simp) <;> omega)); (repeat (first | with_reducible exact hB | with_reducible exact Below.refl _ _ | with_reducible refine Below.drew ?_ | with_reducible refine below_drewN ?_ _ | with_reducible refine Below.alloc ?_ ?_ _ | with_reducible refine Below.setCell ?_ ?_ _ | (focus (simp; done)) | (focus (simp; omega)) | omega)))) | (go_at_call 59; refine (hP _).mono ?_; rintro e w1 ⟨rfl, hb⟩; obtain ⟨hc, hf⟩ := bcell hb; have hz0 : w.heap.size < w1.heap.size := (by have hz := hb.size; (try simp at hz); omega); have hB : Below w.heap.size w w1 := (by refine Below.trans ?_ (hb.mono (by have hs := hB.size; (try simp) <;> omega)); (repeat (first | with_reducible exact hB | with_reducible exact Below.refl _ _ | with_reducible refine Below.drew ?_ | with_reducible refine below_drewN ?_ _ | with_reducible refine Below.alloc ?_ ?_ _ | with_reducible refine Below.setCell ?_ ?_ _ | (focus (simp; done)) | (focus (simp; omega)) | omega)))) | (go_at_call 60; refine (hC _).mono ?_; rintro e w1 ⟨rfl, hb⟩; obtain ⟨hc, hf⟩ := bcell hb; have hz0 : w.heap.size < w1.heap.size := (by have hz := hb.size; (try simp at hz); omega); have hB : Below w.heap.size w w1 := (by refine Below.trans ?_ (hb.mono (by have hs := hB.size; (try simp) <;> omega)); (repeat (first | with_reducible exact hB | with_reducible exact Below.refl _ _ | with_reducible refine Below.drew ?_ | with_reducible refine below_drewN ?_ _ | with_reducible refine Below.alloc ?_ ?_ _ | with_reducible refine Below.setCell ?_ ?_ _ | (focus (simp; done)) | (focus (simp; omega)) | omega)))) | (go_at_call 43; refine (hI _).mono ?_; rintro e w1 ⟨rfl, rfl⟩) | (go_at_call 61; refine (hL _).mono ?_; rintro e w1 ⟨rfl, rfl⟩))
    go_region
    all_goals (try go_wp2_with (first | (go_at_call 62; refine (hQ _).mono ?_; rintro e w1 ⟨rfl, hb⟩; obtain ⟨hc, hf⟩ := bcell hb; have hz0 : w.heap.size < w1.heap.size := (by have hz := hb.size; (try simp at hz); omega); have hB : Below w.heap.size w w1 := (by refine Below.trans ?_ (hb.mono (by have hs := hB.size; (try simp) <;> omega)); (repeat (first | with_reducible exact hB | with_reducible exact Below.refl _ _ | with_reducible refine Below.drew ?_ | with_reducible refine below_drewN ?_ _ | with_reducible refine Below.alloc ?_ ?_ _ | with_reducible refine Below.setCell ?_ ?_ _ | (focus (simp; done)) | (focus (simp; omega)) | omega)))) | (go_at_call 59; refine (hP _).mono ?_; rintro e w1 ⟨rfl, hb⟩; obtain ⟨hc, hf⟩ := bcell hb; have hz0 : w.heap.size < w1.heap.size := (by have hz := hb.size; (try simp at hz); omega); have hB : Below w.heap.size w w1 := (by refine Below.trans ?_ (hb.mono (by have hs := hB.size; (try simp) <;> omega)); (repeat (first | with_reducible exact hB | with_reducible exact Below.refl _ _ | with_reducible refine Below.drew ?_ | with_reducible refine below_drewN ?_ _ | with_reducible refine Below.alloc ?_ ?_ _ | with_reducible refine Below.setCell ?_ ?_ _ | (focus (simp; done)) | (focus (simp; omega)) | omega)))) | (go_at_call 60; refine (hC _).mono ?_; rintro e w1 ⟨rfl, hb⟩; obtain ⟨hc, hf⟩ := bcell hb; have hz0 : w.heap.size < w1.heap.size := (by have hz := hb.size; (try simp at hz); omega); have hB : Below w.heap.size w w1 := (by refine Below.trans ?_ (hb.mono (by have hs := hB.size; (try simp) <;> omega)); (repeat (first | with_reducible exact hB | with_reducible exact Below.refl _ _ | with_reducible refine Below.drew ?_ | with_reducible refine below_drewN ?_ _ | with_reducible refine Below.alloc ?_ ?_ _ | with_reducible refine Below.setCell ?_ ?_ _ | (focus (simp; done)) | (focus (simp; omega)) | omega)))) | (go_at_call 43; refine (hI _).mono ?_; rintro e w1 ⟨rfl, rfl⟩) | (go_at_call 61; refine (hL _).mono ?_; rintro e w1 ⟨rfl, rfl⟩)))
    all_goals go_ret
    all_goals refine ⟨ret_bool (kok_yes ?_), by (repeat (first | with_reducible exact hB | with_reducible exact Below.refl _ _ | with_reducible refine Below.drew ?_ | with_reducible refine below_drewN ?_ _ | with_reducible refine Below.alloc ?_ ?_ _ | with_reducible refine Below.setCell ?_ ?_ _ | (focus (simp; done)) | (focus (simp; omega)) | omega))⟩
    all_goals (have hq := HQ.out; clear HQ; cases NP <;> cases NC <;> simp at hq <;> simp [KOk, hq] <;> omega)
  · go_enter Try.func27, Try.ntmps27
    go_wp2_with (first | (go_at_call 62; refine (hQ _).mono ?_; rintro e w1 ⟨rfl, hb⟩; obtain ⟨hc, hf⟩ := bcell hb; have hz0 : w.heap.size < w1.heap.size := (by have hz := hb.size; (try simp at hz); omega); have hB : Below w.heap.size w w1 := (by refine Below.trans ?_ (hb.mono (by have hs := hB.size; (try simp) <;> omega)); (repeat (first | with_reducible exact hB | with_reducible exact Below.refl _ _ | with_reducible refine Below.drew ?_ | with_reducible refine below_drewN ?_ _ | with_reducible refine Below.alloc ?_ ?_ _ | with_reducible refine Below.setCell ?_ ?_ _ | (focus (simp; done)) | (focus (simp; omega)) | omega)))) | (go_at_call 59; refine (hP _).mono ?_; rintro e w1 ⟨rfl, hb⟩; obtain ⟨hc, hf⟩ := bcell hb; have hz0 : w.heap.size < w1.heap.size := (by have hz := hb.size; (try simp at hz); omega); have hB : Below w.heap.size w w1 := (by refine Below.trans ?_ (hb.mono (by have hs := hB.size; (try simp) <;> omega)); (repeat (first | with_reducible exact hB | with_reducible exact Below.refl _ _ | with_reducible refine Below.drew ?_ | with_reducible refine below_drewN ?_ _ | with_reducible refine Below.alloc ?_ ?_ _ | with_reducible refine Below.setCell ?_ ?_ _ | (focus (simp; done)) | (focus (simp; omega)) | omega)))) | (go_at_call 60; refine (hC _).mono ?_; rintro e w1 ⟨rfl, hb⟩; obtain ⟨hc, hf⟩ := bcell hb; have hz0 : w.heap.size < w1.heap.size := (by have hz := hb.size; (try simp at hz); omega); have hB : Below w.heap.size w w1 := (by refine Below.trans ?_ (hb.mono (by have hs := hB.size; (try simp) <;> omega)); (repeat (first | with_reducible exact hB | with_reducible exact Below.refl _ _ | with_reducible refine Below.drew ?_ | with_reducible refine below_drewN ?_ _ | with_reducible refine Below.alloc ?_ ?_ _ | with_reducible refine Below.setCell ?_ ?_ _ | (focus (simp; done)) | (focus (simp; omega)) | omega)))) | (go_at_call 43; refine (hI _).mono ?_; rintro e w1 ⟨rfl, rfl⟩) | (go_at_call 61; refine (hL _).mono ?_; rintro e w1 ⟨rfl, rfl⟩))
    go_region
    all_goals (try go_wp2_with (first | (go_at_call 62; refine (hQ _).mono ?_; rintro e w1 ⟨rfl, hb⟩; obtain ⟨hc, hf⟩ := bcell hb; have hz0 : w.heap.size < w1.heap.size := (by have hz := hb.size; (try simp at hz); omega); have hB : Below w.heap.size w w1 := (by refine Below.trans ?_ (hb.mono (by have hs := hB.size; (try simp) <;> omega)); (repeat (first | with_reducible exact hB | with_reducible exact Below.refl _ _ | with_reducible refine Below.drew ?_ | with_reducible refine below_drewN ?_ _ | with_reducible refine Below.alloc ?_ ?_ _ | with_reducible refine Below.setCell ?_ ?_ _ | (focus (simp; done)) | (focus (simp; omega)) | omega)))) | (go_at_call 59; refine (hP _).mono ?_; rintro e w1 ⟨rfl, hb⟩; obtain ⟨hc, hf⟩ := bcell hb; have hz0 : w.heap.size < w1.heap.size := (by have hz := hb.size; (try simp at hz); omega); have hB : Below w.heap.size w w1 := (by refine Below.trans ?_ (hb.mono (by have hs := hB.size; (try simp) <;> omega)); (repeat (first | with_reducible exact hB | with_reducible exact Below.refl _ _ | with_reducible refine Below.drew ?_ | with_reducible refine below_drewN ?_ _ | with_reducible refine Below.alloc ?_ ?_ _ | with_reducible refine Below.setCell ?_ ?_ _ | (focus (simp; done)) | (focus (simp; omega)) | omega)))) | (go_at_call 60; refine (hC _).mono ?_; rintro e w1 ⟨rfl, hb⟩; obtain ⟨hc, hf⟩ := bcell hb; have hz0 : w.heap.size < w1.heap.size := (by have hz := hb.size; (try simp at hz); omega); have hB : Below w.heap.size w w1 := (by refine Below.trans ?_ (hb.mono (by have hs := hB.size; (try simp) <;> omega)); (repeat (first | with_reducible exact hB | with_reducible exact Below.refl _ _ | with_reducible refine Below.drew ?_ | with_reducible refine below_drewN ?_ _ | with_reducible refine Below.alloc ?_ ?_ _ | with_reducible refine Below.setCell ?_ ?_ _ | (focus (simp; done)) | (focus (simp; omega)) | omega)))) | (go_at_call 43; refine (hI _).mono ?_; rintro e w1 ⟨rfl, rfl⟩) | (go_at_call 61; refine (hL _).mono ?_; rintro e w1 ⟨rfl, rfl⟩)))
    all_goals go_ret
    all_goals refine ⟨ret_bool (kok_yes ?_), by (repeat (first | with_reducible exact hB | with_reducible exact Below.refl _ _ | with_reducible refine Below.drew ?_ | with_reducible refine below_drewN ?_ _ | with_reducible refine Below.alloc ?_ ?_ _ | with_reducible refine Below.setCell ?_ ?_ _ | (focus (simp; done)) | (focus (simp; omega)) | omega))⟩
    all_goals (have hq := HQ.out; clear HQ; cases NP <;> cases NC <;> simp at hq <;> simp [KOk, hq] <;> omega)
set_option maxRecDepth 100000 in
set_option maxHeartbeats 4000000 in
theorem cmdOk2 (t n a b f s : Int) (o : Option Addr) (len cap : Nat) (x y z : Int) (w : World) (hl : len ≤ maxLen) :
    Calls Try.prog 27 #[kmd 2 t n a b f s (.slice o len cap) x y z] w fun e w' => e = .returned (.bool (kmdB 2 t n a b f s len x y z)) ∧ Below w.heap.size w w' := by
  have hB : Below w.heap.size w w := Below.refl _ _
  have hP := fun w => implPacketOk_any a b f s o len cap w hl
  have hC := fun w => implPoolCmdOk_any x y z w
  have hI := fun w => isBack_any t w
  have hL := fun w => isLimK_any n w
  unfold kmdB
  generalize packetOkB a b f s len = P at *
  generalize cmdOkB x y z = C at *
  obtain ⟨NP, hNP⟩ : ∃ q, nonePB a b f s len = q := ⟨_, rfl⟩
  obtain ⟨NC, hNC⟩ : ∃ q, noneCB x y z = q := ⟨_, rfl⟩
  rw [hNP, hNC]
  have hQ := fun W => namesNothing_any 2 0 n a b f s o len cap x y z W
  rw [hNP, hNC] at hQ
  obtain ⟨Q, hQe⟩ : ∃ Q, nullB 0 n NP NC = Q := ⟨_, rfl⟩
  rw [hQe] at hQ
  have HQ : Hid (Q = true ↔ (0 : Int) = 0 ∧ (n : Int) = 0 ∧ NP = true ∧ NC = true) := by unfold Hid; rw [← hQe]; exact nullB_iff
  clear hQe hNP hNC
  by_cases q0 : 0 ≤ t
  · go_enter Try.func27, Try.ntmps27
    go_wp2_with (first | (go_at_call 62; refine (hQ _).mono ?_; rintro e w1 ⟨rfl, hb⟩; obtain ⟨hc, hf⟩ := bcell hb; have hz0 : w.heap.size < w1.heap.size := (by have hz := hb.size; (try simp at hz); omega); have hB : Below w.heap.size w w1 := (by refine Below.trans ?_ (hb.mono (by have hs := hB.size; (try simp) <;> omega)); (repeat (first | with_reducible exact hB | with_reducible exact Below.refl _ _ | with_reducible refine Below.drew ?_ | with_reducible refine below_drewN ?_ _ | with_reducible refine Below.alloc ?_ ?_ _ | with_reducible refine Below.setCell ?_ ?_ _ | (focus (simp; done)) | (focus (simp; omega)) | omega)))) | (go_at_call 59; refine (hP _).mono ?_; rintro e w1 ⟨rfl, hb⟩; obtain ⟨hc, hf⟩ := bcell hb; have hz0 : w.heap.size < w1.heap.size := (by have hz := hb.size; (try simp at hz); omega); have hB : Below w.heap.size w w1 := (by refine Below.trans ?_ (hb.mono (by have hs := hB.size; (try simp) <;> omega)); (repeat (first | with_reducible exact hB | with_reducible exact Below.refl _ _ | with_reducible refine Below.drew ?_ | with_reducible refine below_drewN ?_ _ | with_reducible refine Below.alloc ?_ ?_ _ | with_reducible refine Below.setCell ?_ ?_ _ | (focus (simp; done)) | (focus (simp; omega)) | omega)))) | (go_at_call 60; refine (hC _).mono ?_; rintro e w1 ⟨rfl, hb⟩; obtain ⟨hc, hf⟩ := bcell hb; have hz0 : w.heap.size < w1.heap.size := (by have hz := hb.size; (try simp at hz); omega); have hB : Below w.heap.size w w1 := (by refine Below.trans ?_ (hb.mono (by have hs := hB.size; (try simp) <;> omega)); (repeat (first | with_reducible exact hB | with_reducible exact Below.refl _ _ | with_reducible refine Below.drew ?_ | with_reducible refine below_drewN ?_ _ | with_reducible refine Below.alloc ?_ ?_ _ | with_reducible refine Below.setCell ?_ ?_ _ | (focus (simp; done)) | (focus (simp; omega)) | omega)))) | (go_at_call 43; refine (hI _).mono ?_; rintro e w1 ⟨rfl, rfl⟩) | (go_at_call 61; refine (hL _).mono ?_; rintro e w1 ⟨rfl, rfl⟩))
    go_region
    all_goals (try go_wp2_with (first | (go_at_call 62; refine (hQ _).mono ?_; rintro e w1 ⟨rfl, hb⟩; obtain ⟨hc, hf⟩ := bcell hb; have hz0 : w.heap.size < w1.heap.size := (by have hz := hb.size; (try simp at hz); omega); have hB : Below w.heap.size w w1 := (by refine Below.trans ?_ (hb.mono (by have hs := hB.size; (try simp) <;> omega)); (repeat (first | with_reducible exact hB | with_reducible exact Below.refl _ _ | with_reducible refine Below.drew ?_ | with_reducible refine below_drewN ?_ _ | with_reducible refine Below.alloc ?_ ?_ _ | with_reducible refine Below.setCell ?_ ?_ _ | (focus (simp; done)) | (focus (simp; omega)) | omega)))) | (go_at_call 59; refine (hP _).mono ?_; rintro e w1 ⟨rfl, hb⟩; obtain ⟨hc, hf⟩ := bcell hb; have hz0 : w.heap.size < w1.heap.size := (by have hz := hb.size; (try simp at hz); omega); have hB : Below w.heap.size w w1 := (by refine Below.trans ?_ (hb.mono (by have hs := hB.size; (try simp) <;> omega)); (repeat (first | with_reducible exact hB | with_reducible exact Below.refl _ _ | with_reducible refine Below.drew ?_ | with_reducible refine below_drewN ?_ _ | with_reducible refine Below.alloc ?_ ?_ _ | with_reducible refine Below.setCell ?_ ?_ _ | (focus (simp; done)) | (focus (simp; omega)) | omega)))) | (go_at_call 60; refine (hC _).mono ?_; rintro e w1 ⟨rfl, hb⟩; obtain ⟨hc, hf⟩ := bcell hb; have hz0 : w.heap.size < w1.heap.size := (by have hz := hb.size; (try simp at hz); omega); have hB : Below w.heap.size w w1 := (by refine Below.trans ?_ (hb.mono (by have hs := hB.size; (try simp) <;> omega)); (repeat (first | with_reducible exact hB | with_reducible exact Below.refl _ _ | with_reducible refine Below.drew ?_ | with_reducible refine below_drewN ?_ _ | with_reducible refine Below.alloc ?_ ?_ _ | with_reducible refine Below.setCell ?_ ?_ _ | (focus (simp; done)) | (focus (simp; omega)) | omega)))) | (go_at_call 43; refine (hI _).mono ?_; rintro e w1 ⟨rfl, rfl⟩) | (go_at_call 61; refine (hL _).mono ?_; rintro e w1 ⟨rfl, rfl⟩)))
    all_goals go_ret
    all_goals refine ⟨ret_bool (kok_yes ?_), by (repeat (first | with_reducible exact hB | with_reducible exact Below.refl _ _ | with_reducible refine Below.drew ?_ | with_reducible refine below_drewN ?_ _ | with_reducible refine Below.alloc ?_ ?_ _ | with_reducible refine Below.setCell ?_ ?_ _ | (focus (simp; done)) | (focus (simp; omega)) | omega))⟩
    all_goals (have hq := HQ.out; clear HQ; cases NP <;> cases NC <;> simp at hq <;> simp [KOk, hq] <;> omega)
  · go_enter Try.func27, Try.ntmps27
    go_wp2_with (first | (go_at_call 62; refine (hQ _).mono ?_; rintro e w1 ⟨rfl, hb⟩; obtain ⟨hc, hf⟩ := bcell hb; have hz0 : w.heap.size < w1.heap.size := (by have hz := hb.size; (try simp at hz); omega); have hB : Below w.heap.size w w1 := (by refine Below.trans ?_ (hb.mono (by have hs := hB.size; (try simp) <;> omega)); (repeat (first | with_reducible exact hB | with_reducible exact Below.refl _ _ | with_reducible refine Below.drew ?_ | with_reducible refine below_drewN ?_ _ | with_reducible refine Below.alloc ?_ ?_ _ | with_reducible refine Below.setCell ?_ ?_ _ | (focus (simp; done)) | (focus (simp; omega)) | omega)))) | (go_at_call 59; refine (hP _).mono ?_; rintro e w1 ⟨rfl, hb⟩; obtain ⟨hc, hf⟩ := bcell hb; have hz0 : w.heap.size < w1.heap.size := (by have hz := hb.size; (try simp at hz); omega); have hB : Below w.heap.size w w1 := (by refine Below.trans ?_ (hb.mono (by have hs := hB.size; (try simp) <;> omega)); (repeat (first | with_reducible exact hB | with_reducible exact Below.refl _ _ | with_reducible refine Below.drew ?_ | with_reducible refine below_drewN ?_ _ | with_reducible refine Below.alloc ?_ ?_ _ | with_reducible refine Below.setCell ?_ ?_ _ | (focus (simp; done)) | (focus (simp; omega)) | omega)))) | (go_at_call 60; refine (hC _).mono ?_; rintro e w1 ⟨rfl, hb⟩; obtain ⟨hc, hf⟩ := bcell hb; have hz0 : w.heap.size < w1.heap.size := (by have hz := hb.size; (try simp at hz); omega); have hB : Below w.heap.size w w1 := (by refine Below.trans ?_ (hb.mono (by have hs := hB.size; (try simp) <;> omega)); (repeat (first | with_reducible exact hB | with_reducible exact Below.refl _ _ | with_reducible refine Below.drew ?_ | with_reducible refine below_drewN ?_ _ | with_reducible refine Below.alloc ?_ ?_ _ | with_reducible refine Below.setCell ?_ ?_ _ | (focus (simp; done)) | (focus (simp; omega)) | omega)))) | (go_at_call 43; refine (hI _).mono ?_; rintro e w1 ⟨rfl, rfl⟩) | (go_at_call 61; refine (hL _).mono ?_; rintro e w1 ⟨rfl, rfl⟩))
    go_region
    all_goals (try go_wp2_with (first | (go_at_call 62; refine (hQ _).mono ?_; rintro e w1 ⟨rfl, hb⟩; obtain ⟨hc, hf⟩ := bcell hb; have hz0 : w.heap.size < w1.heap.size := (by have hz := hb.size; (try simp at hz); omega); have hB : Below w.heap.size w w1 := (by refine Below.trans ?_ (hb.mono (by have hs := hB.size; (try simp) <;> omega)); (repeat (first | with_reducible exact hB | with_reducible exact Below.refl _ _ | with_reducible refine Below.drew ?_ | with_reducible refine below_drewN ?_ _ | with_reducible refine Below.alloc ?_ ?_ _ | with_reducible refine Below.setCell ?_ ?_ _ | (focus (simp; done)) | (focus (simp; omega)) | omega)))) | (go_at_call 59; refine (hP _).mono ?_; rintro e w1 ⟨rfl, hb⟩; obtain ⟨hc, hf⟩ := bcell hb; have hz0 : w.heap.size < w1.heap.size := (by have hz := hb.size; (try simp at hz); omega); have hB : Below w.heap.size w w1 := (by refine Below.trans ?_ (hb.mono (by have hs := hB.size; (try simp) <;> omega)); (repeat (first | with_reducible exact hB | with_reducible exact Below.refl _ _ | with_reducible refine Below.drew ?_ | with_reducible refine below_drewN ?_ _ | with_reducible refine Below.alloc ?_ ?_ _ | with_reducible refine Below.setCell ?_ ?_ _ | (focus (simp; done)) | (focus (simp; omega)) | omega)))) | (go_at_call 60; refine (hC _).mono ?_; rintro e w1 ⟨rfl, hb⟩; obtain ⟨hc, hf⟩ := bcell hb; have hz0 : w.heap.size < w1.heap.size := (by have hz := hb.size; (try simp at hz); omega); have hB : Below w.heap.size w w1 := (by refine Below.trans ?_ (hb.mono (by have hs := hB.size; (try simp) <;> omega)); (repeat (first | with_reducible exact hB | with_reducible exact Below.refl _ _ | with_reducible refine Below.drew ?_ | with_reducible refine below_drewN ?_ _ | with_reducible refine Below.alloc ?_ ?_ _ | with_reducible refine Below.setCell ?_ ?_ _ | (focus (simp; done)) | (focus (simp; omega)) | omega)))) | (go_at_call 43; refine (hI _).mono ?_; rintro e w1 ⟨rfl, rfl⟩) | (go_at_call 61; refine (hL _).mono ?_; rintro e w1 ⟨rfl, rfl⟩)))
    all_goals go_ret
    all_goals refine ⟨ret_bool (kok_yes ?_), by (repeat (first | with_reducible exact hB | with_reducible exact Below.refl _ _ | with_reducible refine Below.drew ?_ | with_reducible refine below_drewN ?_ _ | with_reducible refine Below.alloc ?_ ?_ _ | with_reducible refine Below.setCell ?_ ?_ _ | (focus (simp; done)) | (focus (simp; omega)) | omega))⟩
    all_goals (have hq := HQ.out; clear HQ; cases NP <;> cases NC <;> simp at hq <;> simp [KOk, hq] <;> omega)
set_option maxRecDepth 100000 in
set_option maxHeartbeats 4000000 in
theorem cmdOk3 (t n a b f s : Int) (o : Option Addr) (len cap : Nat) (x y z : Int) (w : World) (hl : len ≤ maxLen) :
    Calls Try.prog 27 #[kmd 3 t n a b f s (.slice o len cap) x y z] w fun e w' => e = .returned (.bool (kmdB 3 t n a b f s len x y z)) ∧ Below w.heap.size w w' := by
  have hB : Below w.heap.size w w := Below.refl _ _
  have hP := fun w => implPacketOk_any a b f s o len cap w hl
  have hC := fun w => implPoolCmdOk_any x y z w
  have hI := fun w => isBack_any t w
  have hL := fun w => isLimK_any n w
  unfold kmdB
  generalize packetOkB a b f s len = P at *
  generalize cmdOkB x y z = C at *
  obtain ⟨NP, hNP⟩ : ∃ q, nonePB a b f s len = q := ⟨_, rfl⟩
  obtain ⟨NC, hNC⟩ : ∃ q, noneCB x y z = q := ⟨_, rfl⟩
  rw [hNP, hNC]
  have hQ := fun W => namesNothing_any 3 0 n a b f s o len cap x y z W
  rw [hNP, hNC] at hQ
  obtain ⟨Q, hQe⟩ : ∃ Q, nullB 0 n NP NC = Q := ⟨_, rfl⟩
  rw [hQe] at hQ
  have HQ : Hid (Q = true ↔ (0 : Int) = 0 ∧ (n : Int) = 0 ∧ NP = true ∧ NC = true) := by unfold Hid; rw [← hQe]; exact nullB_iff
  clear hQe hNP hNC
  by_cases q0 : 0 ≤ t
  · go_enter Try.func27, Try.ntmps27
    go_wp2_with (first | (go_at_call 62; refine (hQ _).mono ?_; rintro e w1 ⟨rfl, hb⟩; obtain ⟨hc, hf⟩ := bcell hb; have hz0 : w.heap.size < w1.heap.size := (by have hz := hb.size; (try simp at hz); omega); have hB : Below w.heap.size w w1 := (by refine Below.trans ?_ (hb.mono (by have hs := hB.size; (try simp) <;> omega)); (repeat (first | with_reducible exact hB | with_reducible exact Below.refl _ _ | with_reducible refine Below.drew ?_ | with_reducible refine below_drewN ?_ _ | with_reducible refine Below.alloc ?_ ?_ _ | with_reducible refine Below.setCell ?_ ?_ _ | (focus (simp; done)) | (focus (simp; omega)) | omega)))) | (go_at_call 59; refine (hP _).mono ?_; rintro e w1 ⟨rfl, hb⟩; obtain ⟨hc, hf⟩ := bcell hb; have hz0 : w.heap.size < w1.heap.size := (by have hz := hb.size; (try simp at hz); omega); have hB : Below w.heap.size w w1 := (by refine Below.trans ?_ (hb.mono (by have hs := hB.size; (try simp) <;> omega)); (repeat (first | with_reducible exact hB | with_reducible exact Below.refl _ _ | with_reducible refine Below.drew ?_ | with_reducible refine below_drewN ?_ _ | with_reducible refine Below.alloc ?_ ?_ _ | with_reducible refine Below.setCell ?_ ?_ _ | (focus (simp; done)) | (focus (simp; omega)) | omega)))) | (go_at_call 60; refine (hC _).mono ?_; rintro e w1 ⟨rfl, hb⟩; obtain ⟨hc, hf⟩ := bcell hb; have hz0 : w.heap.size < w1.heap.size := (by have hz := hb.size; (try simp at hz); omega); have hB : Below w.heap.size w w1 := (by refine Below.trans ?_ (hb.mono (by have hs := hB.size; (try simp) <;> omega)); (repeat (first | with_reducible exact hB | with_reducible exact Below.refl _ _ | with_reducible refine Below.drew ?_ | with_reducible refine below_drewN ?_ _ | with_reducible refine Below.alloc ?_ ?_ _ | with_reducible refine Below.setCell ?_ ?_ _ | (focus (simp; done)) | (focus (simp; omega)) | omega)))) | (go_at_call 43; refine (hI _).mono ?_; rintro e w1 ⟨rfl, rfl⟩) | (go_at_call 61; refine (hL _).mono ?_; rintro e w1 ⟨rfl, rfl⟩))
    go_region
    all_goals (try go_wp2_with (first | (go_at_call 62; refine (hQ _).mono ?_; rintro e w1 ⟨rfl, hb⟩; obtain ⟨hc, hf⟩ := bcell hb; have hz0 : w.heap.size < w1.heap.size := (by have hz := hb.size; (try simp at hz); omega); have hB : Below w.heap.size w w1 := (by refine Below.trans ?_ (hb.mono (by have hs := hB.size; (try simp) <;> omega)); (repeat (first | with_reducible exact hB | with_reducible exact Below.refl _ _ | with_reducible refine Below.drew ?_ | with_reducible refine below_drewN ?_ _ | with_reducible refine Below.alloc ?_ ?_ _ | with_reducible refine Below.setCell ?_ ?_ _ | (focus (simp; done)) | (focus (simp; omega)) | omega)))) | (go_at_call 59; refine (hP _).mono ?_; rintro e w1 ⟨rfl, hb⟩; obtain ⟨hc, hf⟩ := bcell hb; have hz0 : w.heap.size < w1.heap.size := (by have hz := hb.size; (try simp at hz); omega); have hB : Below w.heap.size w w1 := (by refine Below.trans ?_ (hb.mono (by have hs := hB.size; (try simp) <;> omega)); (repeat (first | with_reducible exact hB | with_reducible exact Below.refl _ _ | with_reducible refine Below.drew ?_ | with_reducible refine below_drewN ?_ _ | with_reducible refine Below.alloc ?_ ?_ _ | with_reducible refine Below.setCell ?_ ?_ _ | (focus (simp; done)) | (focus (simp; omega)) | omega)))) | (go_at_call 60; refine (hC _).mono ?_; rintro e w1 ⟨rfl, hb⟩; obtain ⟨hc, hf⟩ := bcell hb; have hz0 : w.heap.size < w1.heap.size := (by have hz := hb.size; (try simp at hz); omega); have hB : Below w.heap.size w w1 := (by refine Below.trans ?_ (hb.mono (by have hs := hB.size; (try simp) <;> omega)); (repeat (first | with_reducible exact hB | with_reducible exact Below.refl _ _ | with_reducible refine Below.drew ?_ | with_reducible refine below_drewN ?_ _ | with_reducible refine Below.alloc ?_ ?_ _ | with_reducible refine Below.setCell ?_ ?_ _ | (focus (simp; done)) | (focus (simp; omega)) | omega)))) | (go_at_call 43; refine (hI _).mono ?_; rintro e w1 ⟨rfl, rfl⟩) | (go_at_call 61; refine (hL _).mono ?_; rintro e w1 ⟨rfl, rfl⟩)))
    all_goals go_ret
    all_goals refine ⟨ret_bool (kok_yes ?_), by (repeat (first | with_reducible exact hB | with_reducible exact Below.refl _ _ | with_reducible refine Below.drew ?_ | with_reducible refine below_drewN ?_ _ | with_reducible refine Below.alloc ?_ ?_ _ | with_reducible refine Below.setCell ?_ ?_ _ | (focus (simp; done)) | (focus (simp; omega)) | omega))⟩
    all_goals (have hq := HQ.out; clear HQ; cases NP <;> cases NC <;> simp at hq <;> simp [KOk, hq] <;> omega)
  · go_enter Try.func27, Try.ntmps27
    go_wp2_with (first | (go_at_call 62; refine (hQ _).mono ?_; rintro e w1 ⟨rfl, hb⟩; obtain ⟨hc, hf⟩ := bcell hb; have hz0 : w.heap.size < w1.heap.size := (by have hz := hb.size; (try simp at hz); omega); have hB : Below w.heap.size w w1 := (by refine Below.trans ?_ (hb.mono (by have hs := hB.size; (try simp) <;> omega)); (repeat (first | with_reducible exact hB | with_reducible exact Below.refl _ _ | with_reducible refine Below.drew ?_ | with_reducible refine below_drewN ?_ _ | with_reducible refine Below.alloc ?_ ?_ _ | with_reducible refine Below.setCell ?_ ?_ _ | (focus (simp; done)) | (focus (simp; omega)) | omega)))) | (go_at_call 59; refine (hP _).mono ?_; rintro e w1 ⟨rfl, hb⟩; obtain ⟨hc, hf⟩ := bcell hb; have hz0 : w.heap.size < w1.heap.size := (by have hz := hb.size; (try simp at hz); omega); have hB : Below w.heap.size w w1 := (by refine Below.trans ?_ (hb.mono (by have hs := hB.size; (try simp) <;> omega)); (repeat (first | with_reducible exact hB | with_reducible exact Below.refl _ _ | with_reducible refine Below.drew ?_ | with_reducible refine below_drewN ?_ _ | with_reducible refine Below.alloc ?_ ?_ _ | with_reducible refine Below.setCell ?_ ?_ _ | (focus (simp; done)) | (focus (simp; omega)) | omega)))) | (go_at_call 60; refine (hC _).mono ?_; rintro e w1 ⟨rfl, hb⟩; obtain ⟨hc, hf⟩ := bcell hb; have hz0 : w.heap.size < w1.heap.size := (by have hz := hb.size; (try simp at hz); omega); have hB : Below w.heap.size w w1 := (by refine Below.trans ?_ (hb.mono (by have hs := hB.size; (try simp) <;> omega)); (repeat (first | with_reducible exact hB | with_reducible exact Below.refl _ _ | with_reducible refine Below.drew ?_ | with_reducible refine below_drewN ?_ _ | with_reducible refine Below.alloc ?_ ?_ _ | with_reducible refine Below.setCell ?_ ?_ _ | (focus (simp; done)) | (focus (simp; omega)) | omega)))) | (go_at_call 43; refine (hI _).mono ?_; rintro e w1 ⟨rfl, rfl⟩) | (go_at_call 61; refine (hL _).mono ?_; rintro e w1 ⟨rfl, rfl⟩))
    go_region
    all_goals (try go_wp2_with (first | (go_at_call 62; refine (hQ _).mono ?_; rintro e w1 ⟨rfl, hb⟩; obtain ⟨hc, hf⟩ := bcell hb; have hz0 : w.heap.size < w1.heap.size := (by have hz := hb.size; (try simp at hz); omega); have hB : Below w.heap.size w w1 := (by refine Below.trans ?_ (hb.mono (by have hs := hB.size; (try simp) <;> omega)); (repeat (first | with_reducible exact hB | with_reducible exact Below.refl _ _ | with_reducible refine Below.drew ?_ | with_reducible refine below_drewN ?_ _ | with_reducible refine Below.alloc ?_ ?_ _ | with_reducible refine Below.setCell ?_ ?_ _ | (focus (simp; done)) | (focus (simp; omega)) | omega)))) | (go_at_call 59; refine (hP _).mono ?_; rintro e w1 ⟨rfl, hb⟩; obtain ⟨hc, hf⟩ := bcell hb; have hz0 : w.heap.size < w1.heap.size := (by have hz := hb.size; (try simp at hz); omega); have hB : Below w.heap.size w w1 := (by refine Below.trans ?_ (hb.mono (by have hs := hB.size; (try simp) <;> omega)); (repeat (first | with_reducible exact hB | with_reducible exact Below.refl _ _ | with_reducible refine Below.drew ?_ | with_reducible refine below_drewN ?_ _ | with_reducible refine Below.alloc ?_ ?_ _ | with_reducible refine Below.setCell ?_ ?_ _ | (focus (simp; done)) | (focus (simp; omega)) | omega)))) | (go_at_call 60; refine (hC _).mono ?_; rintro e w1 ⟨rfl, hb⟩; obtain ⟨hc, hf⟩ := bcell hb; have hz0 : w.heap.size < w1.heap.size := (by have hz := hb.size; (try simp at hz); omega); have hB : Below w.heap.size w w1 := (by refine Below.trans ?_ (hb.mono (by have hs := hB.size; (try simp) <;> omega)); (repeat (first | with_reducible exact hB | with_reducible exact Below.refl _ _ | with_reducible refine Below.drew ?_ | with_reducible refine below_drewN ?_ _ | with_reducible refine Below.alloc ?_ ?_ _ | with_reducible refine Below.setCell ?_ ?_ _ | (focus (simp; done)) | (focus (simp; omega)) | omega)))) | (go_at_call 43; refine (hI _).mono ?_; rintro e w1 ⟨rfl, rfl⟩) | (go_at_call 61; refine (hL _).mono ?_; rintro e w1 ⟨rfl, rfl⟩)))
    all_goals go_ret
    all_goals refine ⟨ret_bool (kok_yes ?_), by (repeat (first | with_reducible exact hB | with_reducible exact Below.refl _ _ | with_reducible refine Below.drew ?_ | with_reducible refine below_drewN ?_ _ | with_reducible refine Below.alloc ?_ ?_ _ | with_reducible refine Below.setCell ?_ ?_ _ | (focus (simp; done)) | (focus (simp; omega)) | omega))⟩
    all_goals (have hq := HQ.out; clear HQ; cases NP <;> cases NC <;> simp at hq <;> simp [KOk, hq] <;> omega)
set_option maxRecDepth 100000 in
set_option maxHeartbeats 4000000 in
theorem cmdOk4 (t n a b f s : Int) (o : Option Addr) (len cap : Nat) (x y z : Int) (w : World) (hl : len ≤ maxLen) :
    Calls Try.prog 27 #[kmd 4 t n a b f s (.slice o len cap) x y z] w fun e w' => e = .returned (.bool (kmdB 4 t n a b f s len x y z)) ∧ Below w.heap.size w w' := by
  have hB : Below w.heap.size w w := Below.refl _ _
  have hP := fun w => implPacketOk_any a b f s o len cap w hl
  have hC := fun w => implPoolCmdOk_any x y z w
  have hI := fun w => isBack_any t w
  have hL := fun w => isLimK_any n w
  unfold kmdB
  generalize packetOkB a b f s len = P at *
  generalize cmdOkB x y z = C at *
  obtain ⟨NP, hNP⟩ : ∃ q, nonePB a b f s len = q := ⟨_, rfl⟩
  obtain ⟨NC, hNC⟩ : ∃ q, noneCB x y z = q := ⟨_, rfl⟩
  rw [hNP, hNC]
  have hQ := fun W => namesNothing_any 4 t n a b f s o len cap x y z W
  rw [hNP, hNC] at hQ
  obtain ⟨Q, hQe⟩ : ∃ Q, nullB t n NP NC = Q := ⟨_, rfl⟩
  rw [hQe] at hQ
  have HQ : Hid (Q = true ↔ (t : Int) = 0 ∧ (n : Int) = 0 ∧ NP = true ∧ NC = true) := by unfold Hid; rw [← hQe]; exact nullB_iff
  clear hQe hNP hNC
  go_enter Try.func27, Try.ntmps27
  go_wp2_with (first | (go_at_call 62; refine (hQ _).mono ?_; rintro e w1 ⟨rfl, hb⟩; obtain ⟨hc, hf⟩ := bcell hb; have hz0 : w.heap.size < w1.heap.size := (by have hz := hb.size; (try simp at hz); omega); have hB : Below w.heap.size w w1 := (by refine Below.trans ?_ (hb.mono (by have hs := hB.size; (try simp) <;> omega)); (repeat (first | with_reducible exact hB | with_reducible exact Below.refl _ _ | with_reducible refine Below.drew ?_ | with_reducible refine below_drewN ?_ _ | with_reducible refine Below.alloc ?_ ?_ _ | with_reducible refine Below.setCell ?_ ?_ _ | (focus (simp; done)) | (focus (simp; omega)) | omega)))) | (go_at_call 59; refine (hP _).mono ?_; rintro e w1 ⟨rfl, hb⟩; obtain ⟨hc, hf⟩ := bcell hb; have hz0 : w.heap.size < w1.heap.size := (by have hz := hb.size; (try simp at hz); omega); have hB : Below w.heap.size w w1 := (by refine Below.trans ?_ (hb.mono (by have hs := hB.size; (try simp) <;> omega)); (repeat (first | with_reducible exact hB | with_reducible exact Below.refl _ _ | with_reducible refine Below.drew ?_ | with_reducible refine below_drewN ?_ _ | with_reducible refine Below.alloc ?_ ?_ _ | with_reducible refine Below.setCell ?_ ?_ _ | (focus (simp; done)) | (focus (simp; omega)) | omega)))) | (go_at_call 60; refine (hC _).mono ?_; rintro e w1 ⟨rfl, hb⟩; obtain ⟨hc, hf⟩ := bcell hb; have hz0 : w.heap.size < w1.heap.size := (by have hz := hb.size; (try simp at hz); omega); have hB : Below w.heap.size w w1 := (by refine Below.trans ?_ (hb.mono (by have hs := hB.size; (try simp) <;> omega)); (repeat (first | with_reducible exact hB | with_reducible exact Below.refl _ _ | with_reducible refine Below.drew ?_ | with_reducible refine below_drewN ?_ _ | with_reducible refine Below.alloc ?_ ?_ _ | with_reducible refine Below.setCell ?_ ?_ _ | (focus (simp; done)) | (focus (simp; omega)) | omega)))) | (go_at_call 43; refine (hI _).mono ?_; rintro e w1 ⟨rfl, rfl⟩) | (go_at_call 61; refine (hL _).mono ?_; rintro e w1 ⟨rfl, rfl⟩))
  all_goals go_ret
  all_goals refine ⟨ret_bool (kok_yes ?_), by (repeat (first | with_reducible exact hB | with_reducible exact Below.refl _ _ | with_reducible refine Below.drew ?_ | with_reducible refine below_drewN ?_ _ | with_reducible refine Below.alloc ?_ ?_ _ | with_reducible refine Below.setCell ?_ ?_ _ | (focus (simp; done)) | (focus (simp; omega)) | omega))⟩
  all_goals (have hq := HQ.out; clear HQ; cases NP <;> cases NC <;> simp at hq <;> simp [KOk, hq] <;> omega)
set_option maxRecDepth 100000 in
set_option maxHeartbeats 4000000 in
theorem cmdOk5 (t n a b f s : Int) (o : Option Addr) (len cap : Nat) (x y z : Int) (w : World) (hl : len ≤ maxLen) :
    Calls Try.prog 27 #[kmd 5 t n a b f s (.slice o len cap) x y z] w fun e w' => e = .returned (.bool (kmdB 5 t n a b f s len x y z)) ∧ Below w.heap.size w w' := by
  have hB : Below w.heap.size w w := Below.refl _ _
  have hP := fun w => implPacketOk_any a b f s o len cap w hl
  have hC := fun w => implPoolCmdOk_any x y z w
  have hI := fun w => isBack_any t w
  have hL := fun w => isLimK_any n w
  unfold kmdB
  generalize packetOkB a b f s len = P at *
  generalize cmdOkB x y z = C at *
  obtain ⟨NP, hNP⟩ : ∃ q, nonePB a b f s len = q := ⟨_, rfl⟩
  obtain ⟨NC, hNC⟩ : ∃ q, noneCB x y z = q := ⟨_, rfl⟩
  rw [hNP, hNC]
  have hQ := fun W => namesNothing_any 5 t n a b f s o len cap 0 0 0 W
  rw [show noneCB 0 0 0 = true from rfl, hNP] at hQ
  obtain ⟨Q, hQe⟩ : ∃ Q, nullB t n NP true = Q := ⟨_, rfl⟩
  rw [hQe] at hQ
  have HQ : Hid (Q = true ↔ (t : Int) = 0 ∧ (n : Int) = 0 ∧ NP = true ∧ true = true) := by unfold Hid; rw [← hQe]; exact nullB_iff
  clear hQe hNP hNC
  cases C
  all_goals (
    go_enter Try.func27, Try.ntmps27
    go_wp2_with (first | (go_at_call 62; refine (hQ _).mono ?_; rintro e w1 ⟨rfl, hb⟩; obtain ⟨hc, hf⟩ := bcell hb; have hz0 : w.heap.size < w1.heap.size := (by have hz := hb.size; (try simp at hz); omega); have hB : Below w.heap.size w w1 := (by refine Below.trans ?_ (hb.mono (by have hs := hB.size; (try simp) <;> omega)); (repeat (first | with_reducible exact hB | with_reducible exact Below.refl _ _ | with_reducible refine Below.drew ?_ | with_reducible refine below_drewN ?_ _ | with_reducible refine Below.alloc ?_ ?_ _ | with_reducible refine Below.setCell ?_ ?_ _ | (focus (simp; done)) | (focus (simp; omega)) | omega)))) | (go_at_call 59; refine (hP _).mono ?_; rintro e w1 ⟨rfl, hb⟩; obtain ⟨hc, hf⟩ := bcell hb; have hz0 : w.heap.size < w1.heap.size := (by have hz := hb.size; (try simp at hz); omega); have hB : Below w.heap.size w w1 := (by refine Below.trans ?_ (hb.mono (by have hs := hB.size; (try simp) <;> omega)); (repeat (first | with_reducible exact hB | with_reducible exact Below.refl _ _ | with_reducible refine Below.drew ?_ | with_reducible refine below_drewN ?_ _ | with_reducible refine Below.alloc ?_ ?_ _ | with_reducible refine Below.setCell ?_ ?_ _ | (focus (simp; done)) | (focus (simp; omega)) | omega)))) | (go_at_call 60; refine (hC _).mono ?_; rintro e w1 ⟨rfl, hb⟩; obtain ⟨hc, hf⟩ := bcell hb; have hz0 : w.heap.size < w1.heap.size := (by have hz := hb.size; (try simp at hz); omega); have hB : Below w.heap.size w w1 := (by refine Below.trans ?_ (hb.mono (by have hs := hB.size; (try simp) <;> omega)); (repeat (first | with_reducible exact hB | with_reducible exact Below.refl _ _ | with_reducible refine Below.drew ?_ | with_reducible refine below_drewN ?_ _ | with_reducible refine Below.alloc ?_ ?_ _ | with_reducible refine Below.setCell ?_ ?_ _ | (focus (simp; done)) | (focus (simp; omega)) | omega)))) | (go_at_call 43; refine (hI _).mono ?_; rintro e w1 ⟨rfl, rfl⟩) | (go_at_call 61; refine (hL _).mono ?_; rintro e w1 ⟨rfl, rfl⟩))
    all_goals go_ret
    all_goals refine ⟨ret_bool (kok_yes ?_), by (repeat (first | with_reducible exact hB | with_reducible exact Below.refl _ _ | with_reducible refine Below.drew ?_ | with_reducible refine below_drewN ?_ _ | with_reducible refine Below.alloc ?_ ?_ _ | with_reducible refine Below.setCell ?_ ?_ _ | (focus (simp; done)) | (focus (simp; omega)) | omega))⟩
    all_goals (have hq := HQ.out; clear HQ; cases NP <;> cases NC <;> simp at hq <;> simp [KOk, hq] <;> omega))
set_option maxRecDepth 100000 in
set_option maxHeartbeats 4000000 in
theorem cmdOk6 (t n a b f s : Int) (o : Option Addr) (len cap : Nat) (x y z : Int) (w : World) (hl : len ≤ maxLen) :
    Calls Try.prog 27 #[kmd 6 t n a b f s (.slice o len cap) x y z] w fun e w' => e = .returned (.bool (kmdB 6 t n a b f s len x y z)) ∧ Below w.heap.size w w' := by
  have hB : Below w.heap.size w w := Below.refl _ _
  have hP := fun w => implPacketOk_any a b f s o len cap w hl
  have hC := fun w => implPoolCmdOk_any x y z w
  have hI := fun w => isBack_any t w
  have hL := fun w => isLimK_any n w
  unfold kmdB
  generalize packetOkB a b f s len = P at *
  generalize cmdOkB x y z = C at *
  obtain ⟨NP, hNP⟩ : ∃ q, nonePB a b f s len = q := ⟨_, rfl⟩
  obtain ⟨NC, hNC⟩ : ∃ q, noneCB x y z = q := ⟨_, rfl⟩
  rw [hNP, hNC]
  have hQ := fun W => namesNothing_any 6 t 0 a b f s o len cap x y z W
  rw [hNP, hNC] at hQ
  obtain ⟨Q, hQe⟩ : ∃ Q, nullB t 0 NP NC = Q := ⟨_, rfl⟩
  rw [hQe] at hQ
  have HQ : Hid (Q = true ↔ (t : Int) = 0 ∧ (0 : Int) = 0 ∧ NP = true ∧ NC = true) := by unfold Hid; rw [← hQe]; exact nullB_iff
  clear hQe hNP hNC
  by_cases q0 : 0 ≤ n
  · go_enter Try.func27, Try.ntmps27
    go_wp2_with (first | (go_at_call 62; refine (hQ _).mono ?_; rintro e w1 ⟨rfl, hb⟩; obtain ⟨hc, hf⟩ := bcell hb; have hz0 : w.heap.size < w1.heap.size := (by have hz := hb.size; (try simp at hz); omega); have hB : Below w.heap.size w w1 := (by refine Below.trans ?_ (hb.mono (by have hs := hB.size; (try simp) <;> omega)); (repeat (first | with_reducible exact hB | with_reducible exact Below.refl _ _ | with_reducible refine Below.drew ?_ | with_reducible refine below_drewN ?_ _ | with_reducible refine Below.alloc ?_ ?_ _ | with_reducible refine Below.setCell ?_ ?_ _ | (focus (simp; done)) | (focus (simp; omega)) | omega)))) | (go_at_call 59; refine (hP _).mono ?_; rintro e w1 ⟨rfl, hb⟩; obtain ⟨hc, hf⟩ := bcell hb; have hz0 : w.heap.size < w1.heap.size := (by have hz := hb.size; (try simp at hz); omega); have hB : Below w.heap.size w w1 := (by refine Below.trans ?_ (hb.mono (by have hs := hB.size; (try simp) <;> omega)); (repeat (first | with_reducible exact hB | with_reducible exact Below.refl _ _ | with_reducible refine Below.drew ?_ | with_reducible refine below_drewN ?_ _ | with_reducible refine Below.alloc ?_ ?_ _ | with_reducible refine Below.setCell ?_ ?_ _ | (focus (simp; done)) | (focus (simp; omega)) | omega)))) | (go_at_call 60; refine (hC _).mono ?_; rintro e w1 ⟨rfl, hb⟩; obtain ⟨hc, hf⟩ := bcell hb; have hz0 : w.heap.size < w1.heap.size := (by have hz := hb.size; (try simp at hz); omega); have hB : Below w.heap.size w w1 := (by refine Below.trans ?_ (hb.mono (by have hs := hB.size; (try simp) <;> omega)); (repeat (first | with_reducible exact hB | with_reducible exact Below.refl _ _ | with_reducible refine Below.drew ?_ | with_reducible refine below_drewN ?_ _ | with_reducible refine Below.alloc ?_ ?_ _ | with_reducible refine Below.setCell ?_ ?_ _ | (focus (simp; done)) | (focus (simp; omega)) | omega)))) | (go_at_call 43; refine (hI _).mono ?_; rintro e w1 ⟨rfl, rfl⟩) | (go_at_call 61; refine (hL _).mono ?_; rintro e w1 ⟨rfl, rfl⟩))
    go_region
    all_goals (try go_wp2_with (first | (go_at_call 62; refine (hQ _).mono ?_; rintro e w1 ⟨rfl, hb⟩; obtain ⟨hc, hf⟩ := bcell hb; have hz0 : w.heap.size < w1.heap.size := (by have hz := hb.size; (try simp at hz); omega); have hB : Below w.heap.size w w1 := (by refine Below.trans ?_ (hb.mono (by have hs := hB.size; (try simp) <;> omega)); (repeat (first | with_reducible exact hB | with_reducible exact Below.refl _ _ | with_reducible refine Below.drew ?_ | with_reducible refine below_drewN ?_ _ | with_reducible refine Below.alloc ?_ ?_ _ | with_reducible refine Below.setCell ?_ ?_ _ | (focus (simp; done)) | (focus (simp; omega)) | omega)))) | (go_at_call 59; refine (hP _).mono ?_; rintro e w1 ⟨rfl, hb⟩; obtain ⟨hc, hf⟩ := bcell hb; have hz0 : w.heap.size < w1.heap.size := (by have hz := hb.size; (try simp at hz); omega); have hB : Below w.heap.size w w1 := (by refine Below.trans ?_ (hb.mono (by have hs := hB.size; (try simp) <;> omega)); (repeat (first | with_reducible exact hB | with_reducible exact Below.refl _ _ | with_reducible refine Below.drew ?_ | with_reducible refine below_drewN ?_ _ | with_reducible refine Below.alloc ?_ ?_ _ | with_reducible refine Below.setCell ?_ ?_ _ | (focus (simp; done)) | (focus (simp; omega)) | omega)))) | (go_at_call 60; refine (hC _).mono ?_; rintro e w1 ⟨rfl, hb⟩; obtain ⟨hc, hf⟩ := bcell hb; have hz0 : w.heap.size < w1.heap.size := (by have hz := hb.size; (try simp at hz); omega); have hB : Below w.heap.size w w1 := (by refine Below.trans ?_ (hb.mono (by have hs := hB.size; (try simp) <;> omega)); (repeat (first | with_reducible exact hB | with_reducible exact Below.refl _ _ | with_reducible refine Below.drew ?_ | with_reducible refine below_drewN ?_ _ | with_reducible refine Below.alloc ?_ ?_ _ | with_reducible refine Below.setCell ?_ ?_ _ | (focus (simp; done)) | (focus (simp; omega)) | omega)))) | (go_at_call 43; refine (hI _).mono ?_; rintro e w1 ⟨rfl, rfl⟩) | (go_at_call 61; refine (hL _).mono ?_; rintro e w1 ⟨rfl, rfl⟩)))
    all_goals go_ret
    all_goals refine ⟨ret_bool (kok_yes ?_), by (repeat (first | with_reducible exact hB | with_reducible exact Below.refl _ _ | with_reducible refine Below.drew ?_ | with_reducible refine below_drewN ?_ _ | with_reducible refine Below.alloc ?_ ?_ _ | with_reducible refine Below.setCell ?_ ?_ _ | (focus (simp; done)) | (focus (simp; omega)) | omega))⟩
    all_goals (have hq := HQ.out; clear HQ; cases NP <;> cases NC <;> simp at hq <;> simp [KOk, hq] <;> omega)
  · go_enter Try.func27, Try.ntmps27
    go_wp2_with (first | (go_at_call 62; refine (hQ _).mono ?_; rintro e w1 ⟨rfl, hb⟩; obtain ⟨hc, hf⟩ := bcell hb; have hz0 : w.heap.size < w1.heap.size := (by have hz := hb.size; (try simp at hz); omega); have hB : Below w.heap.size w w1 := (by refine Below.trans ?_ (hb.mono (by have hs := hB.size; (try simp) <;> omega)); (repeat (first | with_reducible exact hB | with_reducible exact Below.refl _ _ | with_reducible refine Below.drew ?_ | with_reducible refine below_drewN ?_ _ | with_reducible refine Below.alloc ?_ ?_ _ | with_reducible refine Below.setCell ?_ ?_ _ | (focus (simp; done)) | (focus (simp; omega)) | omega)))) | (go_at_call 59; refine (hP _).mono ?_; rintro e w1 ⟨rfl, hb⟩; obtain ⟨hc, hf⟩ := bcell hb; have hz0 : w.heap.size < w1.heap.size := (by have hz := hb.size; (try simp at hz); omega); have hB : Below w.heap.size w w1 := (by refine Below.trans ?_ (hb.mono (by have hs := hB.size; (try simp) <;> omega)); (repeat (first | with_reducible exact hB | with_reducible exact Below.refl _ _ | with_reducible refine Below.drew ?_ | with_reducible refine below_drewN ?_ _ | with_reducible refine Below.alloc ?_ ?_ _ | with_reducible refine Below.setCell ?_ ?_ _ | (focus (simp; done)) | (focus (simp; omega)) | omega)))) | (go_at_call 60; refine (hC _).mono ?_; rintro e w1 ⟨rfl, hb⟩; obtain ⟨hc, hf⟩ := bcell hb; have hz0 : w.heap.size < w1.heap.size := (by have hz := hb.size; (try simp at hz); omega); have hB : Below w.heap.size w w1 := (by refine Below.trans ?_ (hb.mono (by have hs := hB.size; (try simp) <;> omega)); (repeat (first | with_reducible exact hB | with_reducible exact Below.refl _ _ | with_reducible refine Below.drew ?_ | with_reducible refine below_drewN ?_ _ | with_reducible refine Below.alloc ?_ ?_ _ | with_reducible refine Below.setCell ?_ ?_ _ | (focus (simp; done)) | (focus (simp; omega)) | omega)))) | (go_at_call 43; refine (hI _).mono ?_; rintro e w1 ⟨rfl, rfl⟩) | (go_at_call 61; refine (hL _).mono ?_; rintro e w1 ⟨rfl, rfl⟩))
    go_region
    all_goals (try go_wp2_with (first | (go_at_call 62; refine (hQ _).mono ?_; rintro e w1 ⟨rfl, hb⟩; obtain ⟨hc, hf⟩ := bcell hb; have hz0 : w.heap.size < w1.heap.size := (by have hz := hb.size; (try simp at hz); omega); have hB : Below w.heap.size w w1 := (by refine Below.trans ?_ (hb.mono (by have hs := hB.size; (try simp) <;> omega)); (repeat (first | with_reducible exact hB | with_reducible exact Below.refl _ _ | with_reducible refine Below.drew ?_ | with_reducible refine below_drewN ?_ _ | with_reducible refine Below.alloc ?_ ?_ _ | with_reducible refine Below.setCell ?_ ?_ _ | (focus (simp; done)) | (focus (simp; omega)) | omega)))) | (go_at_call 59; refine (hP _).mono ?_; rintro e w1 ⟨rfl, hb⟩; obtain ⟨hc, hf⟩ := bcell hb; have hz0 : w.heap.size < w1.heap.size := (by have hz := hb.size; (try simp at hz); omega); have hB : Below w.heap.size w w1 := (by refine Below.trans ?_ (hb.mono (by have hs := hB.size; (try simp) <;> omega)); (repeat (first | with_reducible exact hB | with_reducible exact Below.refl _ _ | with_reducible refine Below.drew ?_ | with_reducible refine below_drewN ?_ _ | with_reducible refine Below.alloc ?_ ?_ _ | with_reducible refine Below.setCell ?_ ?_ _ | (focus (simp; done)) | (focus (simp; omega)) | omega)))) | (go_at_call 60; refine (hC _).mono ?_; rintro e w1 ⟨rfl, hb⟩; obtain ⟨hc, hf⟩ := bcell hb; have hz0 : w.heap.size < w1.heap.size := (by have hz := hb.size; (try simp at hz); omega); have hB : Below w.heap.size w w1 := (by refine Below.trans ?_ (hb.mono (by have hs := hB.size; (try simp) <;> omega)); (repeat (first | with_reducible exact hB | with_reducible exact Below.refl _ _ | with_reducible refine Below.drew ?_ | with_reducible refine below_drewN ?_ _ | with_reducible refine Below.alloc ?_ ?_ _ | with_reducible refine Below.setCell ?_ ?_ _ | (focus (simp; done)) | (focus (simp; omega)) | omega)))) | (go_at_call 43; refine (hI _).mono ?_; rintro e w1 ⟨rfl, rfl⟩) | (go_at_call 61; refine (hL _).mono ?_; rintro e w1 ⟨rfl, rfl⟩)))
    all_goals go_ret
    all_goals refine ⟨ret_bool (kok_yes ?_), by (repeat (first | with_reducible exact hB | with_reducible exact Below.refl _ _ | with_reducible refine Below.drew ?_ | with_reducible refine below_drewN ?_ _ | with_reducible refine Below.alloc ?_ ?_ _ | with_reducible refine Below.setCell ?_ ?_ _ | (focus (simp; done)) | (focus (simp; omega)) | omega))⟩
    all_goals (have hq := HQ.out; clear HQ; cases NP <;> cases NC <;> simp at hq <;> simp [KOk, hq] <;> omega)
set_option maxRecDepth 100000 in
set_option maxHeartbeats 4000000 in
theorem cmdOk7 (t n a b f s : Int) (o : Option Addr) (len cap : Nat) (x y z : Int) (w : World) (hl : len ≤ maxLen) :
    Calls Try.prog 27 #[kmd 7 t n a b f s (.slice o len cap) x y z] w fun e w' => e = .returned (.bool (kmdB 7 t n a b f s len x y z)) ∧ Below w.heap.size w w' := by
  have hB : Below w.heap.size w w := Below.refl _ _
  have hP := fun w => implPacketOk_any a b f s o len cap w hl
  have hC := fun w => implPoolCmdOk_any x y z w
  have hI := fun w => isBack_any t w
  have hL := fun w => isLimK_any n w
  unfold kmdB
  generalize packetOkB a b f s len = P at *
  generalize cmdOkB x y z = C at *
  obtain ⟨NP, hNP⟩ : ∃ q, nonePB a b f s len = q := ⟨_, rfl⟩
  obtain ⟨NC, hNC⟩ : ∃ q, noneCB x y z = q := ⟨_, rfl⟩
  rw [hNP, hNC]
  have hQ := fun W => namesNothing_any 7 0 0 a b f s o len cap x y z W
  rw [hNP, hNC] at hQ
  obtain ⟨Q, hQe⟩ : ∃ Q, nullB 0 0 NP NC = Q := ⟨_, rfl⟩
  rw [hQe] at hQ
  have HQ : Hid (Q = true ↔ (0 : Int) = 0 ∧ (0 : Int) = 0 ∧ NP = true ∧ NC = true) := by unfold Hid; rw [← hQe]; exact nullB_iff
  clear hQe hNP hNC
  generalize hI1 : (decide (0 ≤ t) && decide (t < 6)) = I at hI
  generalize hL1 : (decide (0 ≤ n) && decide (n ≤ 16)) = L at hL
  have HI := hide (show I = true ↔ 0 ≤ t ∧ t < 6 by rw [← hI1]; simp)
  have HL := hide (show L = true ↔ 0 ≤ n ∧ n ≤ 16 by rw [← hL1]; simp)
  clear hI1 hL1
  cases I <;> cases L
  all_goals (
    go_enter Try.func27, Try.ntmps27
    go_wp2_with (first | (go_at_call 62; refine (hQ _).mono ?_; rintro e w1 ⟨rfl, hb⟩; obtain ⟨hc, hf⟩ := bcell hb; have hz0 : w.heap.size < w1.heap.size := (by have hz := hb.size; (try simp at hz); omega); have hB : Below w.heap.size w w1 := (by refine Below.trans ?_ (hb.mono (by have hs := hB.size; (try simp) <;> omega)); (repeat (first | with_reducible exact hB | with_reducible exact Below.refl _ _ | with_reducible refine Below.drew ?_ | with_reducible refine below_drewN ?_ _ | with_reducible refine Below.alloc ?_ ?_ _ | with_reducible refine Below.setCell ?_ ?_ _ | (focus (simp; done)) | (focus (simp; omega)) | omega)))) | (go_at_call 59; refine (hP _).mono ?_; rintro e w1 ⟨rfl, hb⟩; obtain ⟨hc, hf⟩ := bcell hb; have hz0 : w.heap.size < w1.heap.size := (by have hz := hb.size; (try simp at hz); omega); have hB : Below w.heap.size w w1 := (by refine Below.trans ?_ (hb.mono (by have hs := hB.size; (try simp) <;> omega)); (repeat (first | with_reducible exact hB | with_reducible exact Below.refl _ _ | with_reducible refine Below.drew ?_ | with_reducible refine below_drewN ?_ _ | with_reducible refine Below.alloc ?_ ?_ _ | with_reducible refine Below.setCell ?_ ?_ _ | (focus (simp; done)) | (focus (simp; omega)) | omega)))) | (go_at_call 60; refine (hC _).mono ?_; rintro e w1 ⟨rfl, hb⟩; obtain ⟨hc, hf⟩ := bcell hb; have hz0 : w.heap.size < w1.heap.size := (by have hz := hb.size; (try simp at hz); omega); have hB : Below w.heap.size w w1 := (by refine Below.trans ?_ (hb.mono (by have hs := hB.size; (try simp) <;> omega)); (repeat (first | with_reducible exact hB | with_reducible exact Below.refl _ _ | with_reducible refine Below.drew ?_ | with_reducible refine below_drewN ?_ _ | with_reducible refine Below.alloc ?_ ?_ _ | with_reducible refine Below.setCell ?_ ?_ _ | (focus (simp; done)) | (focus (simp; omega)) | omega)))) | (go_at_call 43; refine (hI _).mono ?_; rintro e w1 ⟨rfl, rfl⟩) | (go_at_call 61; refine (hL _).mono ?_; rintro e w1 ⟨rfl, rfl⟩))
    all_goals go_ret
    all_goals refine ⟨ret_bool (kok_yes ?_), by (repeat (first | with_reducible exact hB | with_reducible exact Below.refl _ _ | with_reducible refine Below.drew ?_ | with_reducible refine below_drewN ?_ _ | with_reducible refine Below.alloc ?_ ?_ _ | with_reducible refine Below.setCell ?_ ?_ _ | (focus (simp; done)) | (focus (simp; omega)) | omega))⟩
    all_goals (have hq := HQ.out; have h1 := HI.out; have h2 := HL.out; clear HQ HI HL; simp at h1 h2; cases NP <;> cases NC <;> simp at hq <;> simp [KOk, hq] <;> omega))
set_option maxRecDepth 100000 in
set_option maxHeartbeats 4000000 in
theorem implCmdOk_any (k : Int) (t n a b f s : Int) (o : Option Addr) (len cap : Nat) (x y z : Int) (w : World) (hl : len ≤ maxLen) :
    Calls Try.prog 27 #[kmd k t n a b f s (.slice o len cap) x y z] w fun e w' => e = .returned (.bool (kmdB k t n a b f s len x y z)) ∧ Below w.heap.size w w' := by
  by_cases h : 0 ≤ k ∧ k ≤ 7
  · rcases (show k = 0 ∨ k = 1 ∨ k = 2 ∨ k = 3 ∨ k = 4 ∨ k = 5 ∨ k = 6 ∨ k = 7 by omega) with h | h | h | h | h | h | h | h
    all_goals subst h
    · exact cmdOk0 t n a b f s o len cap x y z w hl
    · exact cmdOk1 t n a b f s o len cap x y z w hl
    · exact cmdOk2 t n a b f s o len cap x y z w hl
    · exact cmdOk3 t n a b f s o len cap x y z w hl
    · exact cmdOk4 t n a b f s o len cap x y z w hl
    · exact cmdOk5 t n a b f s o len cap x y z w hl
    · exact cmdOk6 t n a b f s o len cap x y z w hl
    · exact cmdOk7 t n a b f s o len cap x y z w hl
  · have hB : Below w.heap.size w w := Below.refl _ _
    unfold kmdB
    generalize packetOkB a b f s len = P at *
    generalize cmdOkB x y z = C at *
    generalize nonePB a b f s len = NP at *
    generalize noneCB x y z = NC at *
    have n0 : k ≠ 0 := by omega
    have n1 : k ≠ 1 := by omega
    have n2 : k ≠ 2 := by omega
    have n3 : k ≠ 3 := by omega
    have n4 : k ≠ 4 := by omega
    have n5 : k ≠ 5 := by omega
    have n6 : k ≠ 6 := by omega
    have n7 : k ≠ 7 := by omega
    go_enter Try.func27, Try.ntmps27
    go_wp2
    go_ret
    exact ⟨ret_bool (kok_yes (by simp [KOk] <;> omega)), by (repeat (first | with_reducible exact hB | with_reducible exact Below.refl _ _ | with_reducible refine Below.drew ?_ | with_reducible refine below_drewN ?_ _ | with_reducible refine Below.alloc ?_ ?_ _ | with_reducible refine Below.setCell ?_ ?_ _ | (focus (simp; done)) | (focus (simp; omega)) | omega))⟩
end Go.Proofs.Ytdoijnmgnocjaaa
