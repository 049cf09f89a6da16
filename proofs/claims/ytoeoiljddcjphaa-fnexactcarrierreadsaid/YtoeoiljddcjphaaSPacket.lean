/- Contracts of PacketOk, on both sides. -/
import Derived.Test.YtoeoiljddcjphaaSFlow
import Derived.Test.YtoeoiljddcjphaaBoxes
namespace Go.Proofs.Ytoeoiljddcjphaa
open Go.ChangeShapes Go.WideShapes Go.ChangeAt Go.RowKit Go.Joins
set_option linter.unusedVariables false
set_option linter.unusedSimpArgs false

def packetOkB (a b f s : Int) (n : Nat) : Bool :=
  flowOkB a b && decide (0 ≤ f) && decide (f < 16) && decide (0 ≤ s) && decide (s < 65536) && decide ((n : Int) ≤ 16) && (bits .and .i64 f 1 == 0 || bits .and .i64 f 12 == 0)

theorem packetOkB_iff {a b f s : Int} {n : Nat} : packetOkB a b f s n = true ↔ flowOkB a b = true ∧ 0 ≤ f ∧ f < 16 ∧ 0 ≤ s ∧ s < 65536 ∧ (n : Int) ≤ 16 ∧ (bits .and .i64 f 1 = 0 ∨ bits .and .i64 f 12 = 0) := by
  simp [packetOkB, and_assoc]
theorem packetOkB_yes {a b f s : Int} {n : Nat} (h1 : flowOkB a b = true) (h2 : 0 ≤ f) (h3 : f < 16) (h4 : 0 ≤ s) (h5 : s < 65536) (h6 : (n : Int) ≤ 16) : packetOkB a b f s n = (bits .and .i64 f 1 == 0 || bits .and .i64 f 12 == 0) := by
  simp [packetOkB, h1, h2, h3, h4, h5, h6]


set_option maxHeartbeats 400000 in
theorem specPacketOk_any (a b f s : Int) (o : Option Addr) (len cap : Nat) (w : World) (hl : len ≤ maxLen) :
    Calls Try.prog 30 #[pkt a b f s (.slice o len cap)] w fun e w' => e = .returned (.bool (packetOkB a b f s len)) ∧ Below w.heap.size w w' := by
  have hB : Below w.heap.size w w := Below.refl _ _
  by_cases h1 : flowOkB a b = true
  · by_cases h2 : 0 ≤ f
    · by_cases h3 : f < 16
      · by_cases h4 : 0 ≤ s
        · by_cases h5 : s < 65536
          · by_cases h6 : (len : Int) ≤ 16
            · by_cases h7 : bits .and .i64 f 1 = 0
              · have HY := hide (show true = packetOkB a b f s len by rw [packetOkB_yes h1 h2 h3 h4 h5 h6]; simp [h7])
                go_enter Try.func30, Try.ntmps30
                go_wp2_with (first | (go_at_call 51; refine (specFlowOk_any _ _ _).mono ?_; rintro e w1 ⟨rfl, hb⟩; obtain ⟨hc, hf⟩ := bcell hb; have hz0 : w.heap.size < w1.heap.size := (by have hz := hb.size; (try simp at hz); omega); have hB : Below w.heap.size w w1 := (by refine Below.trans ?_ (hb.mono (by have hs := hB.size; (try simp) <;> omega)); (repeat (first | with_reducible exact hB | with_reducible exact Below.refl _ _ | with_reducible refine Below.drew ?_ | with_reducible refine below_drewN ?_ _ | with_reducible refine Below.alloc ?_ ?_ _ | with_reducible refine Below.setCell ?_ ?_ _ | (focus (simp; done)) | (focus (simp; omega)) | omega)))))
                go_ret
                exact ⟨ret_bool HY.out, by (repeat (first | with_reducible exact hB | with_reducible exact Below.refl _ _ | with_reducible refine Below.drew ?_ | with_reducible refine below_drewN ?_ _ | with_reducible refine Below.alloc ?_ ?_ _ | with_reducible refine Below.setCell ?_ ?_ _ | (focus (simp; done)) | (focus (simp; omega)) | omega))⟩
              · have HY := hide (packetOkB_yes (a := a) (b := b) (f := f) (s := s) (n := len) h1 h2 h3 h4 h5 h6).symm
                go_enter Try.func30, Try.ntmps30
                go_wp2_with (first | (go_at_call 51; refine (specFlowOk_any _ _ _).mono ?_; rintro e w1 ⟨rfl, hb⟩; obtain ⟨hc, hf⟩ := bcell hb; have hz0 : w.heap.size < w1.heap.size := (by have hz := hb.size; (try simp at hz); omega); have hB : Below w.heap.size w w1 := (by refine Below.trans ?_ (hb.mono (by have hs := hB.size; (try simp) <;> omega)); (repeat (first | with_reducible exact hB | with_reducible exact Below.refl _ _ | with_reducible refine Below.drew ?_ | with_reducible refine below_drewN ?_ _ | with_reducible refine Below.alloc ?_ ?_ _ | with_reducible refine Below.setCell ?_ ?_ _ | (focus (simp; done)) | (focus (simp; omega)) | omega)))))
                go_ret
                exact ⟨ret_bool HY.out, by (repeat (first | with_reducible exact hB | with_reducible exact Below.refl _ _ | with_reducible refine Below.drew ?_ | with_reducible refine below_drewN ?_ _ | with_reducible refine Below.alloc ?_ ?_ _ | with_reducible refine Below.setCell ?_ ?_ _ | (focus (simp; done)) | (focus (simp; omega)) | omega))⟩
            · have HN := hide (bool_no (packetOkB_iff (a := a) (b := b) (f := f) (s := s) (n := len)) (fun q => h6 q.2.2.2.2.2.1))
              go_enter Try.func30, Try.ntmps30
              go_wp2_with (first | (go_at_call 51; refine (specFlowOk_any _ _ _).mono ?_; rintro e w1 ⟨rfl, hb⟩; obtain ⟨hc, hf⟩ := bcell hb; have hz0 : w.heap.size < w1.heap.size := (by have hz := hb.size; (try simp at hz); omega); have hB : Below w.heap.size w w1 := (by refine Below.trans ?_ (hb.mono (by have hs := hB.size; (try simp) <;> omega)); (repeat (first | with_reducible exact hB | with_reducible exact Below.refl _ _ | with_reducible refine Below.drew ?_ | with_reducible refine below_drewN ?_ _ | with_reducible refine Below.alloc ?_ ?_ _ | with_reducible refine Below.setCell ?_ ?_ _ | (focus (simp; done)) | (focus (simp; omega)) | omega)))))
              go_ret
              exact ⟨ret_bool HN.out, by (repeat (first | with_reducible exact hB | with_reducible exact Below.refl _ _ | with_reducible refine Below.drew ?_ | with_reducible refine below_drewN ?_ _ | with_reducible refine Below.alloc ?_ ?_ _ | with_reducible refine Below.setCell ?_ ?_ _ | (focus (simp; done)) | (focus (simp; omega)) | omega))⟩
          · have HN := hide (bool_no (packetOkB_iff (a := a) (b := b) (f := f) (s := s) (n := len)) (fun q => h5 q.2.2.2.2.1))
            go_enter Try.func30, Try.ntmps30
            go_wp2_with (first | (go_at_call 51; refine (specFlowOk_any _ _ _).mono ?_; rintro e w1 ⟨rfl, hb⟩; obtain ⟨hc, hf⟩ := bcell hb; have hz0 : w.heap.size < w1.heap.size := (by have hz := hb.size; (try simp at hz); omega); have hB : Below w.heap.size w w1 := (by refine Below.trans ?_ (hb.mono (by have hs := hB.size; (try simp) <;> omega)); (repeat (first | with_reducible exact hB | with_reducible exact Below.refl _ _ | with_reducible refine Below.drew ?_ | with_reducible refine below_drewN ?_ _ | with_reducible refine Below.alloc ?_ ?_ _ | with_reducible refine Below.setCell ?_ ?_ _ | (focus (simp; done)) | (focus (simp; omega)) | omega)))))
            go_ret
            exact ⟨ret_bool HN.out, by (repeat (first | with_reducible exact hB | with_reducible exact Below.refl _ _ | with_reducible refine Below.drew ?_ | with_reducible refine below_drewN ?_ _ | with_reducible refine Below.alloc ?_ ?_ _ | with_reducible refine Below.setCell ?_ ?_ _ | (focus (simp; done)) | (focus (simp; omega)) | omega))⟩
        · have HN := hide (bool_no (packetOkB_iff (a := a) (b := b) (f := f) (s := s) (n := len)) (fun q => h4 q.2.2.2.1))
          go_enter Try.func30, Try.ntmps30
          go_wp2_with (first | (go_at_call 51; refine (specFlowOk_any _ _ _).mono ?_; rintro e w1 ⟨rfl, hb⟩; obtain ⟨hc, hf⟩ := bcell hb; have hz0 : w.heap.size < w1.heap.size := (by have hz := hb.size; (try simp at hz); omega); have hB : Below w.heap.size w w1 := (by refine Below.trans ?_ (hb.mono (by have hs := hB.size; (try simp) <;> omega)); (repeat (first | with_reducible exact hB | with_reducible exact Below.refl _ _ | with_reducible refine Below.drew ?_ | with_reducible refine below_drewN ?_ _ | with_reducible refine Below.alloc ?_ ?_ _ | with_reducible refine Below.setCell ?_ ?_ _ | (focus (simp; done)) | (focus (simp; omega)) | omega)))))
          go_ret
          exact ⟨ret_bool HN.out, by (repeat (first | with_reducible exact hB | with_reducible exact Below.refl _ _ | with_reducible refine Below.drew ?_ | with_reducible refine below_drewN ?_ _ | with_reducible refine Below.alloc ?_ ?_ _ | with_reducible refine Below.setCell ?_ ?_ _ | (focus (simp; done)) | (focus (simp; omega)) | omega))⟩
      · have HN := hide (bool_no (packetOkB_iff (a := a) (b := b) (f := f) (s := s) (n := len)) (fun q => h3 q.2.2.1))
        go_enter Try.func30, Try.ntmps30
        go_wp2_with (first | (go_at_call 51; refine (specFlowOk_any _ _ _).mono ?_; rintro e w1 ⟨rfl, hb⟩; obtain ⟨hc, hf⟩ := bcell hb; have hz0 : w.heap.size < w1.heap.size := (by have hz := hb.size; (try simp at hz); omega); have hB : Below w.heap.size w w1 := (by refine Below.trans ?_ (hb.mono (by have hs := hB.size; (try simp) <;> omega)); (repeat (first | with_reducible exact hB | with_reducible exact Below.refl _ _ | with_reducible refine Below.drew ?_ | with_reducible refine below_drewN ?_ _ | with_reducible refine Below.alloc ?_ ?_ _ | with_reducible refine Below.setCell ?_ ?_ _ | (focus (simp; done)) | (focus (simp; omega)) | omega)))))
        go_ret
        exact ⟨ret_bool HN.out, by (repeat (first | with_reducible exact hB | with_reducible exact Below.refl _ _ | with_reducible refine Below.drew ?_ | with_reducible refine below_drewN ?_ _ | with_reducible refine Below.alloc ?_ ?_ _ | with_reducible refine Below.setCell ?_ ?_ _ | (focus (simp; done)) | (focus (simp; omega)) | omega))⟩
    · have HN := hide (bool_no (packetOkB_iff (a := a) (b := b) (f := f) (s := s) (n := len)) (fun q => h2 q.2.1))
      go_enter Try.func30, Try.ntmps30
      go_wp2_with (first | (go_at_call 51; refine (specFlowOk_any _ _ _).mono ?_; rintro e w1 ⟨rfl, hb⟩; obtain ⟨hc, hf⟩ := bcell hb; have hz0 : w.heap.size < w1.heap.size := (by have hz := hb.size; (try simp at hz); omega); have hB : Below w.heap.size w w1 := (by refine Below.trans ?_ (hb.mono (by have hs := hB.size; (try simp) <;> omega)); (repeat (first | with_reducible exact hB | with_reducible exact Below.refl _ _ | with_reducible refine Below.drew ?_ | with_reducible refine below_drewN ?_ _ | with_reducible refine Below.alloc ?_ ?_ _ | with_reducible refine Below.setCell ?_ ?_ _ | (focus (simp; done)) | (focus (simp; omega)) | omega)))))
      go_ret
      exact ⟨ret_bool HN.out, by (repeat (first | with_reducible exact hB | with_reducible exact Below.refl _ _ | with_reducible refine Below.drew ?_ | with_reducible refine below_drewN ?_ _ | with_reducible refine Below.alloc ?_ ?_ _ | with_reducible refine Below.setCell ?_ ?_ _ | (focus (simp; done)) | (focus (simp; omega)) | omega))⟩
  · have HN := hide (bool_no (packetOkB_iff (a := a) (b := b) (f := f) (s := s) (n := len)) (fun q => h1 q.1))
    go_enter Try.func30, Try.ntmps30
    go_wp2_with (first | (go_at_call 51; refine (specFlowOk_any _ _ _).mono ?_; rintro e w1 ⟨rfl, hb⟩; obtain ⟨hc, hf⟩ := bcell hb; have hz0 : w.heap.size < w1.heap.size := (by have hz := hb.size; (try simp at hz); omega); have hB : Below w.heap.size w w1 := (by refine Below.trans ?_ (hb.mono (by have hs := hB.size; (try simp) <;> omega)); (repeat (first | with_reducible exact hB | with_reducible exact Below.refl _ _ | with_reducible refine Below.drew ?_ | with_reducible refine below_drewN ?_ _ | with_reducible refine Below.alloc ?_ ?_ _ | with_reducible refine Below.setCell ?_ ?_ _ | (focus (simp; done)) | (focus (simp; omega)) | omega)))))
    go_ret
    exact ⟨ret_bool HN.out, by (repeat (first | with_reducible exact hB | with_reducible exact Below.refl _ _ | with_reducible refine Below.drew ?_ | with_reducible refine below_drewN ?_ _ | with_reducible refine Below.alloc ?_ ?_ _ | with_reducible refine Below.setCell ?_ ?_ _ | (focus (simp; done)) | (focus (simp; omega)) | omega))⟩

def flagOkB (f : Int) : Bool := decide (0 ≤ f) && decide (f < 16) && (bits .and .i64 f 1 == 0 || bits .and .i64 f 12 == 0)
theorem flagOkB_iff {f : Int} : flagOkB f = true ↔ 0 ≤ f ∧ f < 16 ∧ (bits .and .i64 f 1 = 0 ∨ bits .and .i64 f 12 = 0) := by simp [flagOkB, and_assoc]
theorem flagOkB_yes {f : Int} (h2 : 0 ≤ f) (h3 : f < 16) : flagOkB f = (bits .and .i64 f 1 == 0 || bits .and .i64 f 12 == 0) := by simp [flagOkB, h2, h3]
theorem packetOkB_parts {a b f s : Int} {n : Nat} : packetOkB a b f s n = true ↔ (flowOkB a b = true ∧ flagOkB f = true ∧ 0 ≤ s ∧ s ≤ 65535 ∧ (n : Int) ≤ 16 ∧ True) := by
  rw [packetOkB_iff, flagOkB_iff]
  constructor
  · rintro ⟨q1, q2, q3, q4, q5, q6, q7⟩; exact ⟨q1, ⟨q2, q3, q7⟩, q4, by omega, q6, trivial⟩
  · rintro ⟨q1, ⟨q2, q3, q7⟩, q4, q5, q6, _⟩; exact ⟨q1, q2, q3, q4, by omega, q6, q7⟩

theorem packetOkB_last {a b f s : Int} {n : Nat} (h1 : flowOkB a b = true) (h2 : flagOkB f = true) (h4 : 0 ≤ s) (h5 : s ≤ 65535) : decide ((n : Int) ≤ 16) = packetOkB a b f s n := by
  rw [Bool.eq_iff_iff, packetOkB_parts]; simp [h1, h2, h4, h5]

set_option maxHeartbeats 400000 in
theorem flagOk_any (f : Int) (w : World) : Calls Try.prog 88 #[.int .i64 f] w fun e w' => e = .returned (.bool (flagOkB f)) ∧ w = w' := by
  by_cases h2 : 0 ≤ f
  · by_cases h3 : f < 16
    · by_cases h7 : bits .and .i64 f 1 = 0
      · go_enter Try.func88, Try.ntmps88
        go_wp2
        go_ret
        exact ⟨ret_bool (by rw [flagOkB_yes h2 h3]; simp [h7]), rfl⟩
      · go_enter Try.func88, Try.ntmps88
        go_wp2
        go_ret
        exact ⟨ret_bool (by rw [flagOkB_yes h2 h3]; simp [h7, bne]), rfl⟩
    · have HN := hide (bool_no (flagOkB_iff (f := f)) (fun q => h3 q.2.1))
      go_enter Try.func88, Try.ntmps88
      go_wp2
      go_ret
      exact ⟨ret_bool HN.out, rfl⟩
  · have HN := hide (bool_no (flagOkB_iff (f := f)) (fun q => h2 q.1))
    go_enter Try.func88, Try.ntmps88
    go_wp2
    go_ret
    exact ⟨ret_bool HN.out, rfl⟩

set_option maxHeartbeats 400000 in
theorem implPacketOk_any (a b f s : Int) (o : Option Addr) (len cap : Nat) (w : World) (hl : len ≤ maxLen) :
    Calls Try.prog 62 #[pkt a b f s (.slice o len cap)] w fun e w' => e = .returned (.bool (packetOkB a b f s len)) ∧ Below w.heap.size w w' := by
  have hB : Below w.heap.size w w := Below.refl _ _
  by_cases h1 : flowOkB a b = true
  · by_cases h2 : flagOkB f = true
    · by_cases h4 : 0 ≤ s
      · by_cases h5 : s ≤ 65535
        · have HY := hide (packetOkB_last (a := a) (b := b) (f := f) (s := s) (n := len) h1 h2 h4 h5)
          go_enter Try.func62, Try.ntmps62
          go_wp2_with (first | (go_at_call 54; refine (implFlowOk_any _ _ _).mono ?_; rintro e w1 ⟨rfl, hb⟩; obtain ⟨hc, hf⟩ := bcell hb; have hz0 : w.heap.size < w1.heap.size := (by have hz := hb.size; (try simp at hz); omega); have hB : Below w.heap.size w w1 := (by refine Below.trans ?_ (hb.mono (by have hs := hB.size; (try simp) <;> omega)); (repeat (first | with_reducible exact hB | with_reducible exact Below.refl _ _ | with_reducible refine Below.drew ?_ | with_reducible refine below_drewN ?_ _ | with_reducible refine Below.alloc ?_ ?_ _ | with_reducible refine Below.setCell ?_ ?_ _ | (focus (simp; done)) | (focus (simp; omega)) | omega)))) | (go_at_call 88; refine (flagOk_any _ _).mono ?_; rintro e w2 ⟨rfl, rfl⟩) | go_in)
          go_ret
          exact ⟨ret_bool HY.out, by (repeat (first | with_reducible exact hB | with_reducible exact Below.refl _ _ | with_reducible refine Below.drew ?_ | with_reducible refine below_drewN ?_ _ | with_reducible refine Below.alloc ?_ ?_ _ | with_reducible refine Below.setCell ?_ ?_ _ | (focus (simp; done)) | (focus (simp; omega)) | omega))⟩
        · have HN := hide (bool_no (packetOkB_parts (a := a) (b := b) (f := f) (s := s) (n := len)) (fun q => h5 q.2.2.2.1))
          go_enter Try.func62, Try.ntmps62
          go_wp2_with (first | (go_at_call 54; refine (implFlowOk_any _ _ _).mono ?_; rintro e w1 ⟨rfl, hb⟩; obtain ⟨hc, hf⟩ := bcell hb; have hz0 : w.heap.size < w1.heap.size := (by have hz := hb.size; (try simp at hz); omega); have hB : Below w.heap.size w w1 := (by refine Below.trans ?_ (hb.mono (by have hs := hB.size; (try simp) <;> omega)); (repeat (first | with_reducible exact hB | with_reducible exact Below.refl _ _ | with_reducible refine Below.drew ?_ | with_reducible refine below_drewN ?_ _ | with_reducible refine Below.alloc ?_ ?_ _ | with_reducible refine Below.setCell ?_ ?_ _ | (focus (simp; done)) | (focus (simp; omega)) | omega)))) | (go_at_call 88; refine (flagOk_any _ _).mono ?_; rintro e w2 ⟨rfl, rfl⟩) | go_in)
          go_ret
          exact ⟨ret_bool HN.out, by (repeat (first | with_reducible exact hB | with_reducible exact Below.refl _ _ | with_reducible refine Below.drew ?_ | with_reducible refine below_drewN ?_ _ | with_reducible refine Below.alloc ?_ ?_ _ | with_reducible refine Below.setCell ?_ ?_ _ | (focus (simp; done)) | (focus (simp; omega)) | omega))⟩
      · have HN := hide (bool_no (packetOkB_parts (a := a) (b := b) (f := f) (s := s) (n := len)) (fun q => h4 q.2.2.1))
        go_enter Try.func62, Try.ntmps62
        go_wp2_with (first | (go_at_call 54; refine (implFlowOk_any _ _ _).mono ?_; rintro e w1 ⟨rfl, hb⟩; obtain ⟨hc, hf⟩ := bcell hb; have hz0 : w.heap.size < w1.heap.size := (by have hz := hb.size; (try simp at hz); omega); have hB : Below w.heap.size w w1 := (by refine Below.trans ?_ (hb.mono (by have hs := hB.size; (try simp) <;> omega)); (repeat (first | with_reducible exact hB | with_reducible exact Below.refl _ _ | with_reducible refine Below.drew ?_ | with_reducible refine below_drewN ?_ _ | with_reducible refine Below.alloc ?_ ?_ _ | with_reducible refine Below.setCell ?_ ?_ _ | (focus (simp; done)) | (focus (simp; omega)) | omega)))) | (go_at_call 88; refine (flagOk_any _ _).mono ?_; rintro e w2 ⟨rfl, rfl⟩) | go_in)
        go_ret
        exact ⟨ret_bool HN.out, by (repeat (first | with_reducible exact hB | with_reducible exact Below.refl _ _ | with_reducible refine Below.drew ?_ | with_reducible refine below_drewN ?_ _ | with_reducible refine Below.alloc ?_ ?_ _ | with_reducible refine Below.setCell ?_ ?_ _ | (focus (simp; done)) | (focus (simp; omega)) | omega))⟩
    · have HN := hide (bool_no (packetOkB_parts (a := a) (b := b) (f := f) (s := s) (n := len)) (fun q => h2 q.2.1))
      go_enter Try.func62, Try.ntmps62
      go_wp2_with (first | (go_at_call 54; refine (implFlowOk_any _ _ _).mono ?_; rintro e w1 ⟨rfl, hb⟩; obtain ⟨hc, hf⟩ := bcell hb; have hz0 : w.heap.size < w1.heap.size := (by have hz := hb.size; (try simp at hz); omega); have hB : Below w.heap.size w w1 := (by refine Below.trans ?_ (hb.mono (by have hs := hB.size; (try simp) <;> omega)); (repeat (first | with_reducible exact hB | with_reducible exact Below.refl _ _ | with_reducible refine Below.drew ?_ | with_reducible refine below_drewN ?_ _ | with_reducible refine Below.alloc ?_ ?_ _ | with_reducible refine Below.setCell ?_ ?_ _ | (focus (simp; done)) | (focus (simp; omega)) | omega)))) | (go_at_call 88; refine (flagOk_any _ _).mono ?_; rintro e w2 ⟨rfl, rfl⟩) | go_in)
      go_ret
      exact ⟨ret_bool HN.out, by (repeat (first | with_reducible exact hB | with_reducible exact Below.refl _ _ | with_reducible refine Below.drew ?_ | with_reducible refine below_drewN ?_ _ | with_reducible refine Below.alloc ?_ ?_ _ | with_reducible refine Below.setCell ?_ ?_ _ | (focus (simp; done)) | (focus (simp; omega)) | omega))⟩
  · have HN := hide (bool_no (packetOkB_parts (a := a) (b := b) (f := f) (s := s) (n := len)) (fun q => h1 q.1))
    go_enter Try.func62, Try.ntmps62
    go_wp2_with (first | (go_at_call 54; refine (implFlowOk_any _ _ _).mono ?_; rintro e w1 ⟨rfl, hb⟩; obtain ⟨hc, hf⟩ := bcell hb; have hz0 : w.heap.size < w1.heap.size := (by have hz := hb.size; (try simp at hz); omega); have hB : Below w.heap.size w w1 := (by refine Below.trans ?_ (hb.mono (by have hs := hB.size; (try simp) <;> omega)); (repeat (first | with_reducible exact hB | with_reducible exact Below.refl _ _ | with_reducible refine Below.drew ?_ | with_reducible refine below_drewN ?_ _ | with_reducible refine Below.alloc ?_ ?_ _ | with_reducible refine Below.setCell ?_ ?_ _ | (focus (simp; done)) | (focus (simp; omega)) | omega)))) | (go_at_call 88; refine (flagOk_any _ _).mono ?_; rintro e w2 ⟨rfl, rfl⟩) | go_in)
    go_ret
    exact ⟨ret_bool HN.out, by (repeat (first | with_reducible exact hB | with_reducible exact Below.refl _ _ | with_reducible refine Below.drew ?_ | with_reducible refine below_drewN ?_ _ | with_reducible refine Below.alloc ?_ ?_ _ | with_reducible refine Below.setCell ?_ ?_ _ | (focus (simp; done)) | (focus (simp; omega)) | omega))⟩

end Go.Proofs.Ytoeoiljddcjphaa
