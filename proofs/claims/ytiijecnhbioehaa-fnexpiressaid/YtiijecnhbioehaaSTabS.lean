/- The model's side of chapter 5: homes, ways, TableOk. -/
import Derived.Test.YtiijecnhbioehaaShT
import Derived.Test.YtiijecnhbioehaaTableMath
import Derived.Test.YtiijecnhbioehaaSFlow
import Derived.RegionTactic
namespace Go.Proofs.Ytiijecnhbioehaa
open Go.ChangeShapes Go.WideShapes Go.ChangeAt Go.RowKit Go.Joins
set_option linter.unusedVariables false
set_option linter.unusedSimpArgs false

abbrev flow (a p : Int) : Value := .agg #[.int .i64 a, .int .i64 p]
set_option maxHeartbeats 400000 in
theorem l5home_any (n : Nat) (a p : Int) (w : World) (hn : 0 < n) (hl : n ≤ 1048576) (hf : flowOkB a p = true) :
    Calls Try.prog 84 #[.int .i64 n, flow a p] w fun e w' => e = .returned (.int .i64 (homeN n a p)) ∧ Below w.heap.size w w' := by
  have hB : Below w.heap.size w w := Below.refl _ _
  have hh := homeN_tmod hn hf
  have hlt := homeN_lt hn a p
  have h0 := flowOkB_iff.1 hf
  have hne : ¬ ((n : Int) = 0) := by omega
  have hne' : ((n : Int) == 0) = false := by simpa using hne
  obtain ⟨h1, h2, h3, h4⟩ := h0
  go_enter Try.func84, Try.ntmps84
  go_wp2
  go_ret
  exact ⟨rfl, by (repeat (first | with_reducible exact hB | with_reducible exact Below.refl _ _ | with_reducible refine Below.drew ?_ | with_reducible refine below_drewN ?_ _ | with_reducible refine Below.alloc ?_ ?_ _ | with_reducible refine Below.setCell ?_ ?_ _ | (focus (simp; done)) | (focus (simp; omega)) | omega))⟩

set_option maxHeartbeats 2000000 in
theorem l5at_any (o : Option Addr) (c : Nat) (l : List Sl) (a p : Int) (w : World) (hR : RdS w.heap.size w o l) (hn : 0 < l.length) (hl : l.length ≤ 1048576) (hf : flowOkB a p = true) :
    Calls Try.prog 70 #[tab (.slice o l.length c), flow a p] w fun e w' => e = .returned (.tuple #[.int .i64 (endL l a p).1, .bool (endL l a p).2]) ∧ Below w.heap.size w w' := by
  rcases hR with hR | ⟨b, off, rfl, hbl, hcell⟩
  · subst hR; simp at hn
  have hB : Below w.heap.size w w := Below.refl _ _
  have HC := hide hcell
  clear hcell
  go_enter Try.func70, Try.ntmps70
  go_wp2_with fail; go_at_call 84; refine (l5home_any l.length a p _ hn hl hf).mono ?_; rintro e w1a ⟨rfl, hba⟩; obtain ⟨hca, hfa⟩ := bcell hba; have hz0a : w.heap.size < w1a.heap.size := (by have hz := hba.size; (try simp at hz); omega); have hz1a : w.heap.size + 1 < w1a.heap.size := (by have hz := hba.size; (try simp at hz); omega); have hB : Below w.heap.size w w1a := (by refine Below.trans ?_ (hba.mono (by have hs := hB.size; (try simp) <;> omega)); (repeat (first | with_reducible exact hB | with_reducible exact Below.refl _ _ | with_reducible refine Below.drew ?_ | with_reducible refine below_drewN ?_ _ | with_reducible refine Below.alloc ?_ ?_ _ | with_reducible refine Below.setCell ?_ ?_ _ | (focus (simp; done)) | (focus (simp; omega)) | omega)))
  have hc0 : w1a.cell? ⟨w.heap.size, 0, none⟩ = some (.slice (some ⟨b, off, none⟩) l.length c) := by rw [hca _ _ (by (try simp) <;> omega)]; simp [go_sem]
  have hc1 : w1a.cell? ⟨w.heap.size + 1, 0, none⟩ = some (.int .i64 a) := by rw [hca _ _ (by (try simp) <;> omega)]; simp [go_sem]
  have hc2 : w1a.cell? ⟨w.heap.size + 1, 1, none⟩ = some (.int .i64 p) := by rw [hca _ _ (by (try simp) <;> omega)]; simp [go_sem]
  have HB := hide hB
  clear hB hca hfa hba
  have hh := homeN_lt hn a p
  have HE := hide (show wayGo l a p l.length (homeN l.length a p) = endL l a p from rfl)
  generalize homeN l.length a p = h at *
  go_wp2
  go_loopw [7, 8] (fun i k wr => ∃ (i' k' : Nat), k' ≤ l.length ∧ i' < l.length ∧ i = .int .i64 i' ∧ k = .int .i64 k' ∧ Hid (wayGo l a p (l.length - k') i' = endL l a p) ∧ Hid (Below w1a.heap.size w1a wr))
    (fun _ k _ => l.length - (intOf k).toNat)
  case atStart => exact ⟨h, 0, Nat.zero_le _, hh, rfl, rfl, HE, Below.refl _ _⟩
  case round =>
    obtain ⟨i, k, hk, hi, rfl, rfl, hE, HBr⟩ := hrel
    have d0 : wr.cell? ⟨w.heap.size, 0, none⟩ = some (.slice (some ⟨b, off, none⟩) l.length c) := (HBr.out.cell (p := ⟨w.heap.size, 0, none⟩) hz0a).trans hc0
    have d1 : wr.cell? ⟨w.heap.size + 1, 0, none⟩ = some (.int .i64 a) := (HBr.out.cell (p := ⟨w.heap.size + 1, 0, none⟩) hz1a).trans hc1
    have d2 : wr.cell? ⟨w.heap.size + 1, 1, none⟩ = some (.int .i64 p) := (HBr.out.cell (p := ⟨w.heap.size + 1, 1, none⟩) hz1a).trans hc2
    have HB2 := hide (HB.out.trans (HBr.out.mono HB.out.size))
    by_cases hlt : k < l.length
    · obtain ⟨s, hxy⟩ : ∃ s, l.getD i sl0 = s := ⟨_, rfl⟩
      have hcx := RdL.slot (C := w.heap.size) HC.out i hi
      rw [hxy] at hcx
      have e0 : wr.cell? ⟨b, off + i * 5, none⟩ = some (.bool s.u) := (HB2.out.cell (p := ⟨b, off + i * 5, none⟩) hbl).trans hcx.1
      have e1 : wr.cell? ⟨b, off + i * 5 + 1, none⟩ = some (.int .i64 s.a) := (HB2.out.cell (p := ⟨b, off + i * 5 + 1, none⟩) hbl).trans hcx.2.1
      have e2 : wr.cell? ⟨b, off + i * 5 + 2, none⟩ = some (.int .i64 s.p) := (HB2.out.cell (p := ⟨b, off + i * 5 + 2, none⟩) hbl).trans hcx.2.2.1
      have hi' : (i : Int) < (l.length : Int) := by omega
      have hk' : (k : Int) < (l.length : Int) := by omega
      have hne' : ((l.length : Int) == 0) = false := beq_eq_false_iff_ne.2 (by omega)
      have hm := next_tmod l.length i
      have ek : l.length - k = (l.length - (k + 1)) + 1 := by omega
      rw [ek] at hE
      obtain ⟨su, sa, sp, sv, st⟩ := s
      simp only at e0 e1 e2
      clear hcx hc0 hc1 hc2 HC
      cases su with
      | false =>
        have HF := hide (hE.out.symm.trans (wayGo_free (by rw [hxy])))
        clear hE hxy ek
        go_wp2
        go_ret2
        exact ⟨by rw [HF.out]; rfl, HB2.out⟩
      | true =>
        by_cases hq : sa = a ∧ sp = p
        · have HF := hide (hE.out.symm.trans (wayGo_own (by rw [hxy]) (by rw [hxy]; exact hq.1) (by rw [hxy]; exact hq.2)))
          obtain ⟨rfl, rfl⟩ := hq
          clear hE hxy ek
          go_wp2
          go_region
          go_wp2
          go_ret2
          exact ⟨by rw [HF.out]; rfl, Below.drew HB2.out⟩
        · have HF := hide (hE.out.symm.trans (wayGo_next (by rw [hxy]) (by rw [hxy]; exact hq))).symm
          clear hE hxy ek
          have hx : (k + 1 ≤ l.length) := by omega
          by_cases hq1 : sa = a
          · subst hq1
            have hq2 : ¬ sp = p := fun e => hq ⟨rfl, e⟩
            have hq3 : (sp == p) = false := beq_eq_false_iff_ne.2 hq2
            clear hq
            go_wp2
            go_region
            go_wp2
            go_roundw
            case rel => exact ⟨(i + 1) % l.length, k + 1, hx, next_lt hn i, by go_num, by go_num, HF, Below.drew HBr.out⟩
            case measure => simp [intOf]; omega
          · have hq3 : (sa == a) = false := beq_eq_false_iff_ne.2 hq1
            clear hq
            go_wp2
            go_region
            go_wp2
            go_roundw
            case rel => exact ⟨(i + 1) % l.length, k + 1, hx, next_lt hn i, by go_num, by go_num, HF, Below.drew HBr.out⟩
            case measure => simp [intOf]; omega
    · have e : k = l.length := by omega
      subst e
      have HF := hide (show endL l a p = (-1, false) from hE.out.symm.trans (by rw [Nat.sub_self]; rfl))
      clear hE
      go_wp2
      go_ret2
      exact ⟨by rw [HF.out]; rfl, HB2.out⟩

end Go.Proofs.Ytiijecnhbioehaa
