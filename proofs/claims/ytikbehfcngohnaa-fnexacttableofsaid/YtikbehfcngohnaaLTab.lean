/- The laws' marks in rows of ints. -/
import Derived.Test.YtikbehfcngohnaaSTab
namespace Go.Proofs.Ytikbehfcngohnaa
open Go.ChangeShapes Go.WideShapes Go.ChangeAt Go.RowKit Go.Joins
set_option linter.unusedVariables false
set_option linter.unusedSimpArgs false

theorem own_head {w : World} {base g n c : Nat} {hs : List Hd} (h : ownL layS 37 w base (.slice (some ⟨g, 0, none⟩) n c) hs) (i : Nat) (hi : i < hs.length) : w.cell? ⟨g, i, none⟩ = some (hv hs i) := by
  rcases h.rd with h' | ⟨b, off, ho, hb, r⟩
  · subst h'; simp at hi
  · simp at ho
    obtain ⟨rfl, rfl⟩ := ho
    have := RdL.head r i hi
    rw [Nat.zero_add] at this
    exact this

set_option maxHeartbeats 1000000 in
theorem markIntSS_any (n base : Nat) (v : Value) (R : Nat → List Int) (k : Int) (w : World) (hT : OwnT w base v n R) (hR2 : ∀ i, (R i).length ≤ 2) (h0 : 0 ≤ k) (h1 : k ≤ 1000) (hn : n ≤ 8) (hbase : base ≤ w.heap.size) :
    Calls Try.prog 44 #[v, .int .i64 k] w fun e w' => e = .returned (.int .i64 (st R k n)) ∧ OwnT w' base v n (mkd R k n) ∧ Below base w w' := by
  rcases hT with ⟨rfl, rfl⟩ | ⟨g, hs, rfl, ho, ht⟩
  · go_enter Try.func44, Try.ntmps44
    go_wp2
    refine wp_loop_rounds 1 ?_
    rw [rounds_succ]
    go_wp2
    go_ret
    exact ⟨rfl, .inl ⟨rfl, rfl⟩, Below.refl _ _⟩
  · have ht0 : Tab (mkd R k 0) n w base hs := by
      have : mkd R k 0 = R := by funext j; simp [mkd]
      rw [this]; exact ht
    clear ht
    go_enter Try.func44, Try.ntmps44
    go_wp2
    go_loopw [1, 5] (fun m j wr => ∃ i : Nat, i ≤ n ∧ j = .int .i64 i ∧ m = .int .i64 (st R k i) ∧ ownL layS 37 wr base (.slice (some ⟨g, 0, none⟩) n n) hs ∧ Tab (mkd R k i) n wr base hs ∧ Below base w wr)
      (fun _ j _ => n - (intOf j).toNat)
    case atStart => exact ⟨0, Nat.zero_le _, rfl, rfl, ho, ht0, Below.refl _ _⟩
    case round =>
      obtain ⟨i, hi, rfl, rfl, hor, htr, hBr⟩ := hrel
      have hst := st_bd R k hR2 i
      by_cases hlt : i < n
      · have hc := own_head hor i (by rw [htr.len]; exact hlt)
        have hrow := htr.row i hlt
        have e0 : mkd R k i i = R i := by unfold mkd; rw [if_neg (Nat.lt_irrefl _)]
        rw [e0] at hrow
        have hm := markIntS_any base (hv hs i) (R i) (st R k i) wr hrow (by omega) (by omega) (by have := hR2 i; omega)
        have HA := hide (own_apart hor hrow nintNe)
        have HL := hide (hrow.lt)
        have HN := hide (fun w' (x : ownI w' base (hv hs i) (markI (st R k i) (R i).length)) y => htr.marked (w' := w') hlt x y)
        have HO := hide hor
        have HS := hide (show st R k i + (R i).length = st R k (i + 1) from rfl)
        have HB := hide hBr
        have z1 : (i : Int) < (n : Int) := by omega
        clear hrow hor htr hBr ht0 ho e0
        generalize hv hs i = rv at *
        generalize hst0 : st R k i = s0 at *
        clear hst0
        go_wp2_with fail
        refine hm.mono ?_
        rintro e w2 ⟨rfl, ho2, hg2⟩
        have HT2 := hide (HN.out w2 ho2 hg2)
        have HO2 := hide (World.ownsRow.kept HO.out hg2 HA.out)
        have HB2 := hide (HB.out.trans ((Below.refl _ _).grown hg2 (Nat.le_trans hbase HB.out.size) (fun k h => (HL.out k h).1)))
        clear ho2 hg2 hm hc
        go_wp2
        go_roundw
        case rel => exact ⟨i + 1, by omega, by go_num, by rw [HS.out], HO2.out, HT2.out, HB2.out⟩
        case measure => simp [intOf]; omega
      · have e : i = n := by omega
        subst e
        go_wp2
        go_ret
        exact ⟨rfl, .inr ⟨g, hs, rfl, hor, htr⟩, hBr⟩

set_option maxHeartbeats 1000000 in
theorem heldIntSS_any (n cap C : Nat) (o : Option Addr) (R : Nat → List Int) (k : Int) (w : World) (hC : C ≤ w.heap.size) (hT : RdLL C w o (rowsOf (mkd R k n) n)) (hR2 : ∀ i, (R i).length ≤ 2) (h0 : 0 ≤ k) (h1 : k ≤ 1000) (hn : n ≤ 8) :
    Calls Try.prog 45 #[.slice o n cap, .int .i64 k] w fun e w' => e = .returned (.int .i64 (st R k n)) ∧ w = w' := by
  go_enter Try.func45, Try.ntmps45
  go_wp2
  go_loop [1, 5] (fun m j => ∃ i : Nat, i ≤ n ∧ j = .int .i64 i ∧ m = .int .i64 (st R k i))
    (fun _ j => n - (intOf j).toNat)
  case atStart => exact ⟨0, Nat.zero_le _, rfl, rfl⟩
  case round =>
    obtain ⟨i, hi, rfl, rfl⟩ := hrel
    have hst := st_bd R k hR2 i
    by_cases hlt : i < n
    · obtain ⟨b, off, o', c', rfl, hb, hc, hr⟩ := hT.at hC i (by rw [rowsOf_length]; exact hlt)
      rw [rowsOf_get _ n i hlt] at hc hr
      have e0 : mkd R k n i = markI (st R k i) (R i).length := by unfold mkd; rw [if_pos hlt]
      rw [e0] at hc hr
      rw [markI_length] at hc
      have hh := heldIntS_any o' c' (R i).length w.heap.size (st R k i) w hr (by omega) (by omega) (by have := hR2 i; omega)
      have HS := hide (show st R k i + (R i).length = st R k (i + 1) from rfl)
      have hl2 := hR2 i
      have z1 : (i : Int) < (n : Int) := by omega
      clear hr e0 hT
      generalize (R i).length = q at *
      generalize hst0 : st R k i = s0 at *
      clear hst0
      go_wp2_with fail
      refine hh.mono ?_
      rintro e w2 ⟨rfl, rfl⟩
      clear hh
      go_wp2
      go_round
      case rel => exact ⟨i + 1, by omega, by go_num, by rw [HS.out]⟩
      case measure => simp [intOf]; omega
    · have e : i = n := by omega
      subst e
      go_wp2
      go_ret
      exact ⟨rfl, rfl⟩

end Go.Proofs.Ytikbehfcngohnaa
