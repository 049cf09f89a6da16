/- The laws' marks: a row is filled with numbers that go up, and held against them. -/
import Derived.Test.YtoeoiljddcjphaaLBytes
namespace Go.Proofs.Ytoeoiljddcjphaa
open Go.ChangeShapes Go.WideShapes Go.ChangeAt Go.RowKit Go.Joins
set_option linter.unusedVariables false
set_option linter.unusedSimpArgs false

def markL (k : Int) (n : Nat) : List Int := (List.range n).map (fun (i : Nat) => (k + (i : Int)) % 256)
theorem markL_length (k : Int) (n : Nat) : (markL k n).length = n := by simp [markL]
theorem markL_get (k : Int) (n i : Nat) (h : i < n) : (markL k n).getD i 0 = (k + (i : Int)) % 256 := by simp [markL, h]
def markTo (l : List Int) (k : Int) (i : Nat) : List Int := markL k i ++ l.drop i
theorem markTo_zero (l : List Int) (k : Int) : markTo l k 0 = l := by simp [markTo, markL]
theorem markTo_all (l : List Int) (k : Int) : markTo l k l.length = markL k l.length := by simp [markTo]
theorem markTo_length (l : List Int) (k : Int) (i : Nat) (h : i ≤ l.length) : (markTo l k i).length = l.length := by simp [markTo, markL]; omega
theorem markTo_set (l : List Int) (k : Int) (i : Nat) (h : i < l.length) : ((markTo l k i).map (Value.int .u8)).set i (.int .u8 ((k + (i : Int)) % 256)) = (markTo l k (i + 1)).map (Value.int .u8) := by
  rw [← List.map_set]
  congr 1
  have e2 : (markL k i).length = i := markL_length k i
  unfold markTo
  rw [List.drop_eq_getElem_cons h, List.set_append_right _ _ (by omega), e2, Nat.sub_self, List.set_cons_zero]
  have e3 : markL k (i + 1) = markL k i ++ [(k + (i : Int)) % 256] := by simp [markL, List.range_succ]
  rw [e3, List.append_assoc]
  rfl

theorem mark_step {w wr : World} {base g cap : Nat} {l : List Int} {k : Int} {i : Nat} (hi : i < l.length) (hown : wr.ownsRow base 5 1 (.slice (some ⟨g, 0, none⟩) l.length cap) l.length ((markTo l k i).map (Value.int .u8)))
    (hg : w.grownBy wr (some g)) : (wr.setCell ⟨g, i, none⟩ (.int .u8 ((k + (i : Int)) % 256))).ownsRow base 5 1 (.slice (some ⟨g, 0, none⟩) l.length cap) l.length ((markTo l k (i + 1)).map (Value.int .u8)) ∧
      w.grownBy (wr.setCell ⟨g, i, none⟩ (.int .u8 ((k + (i : Int)) % 256))) (some g) := by
  have h := hown.stored i (.int .u8 ((k + (i : Int)) % 256))
  rw [markTo_set l k i hi] at h
  exact ⟨h.1, ⟨hg.os, hg.tape, hg.output, by have := h.2.size; have := hg.size; omega, fun j hj hne => (h.2.block j (Nat.lt_of_lt_of_le hj hg.size) hne).trans (hg.block j hj hne)⟩⟩

set_option maxHeartbeats 1000000 in
theorem markByteS_any (base : Nat) (v : Value) (l : List Int) (k : Int) (w : World) (hv : ownB w base v l) (h0 : 0 ≤ k) (h1 : k ≤ 1073741824) (hlen : l.length ≤ 1048576) :
    Calls Try.prog 20 #[v, .int .i64 k] w fun e w' => e = .returned (.int .i64 (k + l.length)) ∧ ownB w' base v (markL k l.length) ∧ w.grownBy w' v.ownBlock := by
  rcases hv.2 with ⟨rfl, h2⟩ | ⟨g, cap, cur, rfl, hg, _⟩
  · have e : l = [] := List.eq_nil_of_length_eq_zero h2
    subst e
    go_enter Try.func20, Try.ntmps20
    go_wp2
    refine wp_loop_rounds 1 ?_
    rw [rounds_succ]
    go_wp2
    go_ret
    exact ⟨by simp, by simpa [markL] using hv, World.grownBy.refl _ _⟩
  · go_enter Try.func20, Try.ntmps20
    go_wp2
    have hv0 : w.ownsRow base 5 1 (.slice (some ⟨g, 0, none⟩) l.length cap) l.length ((markTo l k 0).map (Value.int .u8)) := by rw [markTo_zero]; exact hv
    go_loopw [1, 5] (fun m j wr => ∃ i : Nat, i ≤ l.length ∧ j = .int .i64 i ∧ m = .int .i64 (k + (i : Int)) ∧ wr.ownsRow base 5 1 (.slice (some ⟨g, 0, none⟩) l.length cap) l.length ((markTo l k i).map (Value.int .u8)) ∧ w.grownBy wr (some g))
      (fun _ j _ => l.length - (intOf j).toNat)
    case atStart => exact ⟨0, Nat.zero_le _, rfl, by simp, hv0, World.grownBy.refl _ _⟩
    case round =>
      obtain ⟨i, hi, rfl, rfl, hown, hgr⟩ := hrel
      by_cases hlt : i < l.length
      · have hcl := hown.cellAt i (by omega)
        have hfr := hown.frozenAt i
        obtain ⟨u, hu⟩ : ∃ u, wr.cell? ⟨g, i, none⟩ = some u := ⟨_, hcl.trans (List.getElem?_eq_getElem (by simp [markTo_length l k i hi]; omega))⟩
        have R := hide (mark_step hlt hown hgr)
        clear hcl hown hgr hv hv0
        go_wp2
        go_roundw
        case rel => exact ⟨i + 1, by omega, by go_num, by go_num, R.out.1, R.out.2⟩
        case measure => simp [intOf]; omega
      · have e : i = l.length := by omega
        subst e
        rw [markTo_all] at hown
        have HO := hide hown
        clear hown
        go_wp2
        go_ret
        exact ⟨rfl, by unfold ownB; rw [markL_length]; exact HO.out, hgr⟩

set_option maxHeartbeats 1000000 in
theorem heldByteS_any (o : Option Addr) (cap n : Nat) (k : Int) (w : World) (hR : Rd w o (markL k n)) (h0 : 0 ≤ k) (h1 : k ≤ 1073741824) (hlen : n ≤ 1048576) :
    Calls Try.prog 79 #[.slice o n cap, .int .i64 k] w fun e w' => e = .returned (.int .i64 (k + n)) ∧ w = w' := by
  go_enter Try.func79, Try.ntmps79
  go_wp2
  go_loop [1, 5] (fun m j => ∃ i : Nat, i ≤ n ∧ j = .int .i64 i ∧ m = .int .i64 (k + (i : Int)))
    (fun _ j => n - (intOf j).toNat)
  case atStart => exact ⟨0, Nat.zero_le _, rfl, by simp⟩
  case round =>
    obtain ⟨i, hi, rfl, rfl⟩ := hrel
    by_cases hlt : i < n
    · rcases hR with hR | ⟨b, off, rfl, hbl, hcell⟩
      · have := markL_length k n; rw [hR] at this; simp at this; omega
      have hc := hcell i (by rw [markL_length]; exact hlt)
      rw [markL_get k n i hlt] at hc
      clear hcell
      go_wp2
      go_round
      case rel => exact ⟨i + 1, by omega, by go_num, by go_num⟩
      case measure => simp [intOf]; omega
    · have e : i = n := by omega
      subst e
      go_wp2
      go_ret
      exact ⟨rfl, rfl⟩

end Go.Proofs.Ytoeoiljddcjphaa
