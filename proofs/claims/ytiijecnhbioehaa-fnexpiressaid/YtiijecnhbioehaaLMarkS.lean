/- The laws' marks in a row of slots. -/
import Derived.Test.YtiijecnhbioehaaLSlot
import Derived.Test.YtiijecnhbioehaaMarkL
namespace Go.Proofs.Ytiijecnhbioehaa
open Go.ChangeShapes Go.WideShapes Go.ChangeAt Go.RowKit Go.Joins
set_option linter.unusedVariables false
set_option linter.unusedSimpArgs false

def mkSl (k : Int) : Sl := ⟨k % 3 == 0, k + 1, k + 1 + 1, k + 1 + 1 + 1, k + 1 + 1 + 1 + 1⟩

set_option maxHeartbeats 4000000 in
theorem markSlotS_any (base : Nat) (v : Value) (l : List Sl) (k : Int) (w : World) (hv : ownL layS 35 w base v l) (h0 : 0 ≤ k) (h1 : k ≤ 1073741824) (hlen : l.length ≤ 1048576) :
    Calls Try.prog 80 #[v, .int .i64 k] w fun e w' => e = .returned (.int .i64 (k + 5 * l.length)) ∧ ownL layS 35 w' base v (mkL mkSl 5 k l.length) ∧ w.grownBy w' v.ownBlock := by
  rcases hv.2 with ⟨rfl, h2⟩ | ⟨g, cap, cur, rfl, hg, _⟩
  · have e : l = [] := List.eq_nil_of_length_eq_zero h2
    subst e
    go_enter Try.func80, Try.ntmps80
    go_wp2
    refine wp_loop_rounds 1 ?_
    rw [rounds_succ]
    go_wp2
    go_ret
    exact ⟨by simp, by simpa [mkL] using hv, World.grownBy.refl _ _⟩
  · have hv0 : w.ownsRow base 35 5 (.slice (some ⟨g, 0, none⟩) l.length cap) l.length ((mkTo mkSl 5 l k 0).flatMap layS.cs) := by rw [mkTo_zero]; exact hv
    go_enter Try.func80, Try.ntmps80
    go_wp2
    go_loopw [1, 5] (fun q j wr => ∃ i : Nat, i ≤ l.length ∧ j = .int .i64 i ∧ q = .int .i64 (k + 5 * (i : Int)) ∧ wr.ownsRow base 35 5 (.slice (some ⟨g, 0, none⟩) l.length cap) l.length ((mkTo mkSl 5 l k i).flatMap layS.cs) ∧ w.grownBy wr (some g))
      (fun _ j _ => l.length - (intOf j).toNat)
    case atStart => exact ⟨0, Nat.zero_le _, rfl, by simp, hv0, World.grownBy.refl _ _⟩
    case round =>
      obtain ⟨i, hi, rfl, rfl, hown, hgr⟩ := hrel
      by_cases hlt : i < l.length
      · have hxl : ((mkTo mkSl 5 l k i).flatMap layS.cs).length = l.length * 5 := by rw [flat_length, mkTo_length _ _ _ _ _ hi]; rfl
        have E := flat_set5 layS rfl (a := mkSl (k + 5 * (i : Int))) rfl (mkTo mkSl 5 l k i) i
        have E2 := mkTo_set mkSl 5 l k i hlt
        have HE0 := E.trans (congrArg (fun z => List.flatMap layS.cs z) E2)
        simp only [mkSl] at HE0
        clear E E2
        have hbm : (k + 5 * (i : Int)).tmod 3 = (k + 5 * (i : Int)) % 3 := Int.tmod_eq_emod_of_nonneg (by omega)
        generalize hxs : (mkTo mkSl 5 l k i).flatMap layS.cs = xs at *
        generalize hBB : ((k + 5 * (i : Int)) % 3 == 0) = B at *
        have s1 := grown_set1 (j := i * 5) (u := .bool B) hown hgr
        have s2 := grown_set1 (j := i * 5 + 1) (u := .int .i64 (k + 5 * (i : Int) + 1)) s1.1 s1.2
        have s3 := grown_set1 (j := i * 5 + 2) (u := .int .i64 (k + 5 * (i : Int) + 1 + 1)) s2.1 s2.2
        have s4 := grown_set1 (j := i * 5 + 3) (u := .int .i64 (k + 5 * (i : Int) + 1 + 1 + 1)) s3.1 s3.2
        have s5 := grown_set1 (j := i * 5 + 4) (u := .int .i64 (k + 5 * (i : Int) + 1 + 1 + 1 + 1)) s4.1 s4.2
        have f0 := hown.frozenAt (i * 5)
        obtain ⟨q0, hq0⟩ : ∃ z, wr.cell? ⟨g, i * 5, none⟩ = some z := ⟨_, (hown.cellAt (i * 5) (by omega)).trans (List.getElem?_eq_getElem (by (try simp) <;> omega))⟩
        have f1 := s1.1.frozenAt (i * 5 + 1)
        obtain ⟨q1, hq1⟩ : ∃ z, (wr.setCell ⟨g, i * 5, none⟩ (.bool B)).cell? ⟨g, i * 5 + 1, none⟩ = some z := ⟨_, (s1.1.cellAt (i * 5 + 1) (by omega)).trans (List.getElem?_eq_getElem (by (try simp) <;> omega))⟩
        have f2 := s2.1.frozenAt (i * 5 + 2)
        obtain ⟨q2, hq2⟩ : ∃ z, ((wr.setCell ⟨g, i * 5, none⟩ (.bool B)).setCell ⟨g, i * 5 + 1, none⟩ (.int .i64 (k + 5 * (i : Int) + 1))).cell? ⟨g, i * 5 + 2, none⟩ = some z := ⟨_, (s2.1.cellAt (i * 5 + 2) (by omega)).trans (List.getElem?_eq_getElem (by (try simp) <;> omega))⟩
        have f3 := s3.1.frozenAt (i * 5 + 3)
        obtain ⟨q3, hq3⟩ : ∃ z, (((wr.setCell ⟨g, i * 5, none⟩ (.bool B)).setCell ⟨g, i * 5 + 1, none⟩ (.int .i64 (k + 5 * (i : Int) + 1))).setCell ⟨g, i * 5 + 2, none⟩ (.int .i64 (k + 5 * (i : Int) + 1 + 1))).cell? ⟨g, i * 5 + 3, none⟩ = some z := ⟨_, (s3.1.cellAt (i * 5 + 3) (by omega)).trans (List.getElem?_eq_getElem (by (try simp) <;> omega))⟩
        have f4 := s4.1.frozenAt (i * 5 + 4)
        obtain ⟨q4, hq4⟩ : ∃ z, ((((wr.setCell ⟨g, i * 5, none⟩ (.bool B)).setCell ⟨g, i * 5 + 1, none⟩ (.int .i64 (k + 5 * (i : Int) + 1))).setCell ⟨g, i * 5 + 2, none⟩ (.int .i64 (k + 5 * (i : Int) + 1 + 1))).setCell ⟨g, i * 5 + 3, none⟩ (.int .i64 (k + 5 * (i : Int) + 1 + 1 + 1))).cell? ⟨g, i * 5 + 4, none⟩ = some z := ⟨_, (s4.1.cellAt (i * 5 + 4) (by omega)).trans (List.getElem?_eq_getElem (by (try simp) <;> omega))⟩
        have S := hide s5
        have HE := hide HE0
        have z1 : (i : Int) < (l.length : Int) := by omega
        clear s1 s2 s3 s4 s5 hown hgr hv hv0 HE0 hxl
        go_wp2
        go_roundw
        case rel =>
          refine ⟨i + 1, by omega, by go_num, by go_num, ?_, S.out.2⟩
          have h := S.out.1
          rw [← HE.out]
          exact h
        case measure => simp [intOf]; omega
      · have e : i = l.length := by omega
        subst e
        rw [mkTo_all] at hown
        have HO := hide hown
        clear hown
        go_wp2
        go_ret
        exact ⟨rfl, (by have := HO.out; unfold ownL; rw [mkL_length]; exact this), hgr⟩

set_option maxHeartbeats 4000000 in
theorem heldSlotS_any (o : Option Addr) (cap n C : Nat) (k : Int) (w : World) (hR : RdL layS C w o (mkL mkSl 5 k n)) (h0 : 0 ≤ k) (h1 : k ≤ 1073741824) (hlen : n ≤ 1048576) :
    Calls Try.prog 81 #[.slice o n cap, .int .i64 k] w fun e w' => e = .returned (.int .i64 (k + 5 * n)) ∧ w = w' := by
  go_enter Try.func81, Try.ntmps81
  go_wp2
  go_loop [1, 5] (fun q j => ∃ i : Nat, i ≤ n ∧ j = .int .i64 i ∧ q = .int .i64 (k + 5 * (i : Int)))
    (fun _ j => n - (intOf j).toNat)
  case atStart => exact ⟨0, Nat.zero_le _, rfl, by simp⟩
  case round =>
    obtain ⟨i, hi, rfl, rfl⟩ := hrel
    by_cases hlt : i < n
    · rcases hR with hR | ⟨b, off, rfl, hbl, hcell⟩
      · have := mkL_length mkSl 5 k n; rw [hR] at this; simp at this; omega
      have hc := hcell i (by rw [mkL_length]; exact hlt)
      rw [mkL_get _ _ _ _ _ _ hlt] at hc
      have hbm : (k + 5 * (i : Int)).tmod 3 = (k + 5 * (i : Int)) % 3 := Int.tmod_eq_emod_of_nonneg (by omega)
      have c0 : w.cell? ⟨b, off + i * 5, none⟩ = some (.bool ((k + 5 * (i : Int)) % 3 == 0)) := hc 0 (by decide)
      have c1 : w.cell? ⟨b, off + i * 5 + 1, none⟩ = some (.int .i64 (k + 5 * (i : Int) + 1)) := hc 1 (by decide)
      have c2 : w.cell? ⟨b, off + i * 5 + 2, none⟩ = some (.int .i64 (k + 5 * (i : Int) + 1 + 1)) := hc 2 (by decide)
      have c3 : w.cell? ⟨b, off + i * 5 + 3, none⟩ = some (.int .i64 (k + 5 * (i : Int) + 1 + 1 + 1)) := hc 3 (by decide)
      have c4 : w.cell? ⟨b, off + i * 5 + 4, none⟩ = some (.int .i64 (k + 5 * (i : Int) + 1 + 1 + 1 + 1)) := hc 4 (by decide)
      clear hcell hc
      go_wp2
      go_round
      case rel => exact ⟨i + 1, by omega, by go_num, by go_num⟩
      case measure => simp [intOf]; omega
    · have e : i = n := by omega
      subst e
      go_wp2
      go_ret
      exact ⟨rfl, rfl⟩

end Go.Proofs.Ytiijecnhbioehaa
