/- The laws' marks in a row of impl.PoolCmd. -/
import Derived.Test.YtldjaapbkihibaaLCmds
import Derived.Test.YtldjaapbkihibaaMarkL
namespace Go.Proofs.Ytldjaapbkihibaa
open Go.ChangeShapes Go.WideShapes Go.ChangeAt Go.RowKit Go.Joins
set_option linter.unusedVariables false
set_option linter.unusedSimpArgs false

def mkCd (k : Int) := ((k, k + 1, k + 1 + 1) : _)

set_option maxHeartbeats 2000000 in
theorem markPoolCmdS_any (base : Nat) (v : Value) (l : List _) (k : Int) (w : World) (hv : ownL layC 28 w base v l) (h0 : 0 ≤ k) (h1 : k ≤ 1073741824) (hlen : l.length ≤ 1048576) :
    Calls Try.prog 100 #[v, .int .i64 k] w fun e w' => e = .returned (.int .i64 (k + 3 * l.length)) ∧ ownL layC 28 w' base v (mkL mkCd 3 k l.length) ∧ w.grownBy w' v.ownBlock := by
  rcases hv.2 with ⟨rfl, h2⟩ | ⟨g, cap, cur, rfl, hg, _⟩
  · have e : l = [] := List.eq_nil_of_length_eq_zero h2
    subst e
    go_enter Try.func100, Try.ntmps100
    go_wp2
    refine wp_loop_rounds 1 ?_
    rw [rounds_succ]
    go_wp2
    go_ret
    exact ⟨by simp, by simpa [mkL] using hv, World.grownBy.refl _ _⟩
  · have hv0 : w.ownsRow base 28 3 (.slice (some ⟨g, 0, none⟩) l.length cap) l.length ((mkTo mkCd 3 l k 0).flatMap layC.cs) := by rw [mkTo_zero]; exact hv
    go_enter Try.func100, Try.ntmps100
    go_wp2
    go_loopw [1, 5] (fun q j wr => ∃ i : Nat, i ≤ l.length ∧ j = .int .i64 i ∧ q = .int .i64 (k + 3 * (i : Int)) ∧ wr.ownsRow base 28 3 (.slice (some ⟨g, 0, none⟩) l.length cap) l.length ((mkTo mkCd 3 l k i).flatMap layC.cs) ∧ w.grownBy wr (some g))
      (fun _ j _ => l.length - (intOf j).toNat)
    case atStart => exact ⟨0, Nat.zero_le _, rfl, by simp, hv0, World.grownBy.refl _ _⟩
    case round =>
      obtain ⟨i, hi, rfl, rfl, hown, hgr⟩ := hrel
      by_cases hlt : i < l.length
      · have hxl : ((mkTo mkCd 3 l k i).flatMap layC.cs).length = l.length * 3 := by rw [flat_length, mkTo_length _ _ _ _ _ hi]; rfl
        have E := flat_set3 layC rfl (a := mkCd (k + 3 * (i : Int))) rfl (mkTo mkCd 3 l k i) i
        have E2 := mkTo_set mkCd 3 l k i hlt
        generalize hxs : (mkTo mkCd 3 l k i).flatMap layC.cs = xs at *
        have s1 := grown_set1 (j := i * 3) (u := .int .i64 (k + 3 * (i : Int))) hown hgr
        have s2 := grown_set1 (j := i * 3 + 1) (u := .int .i64 (k + 3 * (i : Int) + 1)) s1.1 s1.2
        have s3 := grown_set1 (j := i * 3 + 2) (u := .int .i64 (k + 3 * (i : Int) + 1 + 1)) s2.1 s2.2
        have f0 := hown.frozenAt (i * 3)
        obtain ⟨q0, hq0⟩ : ∃ z, wr.cell? ⟨g, i * 3, none⟩ = some z := ⟨_, (hown.cellAt (i * 3) (by omega)).trans (List.getElem?_eq_getElem (by (try simp) <;> omega))⟩
        have f1 := s1.1.frozenAt (i * 3 + 1)
        obtain ⟨q1, hq1⟩ : ∃ z, (wr.setCell ⟨g, i * 3, none⟩ (.int .i64 (k + 3 * (i : Int)))).cell? ⟨g, i * 3 + 1, none⟩ = some z := ⟨_, (s1.1.cellAt (i * 3 + 1) (by omega)).trans (List.getElem?_eq_getElem (by (try simp) <;> omega))⟩
        have f2 := s2.1.frozenAt (i * 3 + 2)
        obtain ⟨q2, hq2⟩ : ∃ z, ((wr.setCell ⟨g, i * 3, none⟩ (.int .i64 (k + 3 * (i : Int)))).setCell ⟨g, i * 3 + 1, none⟩ (.int .i64 (k + 3 * (i : Int) + 1))).cell? ⟨g, i * 3 + 2, none⟩ = some z := ⟨_, (s2.1.cellAt (i * 3 + 2) (by omega)).trans (List.getElem?_eq_getElem (by (try simp) <;> omega))⟩
        have S := hide s3
        have HE := hide (E.trans (congrArg (fun z => List.flatMap layC.cs z) E2))
        have z1 : (i : Int) < (l.length : Int) := by omega
        clear s1 s2 s3 hown hgr hv hv0 E E2 hxl
        go_wp2
        go_roundw
        case rel =>
          refine ⟨i + 1, by omega, by go_num, by go_num, ?_, S.out.2⟩
          have h := S.out.1
          rw [← HE.out]
          exact h
        case measure => simp [intOf]; omega
      · have e : i = l.length := by omega
        subst e
        rw [mkTo_all] at hown
        have HO := hide hown
        clear hown
        go_wp2
        go_ret
        exact ⟨rfl, (by have := HO.out; unfold ownL; rw [mkL_length]; exact this), hgr⟩

end Go.Proofs.Ytldjaapbkihibaa
