/- The laws' marks in a row of impl.Seg. -/
import Derived.Test.YtoeoiljddcjphaaDoorSegL
import Derived.Test.YtoeoiljddcjphaaDoorMarkL
namespace Go.Proofs.YtoeoiljddcjphaaDoor
open Go.ChangeShapes Go.WideShapes Go.ChangeAt Go.RowKit Go.Joins
set_option linter.unusedVariables false
set_option linter.unusedSimpArgs false

def mkSeg (k : Int) := ((k, k + 1) : _)

set_option maxHeartbeats 2000000 in
theorem markSegS_any (base : Nat) (v : Value) (l : List _) (k : Int) (w : World) (hv : ownL layG 62 w base v l) (h0 : 0 ≤ k) (h1 : k ≤ 1073741824) (hlen : l.length ≤ 1048576) :
    Calls Tryd.prog 53 #[v, .int .i64 k] w fun e w' => e = .returned (.int .i64 (k + 2 * l.length)) ∧ ownL layG 62 w' base v (mkL mkSeg 2 k l.length) ∧ w.grownBy w' v.ownBlock := by
  rcases hv.2 with ⟨rfl, h2⟩ | ⟨g, cap, cur, rfl, hg, _⟩
  · have e : l = [] := List.eq_nil_of_length_eq_zero h2
    subst e
    go_enter Tryd.func53, Tryd.ntmps53
    go_wp2
    refine wp_loop_rounds 1 ?_
    rw [rounds_succ]
    go_wp2
    go_ret
    exact ⟨by simp, by simpa [mkL] using hv, World.grownBy.refl _ _⟩
  · have hv0 : w.ownsRow base 62 2 (.slice (some ⟨g, 0, none⟩) l.length cap) l.length ((mkTo mkSeg 2 l k 0).flatMap layG.cs) := by rw [mkTo_zero]; exact hv
    go_enter Tryd.func53, Tryd.ntmps53
    go_wp2
    go_loopw [1, 5] (fun q j wr => ∃ i : Nat, i ≤ l.length ∧ j = .int .i64 i ∧ q = .int .i64 (k + 2 * (i : Int)) ∧ wr.ownsRow base 62 2 (.slice (some ⟨g, 0, none⟩) l.length cap) l.length ((mkTo mkSeg 2 l k i).flatMap layG.cs) ∧ w.grownBy wr (some g))
      (fun _ j _ => l.length - (intOf j).toNat)
    case atStart => exact ⟨0, Nat.zero_le _, rfl, by simp, hv0, World.grownBy.refl _ _⟩
    case round =>
      obtain ⟨i, hi, rfl, rfl, hown, hgr⟩ := hrel
      by_cases hlt : i < l.length
      · have hxl : ((mkTo mkSeg 2 l k i).flatMap layG.cs).length = l.length * 2 := by rw [flat_length, mkTo_length _ _ _ _ _ hi]; rfl
        have E := flat_set2 layG rfl (a := mkSeg (k + 2 * (i : Int))) rfl (mkTo mkSeg 2 l k i) i
        have E2 := mkTo_set mkSeg 2 l k i hlt
        generalize hxs : (mkTo mkSeg 2 l k i).flatMap layG.cs = xs at *
        have s1 := grown_set1 (j := i * 2) (u := .int .i64 (k + 2 * (i : Int))) hown hgr
        have s2 := grown_set1 (j := i * 2 + 1) (u := .int .i64 (k + 2 * (i : Int) + 1)) s1.1 s1.2
        have f0 := hown.frozenAt (i * 2)
        obtain ⟨q0, hq0⟩ : ∃ z, wr.cell? ⟨g, i * 2, none⟩ = some z := ⟨_, (hown.cellAt (i * 2) (by omega)).trans (List.getElem?_eq_getElem (by (try simp) <;> omega))⟩
        have f1 := s1.1.frozenAt (i * 2 + 1)
        obtain ⟨q1, hq1⟩ : ∃ z, (wr.setCell ⟨g, i * 2, none⟩ (.int .i64 (k + 2 * (i : Int)))).cell? ⟨g, i * 2 + 1, none⟩ = some z := ⟨_, (s1.1.cellAt (i * 2 + 1) (by omega)).trans (List.getElem?_eq_getElem (by (try simp) <;> omega))⟩
        have S := hide s2
        have HE := hide (E.trans (congrArg (fun z => List.flatMap layG.cs z) E2))
        have z1 : (i : Int) < (l.length : Int) := by omega
        clear s1 s2 hown hgr hv hv0 E E2 hxl
        go_wp2
        go_roundw
        case rel =>
          refine ⟨i + 1, by omega, by go_num, by go_num, ?_, S.out.2⟩
          have h := S.out.1
          rw [← HE.out]
          exact h
        case measure => simp [intOf]; omega
      · have e : i = l.length := by omega
        subst e
        rw [mkTo_all] at hown
        have HO := hide hown
        clear hown
        go_wp2
        go_ret
        exact ⟨rfl, (by have := HO.out; unfold ownL; rw [mkL_length]; exact this), hgr⟩

end Go.Proofs.YtoeoiljddcjphaaDoor
