/- Slices of ints: how they read; the laws' own helpers over them: eqIntS, markIntS, heldIntS. -/
import Derived.Test.YtldjaapbkihibaaLists
import Derived.Test.YtldjaapbkihibaaGrow
namespace Go.Proofs.Ytldjaapbkihibaa
open Go.ChangeShapes Go.WideShapes Go.ChangeAt Go.RowKit Go.Joins
set_option linter.unusedVariables false
set_option linter.unusedSimpArgs false

def layI : Lay Int := ⟨1, fun a => [.int .i64 a], 0, fun _ => rfl⟩
abbrev RdI := RdL layI
abbrev ownI := ownL layI 3

theorem RdL.int {w : World} {b off : Nat} {l : List Int} (h : ∀ i, i < l.length → ∀ j, j < layI.k → w.cell? ⟨b, off + i * layI.k + j, none⟩ = (layI.cs (l.getD i layI.d))[j]?) (i : Nat) (hi : i < l.length) :
    w.cell? ⟨b, off + i, none⟩ = some (.int .i64 (l.getD i 0)) := by
  have := h i hi 0 (by decide)
  rw [show layI.k = 1 from rfl, Nat.mul_one, Nat.add_zero] at this
  exact this

theorem infoInt : (Try.prog.info? 3).map (fun i => (i.zero, i.size, i.bytes)) = some (some (.int .i64 0), 1, 8) := by kernel_rfl
theorem flat_one (l : List Int) : l.flatMap layI.cs = l.map (Value.int .i64) := by
  induction l with
  | nil => rfl
  | cons a l ih => simp only [List.flatMap_cons, List.map_cons, ih]; rfl

set_option maxHeartbeats 1000000 in
theorem eqIntS_same (o1 o2 : Option Addr) (c1 c2 : Nat) (l : List Int) (w : World) (h1 : RdI w.heap.size w o1 l) (h2 : RdI w.heap.size w o2 l) (hl : l.length ≤ 1048576) :
    Calls Try.prog 44 #[.slice o1 l.length c1, .slice o2 l.length c2] w fun e w' => e = .returned (.bool true) ∧ Below w.heap.size w w' := by
  go_enter Try.func44, Try.ntmps44
  go_wp2
  go_loopw [5] (fun i wr => ∃ k : Nat, k ≤ l.length ∧ i = .int .i64 k ∧ Below w.heap.size w wr)
    (fun i _ => l.length - (intOf i).toNat)
  case atStart => exact ⟨0, Nat.zero_le _, rfl, Below.refl _ _⟩
  case round =>
    obtain ⟨k, hk, rfl, hBr⟩ := hrel
    by_cases hlt : k < l.length
    · rcases h1 with h1 | ⟨b1, off1, rfl, hb1, hcell1⟩
      · subst h1; simp at hlt
      rcases h2 with h2 | ⟨b2, off2, rfl, hb2, hcell2⟩
      · subst h2; simp at hlt
      have hc1 : wr.cell? ⟨b1, off1 + k, none⟩ = some (.int .i64 (l.getD k 0)) := (hBr.cell (p := ⟨b1, off1 + k, none⟩) hb1).trans (RdL.int hcell1 k hlt)
      have hc2 : wr.cell? ⟨b2, off2 + k, none⟩ = some (.int .i64 (l.getD k 0)) := (hBr.cell (p := ⟨b2, off2 + k, none⟩) hb2).trans (RdL.int hcell2 k hlt)
      have HB := hide hBr
      clear hcell1 hcell2 hBr
      have i1 : (k : Int) < (l.length : Int) := by omega
      generalize l.getD k 0 = x at *
      go_wp2
      go_quiet (fail)
      go_wp2
      go_roundw
      case rel => exact ⟨k + 1, by omega, by go_num, below_drewN HB.out _⟩
      case measure => simp [intOf]; omega
    · have e : k = l.length := by omega
      subst e
      go_wp2
      go_ret
      exact ⟨rfl, hBr⟩

def markI (k : Int) (n : Nat) : List Int := (List.range n).map (fun (i : Nat) => k + (i : Int))
theorem markI_length (k : Int) (n : Nat) : (markI k n).length = n := by simp [markI]
theorem markI_get (k : Int) (n i : Nat) (h : i < n) : (markI k n).getD i 0 = k + (i : Int) := by simp [markI, h]
def markITo (l : List Int) (k : Int) (i : Nat) : List Int := markI k i ++ l.drop i
theorem markITo_zero (l : List Int) (k : Int) : markITo l k 0 = l := by simp [markITo, markI]
theorem markITo_all (l : List Int) (k : Int) : markITo l k l.length = markI k l.length := by simp [markITo]
theorem markITo_length (l : List Int) (k : Int) (i : Nat) (h : i ≤ l.length) : (markITo l k i).length = l.length := by simp [markITo, markI]; omega
theorem markITo_set (l : List Int) (k : Int) (i : Nat) (h : i < l.length) : ((markITo l k i).flatMap layI.cs).set i (.int .i64 (k + (i : Int))) = (markITo l k (i + 1)).flatMap layI.cs := by
  rw [flat_set1 layI rfl (a := k + (i : Int)) rfl]
  congr 1
  have e2 : (markI k i).length = i := markI_length k i
  unfold markITo
  rw [List.drop_eq_getElem_cons h, List.set_append_right _ _ (by omega), e2, Nat.sub_self, List.set_cons_zero]
  have e3 : markI k (i + 1) = markI k i ++ [k + (i : Int)] := by simp [markI, List.range_succ]
  rw [e3, List.append_assoc]
  rfl
theorem markI_step {w wr : World} {base g cap : Nat} {l : List Int} {k : Int} {i : Nat} (hi : i < l.length) (hown : wr.ownsRow base 3 1 (.slice (some ⟨g, 0, none⟩) l.length cap) l.length ((markITo l k i).flatMap layI.cs))
    (hg : w.grownBy wr (some g)) : (wr.setCell ⟨g, i, none⟩ (.int .i64 (k + (i : Int)))).ownsRow base 3 1 (.slice (some ⟨g, 0, none⟩) l.length cap) l.length ((markITo l k (i + 1)).flatMap layI.cs) ∧
      w.grownBy (wr.setCell ⟨g, i, none⟩ (.int .i64 (k + (i : Int)))) (some g) := by
  have h := hown.stored i (.int .i64 (k + (i : Int)))
  rw [markITo_set l k i hi] at h
  exact ⟨h.1, ⟨hg.os, hg.tape, hg.output, by have := h.2.size; have := hg.size; omega, fun j hj hne => (h.2.block j (Nat.lt_of_lt_of_le hj hg.size) hne).trans (hg.block j hj hne)⟩⟩

set_option maxHeartbeats 1000000 in
theorem markIntS_any (base : Nat) (v : Value) (l : List Int) (k : Int) (w : World) (hv : ownI w base v l) (h0 : 0 ≤ k) (h1 : k ≤ 1073741824) (hlen : l.length ≤ 1048576) :
    Calls Try.prog 45 #[v, .int .i64 k] w fun e w' => e = .returned (.int .i64 (k + l.length)) ∧ ownI w' base v (markI k l.length) ∧ w.grownBy w' v.ownBlock := by
  rcases hv.2 with ⟨rfl, h2⟩ | ⟨g, cap, cur, rfl, hg, _⟩
  · have e : l = [] := List.eq_nil_of_length_eq_zero h2
    subst e
    go_enter Try.func45, Try.ntmps45
    go_wp2
    refine wp_loop_rounds 1 ?_
    rw [rounds_succ]
    go_wp2
    go_ret
    exact ⟨by simp, by simpa [markI] using hv, World.grownBy.refl _ _⟩
  · go_enter Try.func45, Try.ntmps45
    go_wp2
    have hv0 : w.ownsRow base 3 1 (.slice (some ⟨g, 0, none⟩) l.length cap) l.length ((markITo l k 0).flatMap layI.cs) := by rw [markITo_zero]; exact hv
    go_loopw [1, 5] (fun m j wr => ∃ i : Nat, i ≤ l.length ∧ j = .int .i64 i ∧ m = .int .i64 (k + (i : Int)) ∧ wr.ownsRow base 3 1 (.slice (some ⟨g, 0, none⟩) l.length cap) l.length ((markITo l k i).flatMap layI.cs) ∧ w.grownBy wr (some g))
      (fun _ j _ => l.length - (intOf j).toNat)
    case atStart => exact ⟨0, Nat.zero_le _, rfl, by simp, hv0, World.grownBy.refl _ _⟩
    case round =>
      obtain ⟨i, hi, rfl, rfl, hown, hgr⟩ := hrel
      by_cases hlt : i < l.length
      · have hcl := hown.cellAt i (by omega)
        have hfr := hown.frozenAt i
        have hln : ((markITo l k i).flatMap layI.cs).length = l.length := by rw [flat_length, markITo_length l k i hi]; exact Nat.mul_one _
        obtain ⟨u, hu⟩ : ∃ u, wr.cell? ⟨g, i, none⟩ = some u := ⟨_, hcl.trans (List.getElem?_eq_getElem (by omega))⟩
        have R := hide (markI_step hlt hown hgr)
        clear hcl hown hgr hv hv0 hln
        go_wp2
        go_roundw
        case rel => exact ⟨i + 1, by omega, by go_num, by go_num, R.out.1, R.out.2⟩
        case measure => simp [intOf]; omega
      · have e : i = l.length := by omega
        subst e
        rw [markITo_all] at hown
        have HO := hide hown
        clear hown
        go_wp2
        go_ret
        exact ⟨rfl, (by have := HO.out; unfold ownI ownL; rw [markI_length]; exact this), hgr⟩

set_option maxHeartbeats 1000000 in
theorem heldIntS_any (o : Option Addr) (cap n C : Nat) (k : Int) (w : World) (hR : RdI C w o (markI k n)) (h0 : 0 ≤ k) (h1 : k ≤ 1073741824) (hlen : n ≤ 1048576) :
    Calls Try.prog 46 #[.slice o n cap, .int .i64 k] w fun e w' => e = .returned (.int .i64 (k + n)) ∧ w = w' := by
  go_enter Try.func46, Try.ntmps46
  go_wp2
  go_loop [1, 5] (fun m j => ∃ i : Nat, i ≤ n ∧ j = .int .i64 i ∧ m = .int .i64 (k + (i : Int)))
    (fun _ j => n - (intOf j).toNat)
  case atStart => exact ⟨0, Nat.zero_le _, rfl, by simp⟩
  case round =>
    obtain ⟨i, hi, rfl, rfl⟩ := hrel
    by_cases hlt : i < n
    · rcases hR with hR | ⟨b, off, rfl, hbl, hcell⟩
      · have := markI_length k n; rw [hR] at this; simp at this; omega
      have hc := RdL.int hcell i (by rw [markI_length]; exact hlt)
      rw [markI_get k n i hlt] at hc
      clear hcell
      go_wp2
      go_round
      case rel => exact ⟨i + 1, by omega, by go_num, by go_num⟩
      case measure => simp [intOf]; omega
    · have e : i = n := by omega
      subst e
      go_wp2
      go_ret
      exact ⟨rfl, rfl⟩

end Go.Proofs.Ytldjaapbkihibaa
