/- PoolOk, on both sides. -/
import Derived.Deep.RegionHeld3
import Derived.Deep.CutRange
import Derived.Test.YtmmhgkkcpjhiiaaDoorQPoolText26
import Derived.Test.YtmmhgkkcpjhiiaaDoorQPoolText28
namespace Go.Proofs.YtmmhgkkcpjhiiaaDoor
open Go.ChangeShapes Go.WideShapes Go.ChangeAt Go.RowKit Go.Joins
set_option linter.unusedVariables false
set_option linter.unusedSimpArgs false

theorem pairOk_ids {l : List Int} (h : ∀ j, j < l.length → idB (l.getD j 0) = true) : pairOkB l = (decide (l.length = 0) || decide (l.length = 2)) := by
 unfold pairOkB
 by_cases h2 : l.length = 2
 ·rw [h 0 (by omega), h 1 (by omega)]; simp
 ·simp [h2]
theorem pairOk_bad {l : List Int} {j : Nat} (hj : j < l.length) (h : idB (l.getD j 0) = false) : pairOkB l = false := by
 unfold pairOkB
 by_cases h2 : l.length = 2
 ·have h0 : ¬ (l.length = 0) := by omega
  match j, hj, h with
  | 0, _, h => simp only [h]; simp [h0]
  | 1, _, h => simp only [h]; simp [h0]
  | j + 2, hj, _ => omega
 ·have h0 : ¬ (l.length = 0) := by omega
  simp [h2, h0]

set_option maxRecDepth 100000 in
set_option maxHeartbeats 1000000 in
theorem l4pair_any (o : Option Addr) (cap : Nat) (l : List Int) (w : World) (hR : RdI w.heap.size w o l) (hl : l.length ≤ 1048576) :
  Calls Tryd.prog 61 #[.slice o l.length cap] w fun e w' => e = .returned (.bool (pairOkB l)) ∧ w = w' := by
 obtain ⟨A, hA⟩ : ∃ A, pairOkB l = A := ⟨_, rfl⟩
 rw [hA]
 have HA := hide hA
 clear hA
 go_enter Tryd.func61, Tryd.ntmps61
 go_wp2
 go_loop [3] (fun iv => ∃ i : Nat, i ≤ l.length ∧ iv = .int .i64 (i : Int) ∧ Hid (∀ j, j < i → idB (l.getD j 0) = true))
  (fun iv => l.length - (intOf iv).toNat)
 case atStart => exact ⟨0, Nat.zero_le _, rfl, fun j hj => absurd hj (Nat.not_lt_zero _)⟩
 case round =>
  obtain ⟨i, hi, rfl, HI⟩ := hrel
  by_cases hlt : i < l.length
  ·rcases hR with hR | ⟨b, off, rfl, hbl, hcell⟩
   ·subst hR; simp at hlt
   have hc := RdL.int hcell i hlt
   have z1 : (i : Int) < (l.length : Int) := by omega
   have HX := hide (show idB (l.getD i 0) = (decide (0 ≤ l.getD i 0) && decide (l.getD i 0 < 6)) from rfl)
   have HBD := hide (fun h => pairOk_bad hlt h)
   have HNX := hide (fun (h : idB (l.getD i 0) = true) => fun j (hj : j < i + 1) => (show idB (l.getD j 0) = true from (Nat.lt_succ_iff_lt_or_eq.1 hj).elim (fun h' => HI.out j h') (fun h' => h' ▸ h)))
   clear hcell
   generalize l.getD i 0 = x at *
   by_cases h1 : x < 0
   ·have hb : A = false := by rw [← HA.out]; exact HBD.out (by rw [HX.out, decide_eq_false (by omega)]; rfl)
    clear HA
    subst hb
    go_wp2
    go_ret
    exact ⟨rfl, rfl⟩
   ·by_cases h2 : 6 ≤ x
    ·have hb : A = false := by rw [← HA.out]; exact HBD.out (by rw [HX.out, decide_eq_false (show ¬ x < 6 by omega)]; simp)
     clear HA
     subst hb
     go_wp2
     go_ret
     exact ⟨rfl, rfl⟩
    ·have HOK := hide (HNX.out (by rw [HX.out, decide_eq_true (show 0 ≤ x by omega), decide_eq_true (show x < 6 by omega)]; rfl))
     clear HX HNX HBD
     go_wp2
     go_round
     case rel => exact ⟨i + 1, by omega, by go_num, HOK.out⟩
     case measure => simp [intOf]; omega
  ·have e : i = l.length := by omega
   subst e
   have hb := pairOk_ids HI.out
   rw [HA.out] at hb
   by_cases h0 : l.length = 0
   ·have h0' : (l.length : Int) = 0 := by omega
    have hb' : A = true := by rw [hb, decide_eq_true h0]; rfl
    clear hb HA HI hR
    subst hb'
    go_wp2
    go_ret
    exact ⟨rfl, rfl⟩
   ·by_cases h2 : l.length = 2
    ·have hb' : A = true := by rw [hb, decide_eq_true h2]; simp
     have H2 := hide h2
     clear hb HA HI hR h0 h2
     subst hb'
     have h2' : (l.length : Int) = 2 := by have := H2.out; omega
     go_wp2
     go_ret
     exact ⟨rfl, rfl⟩
    ·have hb' : A = false := by rw [hb, decide_eq_false h0, decide_eq_false h2]; rfl
     have h0' : ((l.length : Int) == 0) = false := beq_eq_false_iff_ne.2 (by omega)
     have h2' : ((l.length : Int) == 2) = false := beq_eq_false_iff_ne.2 (by omega)
     clear hb HA HI hR
     subst hb'
     go_wp2
     go_ret
     exact ⟨rfl, rfl⟩

theorem moved_all {aa bb : List (List Int)} : ∀ k, movedTo aa bb k = 0 → ∀ i, i < k → aa.getD i [] = bb.getD i []
 | 0, _ => fun i hi => absurd hi (Nat.not_lt_zero _)
 | k + 1, h => fun i hi => by
  have hb := (movedTo_bd aa bb k).1
  by_cases e : aa.getD k [] = bb.getD k []
  ·have h1 := movedTo_same (aa := aa) (bb := bb) (k := k) rfl rfl e
   rcases Nat.lt_succ_iff_lt_or_eq.1 hi with h' | h'
   ·exact moved_all k (by omega) i h'
   ·rw [h']; exact e
  ·have h1 := movedTo_diff (aa := aa) (bb := bb) (k := k) rfl rfl e
   omega
theorem moved_none {aa bb : List (List Int)} : ∀ k, (∀ i, i < k → aa.getD i [] = bb.getD i []) → movedTo aa bb k = 0
 | 0, _ => rfl
 | k + 1, h => by
  rw [← movedTo_same (aa := aa) (bb := bb) (k := k) rfl rfl (h k (by omega))]
  exact moved_none k (fun i hi => h i (by omega))
theorem tab_pair {ll : List (List Int)} (h : tabOkB ll = true) : ll.length = 8 ∧ ∀ i, i < 8 → pairOkB (ll.getD i []) = true := by
 unfold tabOkB at h
 simp only [Bool.and_eq_true, decide_eq_true_eq, List.all_eq_true, List.mem_range] at h
 exact h
theorem moved_eq {key : Int} {l : List Bk} {ll : List (List Int)} (hl : backsOkB l = true) (h : tabOkB ll = true) : movedI ll (newT key l) = 0 ↔ eqPtB (tabF ll) (newF key l) = true := by
 obtain ⟨h8, hp⟩ := tab_pair h
 have hm : movedI ll (newT key l) = movedTo ll (newT key l) 8 := by rw [movedI, if_pos ⟨h8, newT_len key l⟩]
 rw [hm]
 have hn : ∀ i, i < 8 → (newT key l).getD i [] = pairI key i l := fun i hi => by unfold newT; rw [rowsOf_get _ _ _ hi]
 constructor
 ·intro h0
  unfold eqPtB
  rw [List.all_eq_true]
  intro i hi
  have hi' : i < 8 := by simpa using hi
  have h1 := moved_all 8 h0 i hi'
  unfold tabF newF
  rw [h1, hn i hi']
  exact beq_self_eq_true _
 ·intro h0
  unfold eqPtB at h0
  rw [List.all_eq_true] at h0
  refine moved_none 8 (fun i hi => ?_)
  have h1 := eq_of_beq (h0 i (by simpa using hi))
  unfold tabF newF at h1
  rw [hn i hi, ← ipList_of (hp i hi), h1, ipList_of (pairI_ok key i hl)]
theorem moved_pool {m : Pm} (h : poolB m = true) : movedI (m.ring.getD 0 []) (newT m.key m.l) = 0 := by
 unfold poolB at h
 simp only [Bool.and_eq_true, decide_eq_true_eq, List.all_eq_true, List.mem_range] at h
 obtain ⟨⟨⟨⟨⟨h1, h2⟩, h3⟩, h4⟩, h5⟩, h6⟩ := h
 exact (moved_eq h2 (h5 0 (by omega))).2 h6
theorem pool_rest {m : Pm} (h1 : keyB m.key = true) (h2 : backsOkB m.l = true) (h3 : 1 ≤ m.ring.length) (h4 : m.ring.length ≤ 3) (h5 : ∀ i, i < m.ring.length → tabOkB (m.ring.getD i []) = true) (h6 : movedI (m.ring.getD 0 []) (newT m.key m.l) = 0) : poolB m = true :=
 poolB_yes h1 h2 h3 h4 h5 ((moved_eq h2 (h5 0 (by omega))).1 h6)

end Go.Proofs.YtmmhgkkcpjhiiaaDoor

