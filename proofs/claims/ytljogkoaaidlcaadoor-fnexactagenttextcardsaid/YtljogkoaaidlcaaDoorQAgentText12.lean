/- The program's flows, CountOf. -/
import Derived.Deep.RegionWith
import Derived.Test.YtljogkoaaidlcaaDoorQAgentText10
import Derived.Test.YtljogkoaaidlcaaDoorQAgentText06
import Derived.Test.YtljogkoaaidlcaaDoorQAgentText11
namespace Go.Proofs.YtljogkoaaidlcaaDoor
open Go.ChangeShapes Go.WideShapes Go.ChangeAt Go.RowKit Go.Joins
set_option linter.unusedVariables false
set_option linter.unusedSimpArgs false

/-- The flows of the first k that are used. -/
def flowsTo (l : List Sl) (k : Nat) : List (Int × Int) := ((l.take k).filter (fun s => s.u)).map (fun s => (s.a, s.p))
theorem flowsTo_len (l : List Sl) (k : Nat) : (flowsTo l k).length = countTo l k := by unfold flowsTo countTo; rw [List.length_map]
theorem flowsTo_free {l : List Sl} {k : Nat} (h : k < l.length) (hu : (l.getD k sl0).u = false) : flowsTo l (k + 1) = flowsTo l k := by
 unfold flowsTo
 rw [takeL_succ layS l k h, List.filter_append, show List.filter (fun s : Sl => s.u) [l.getD k layS.d] = [] from List.filter_cons_of_neg (by rw [show l.getD k layS.d = l.getD k sl0 from rfl, hu]; decide), List.append_nil]
theorem flowsTo_used {l : List Sl} {k : Nat} (h : k < l.length) (hu : (l.getD k sl0).u = true) : flowsTo l (k + 1) = flowsTo l k ++ [((l.getD k sl0).a, (l.getD k sl0).p)] := by
 unfold flowsTo
 rw [takeL_succ layS l k h, List.filter_append, show List.filter (fun s : Sl => s.u) [l.getD k layS.d] = [l.getD k sl0] from List.filter_cons_of_pos hu, List.map_append]; rfl

set_option maxHeartbeats 4000000 in
theorem flows_any (b off c : Nat) (l : List Sl) (w : World) (hbl : b < w.heap.size) (hc : ∀ i, i < l.length → ∀ j, j < layS.k → w.cell? ⟨b, off + i * layS.k + j, none⟩ = (layS.cs (l.getD i layS.d))[j]?) (hl : l.length ≤ 1048576) :
  Calls Tryd.prog 32 #[tab (.slice (some ⟨b, off, none⟩) l.length c)] w fun e w' => ∃ v, e = .returned v ∧ ownL layF 48 w' w.heap.size v (flowsTo l l.length) ∧ Below w.heap.size w w' := by
 have HC := hide hc
 clear hc
 obtain ⟨W0, hW0⟩ : ∃ W, (w.alloc (.cells #[.slice (some ⟨b, off, none⟩) l.length c] 61)) = W := ⟨_, rfl⟩
 have hb_W0 : Below w.heap.size w W0 := by rw [← hW0]; exact ((Below.refl _ _).alloc (Nat.le_refl _) _)
 have HB := hide hb_W0
 clear hb_W0
 have zct : w.heap.size < W0.heap.size := by rw [← hW0]; simp
 have ct0 : W0.cell? ⟨w.heap.size, 0, none⟩ = some (.slice (some ⟨b, off, none⟩) l.length c) := by rw [← hW0]; simp [go_sem]
 have HZ := hide HB.out.size
 go_enter Tryd.func32, Tryd.ntmps32
 go_wp2
 go_loopw [3, 9] (fun ov iv wr => ∃ k : Nat, k ≤ l.length ∧ iv = .int .i64 k ∧ Hid (ownL layF 48 wr W0.heap.size ov (flowsTo l k)) ∧ Hid (Below W0.heap.size W0 wr))
  (fun _ iv _ => l.length - (intOf iv).toNat)
 case atStart => exact ⟨0, Nat.zero_le _, rfl, World.ownsRow_nil _ _ _ _, Below.refl _ _⟩
 case round =>
  obtain ⟨k, hk, rfl, HO, HBr⟩ := hrel
  by_cases hlt : k < l.length
  ·have HB2 := hide (HB.out.trans (HBr.out.mono HB.out.size))
   have hcx := RdL.slot (C := w.heap.size) HC.out k hlt
   obtain ⟨s, hxy⟩ : ∃ s, l.getD k sl0 = s := ⟨_, rfl⟩
   rw [hxy] at hcx
   have e0 := (HB2.out.cell (p := ⟨b, off + k * 5, none⟩) hbl).trans hcx.1
   have e1 := (HB2.out.cell (p := ⟨b, off + k * 5 + 1, none⟩) hbl).trans hcx.2.1
   have e2 := (HB2.out.cell (p := ⟨b, off + k * 5 + 2, none⟩) hbl).trans hcx.2.2.1
   have e3 := (HB2.out.cell (p := ⟨b, off + k * 5 + 3, none⟩) hbl).trans hcx.2.2.2.1
   have e4 := (HB2.out.cell (p := ⟨b, off + k * 5 + 4, none⟩) hbl).trans hcx.2.2.2.2
   have hk' : (k : Int) < (l.length : Int) := by omega
   have HX := hide hxy
   have hcl := countTo_le l k
   rw [← flowsTo_len] at hcl
   obtain ⟨su, sa, sp, sv, st⟩ := s
   simp only at e0 e1 e2 e3 e4
   clear hcx hxy
   have HBa := hide (HBr.out.alloc HBr.out.size (.cells #[.bool su, .int .i64 sa, .int .i64 sp, .int .i64 sv, .int .i64 st] 89))
   have HOa := hide (World.ownsRow.alloc HO.out (.cells #[.bool su, .int .i64 sa, .int .i64 sp, .int .i64 sv, .int .i64 st] 89))
   cases su with
   | false =>
    have HN := hide (flowsTo_free hlt (by rw [HX.out]))
    go_wp2
    go_roundw
    case rel => exact ⟨k + 1, hlt, by go_num, (by unfold Hid; rw [HN.out]; exact HOa.out), HBa⟩
    case measure => simp [intOf]; omega
   | true =>
    have HN := hide (flowsTo_used hlt (by rw [HX.out]))
    rw [HX.out] at HN
    obtain ⟨W1, hW1⟩ : ∃ W, wr.alloc (.cells #[.bool true, .int .i64 sa, .int .i64 sp, .int .i64 sv, .int .i64 st] 89) = W := ⟨_, rfl⟩
    rw [hW1] at HBa HOa
    have g0 : W1.cell? ⟨wr.heap.size, 0, none⟩ = some (.bool true) := by rw [← hW1]; simp [go_sem]
    have g1 : W1.cell? ⟨wr.heap.size, 1, none⟩ = some (.int .i64 sa) := by rw [← hW1]; simp [go_sem]
    have g2 : W1.cell? ⟨wr.heap.size, 2, none⟩ = some (.int .i64 sp) := by rw [← hW1]; simp [go_sem]
    have F := hide (World.ownsRow.alloc HOa.out (.cells #[.int .i64 sa, .int .i64 sp] 48))
    clear HO HBr
    go_wp2_with (at_builtin; refine wpList_append_lay appF rfl _ _ rfl W0.heap.size _ (flowsTo l k) rfl F.out (some ⟨W1.heap.size, 0, none⟩) 1 _ [(sa, sp)] 1 rfl rfl (fun h => by cases h) (rd_flow1 W1 sa sp) ?e2 ?e3 ?_)
    case e2 => omega
    case e3 => exact Nat.le_trans HBa.out.size (by simp)
    intro v2 w2 hv2 hg2 _
    have HR := hide (show ownL layF 48 w2 W0.heap.size v2 (flowsTo l (k + 1)) ∧ Below W0.heap.size W0 w2 from ⟨by rw [HN.out]; exact hv2, (HBa.out.alloc HBa.out.size _).grown hg2 (Nat.le_trans HBa.out.size (by simp)) (fun q h => (F.out.lt q h).1)⟩)
    clear hv2 hg2 F
    go_wp2
    go_roundw
    case rel => exact ⟨k + 1, hlt, by go_num, HR.out.1, HR.out.2⟩
    case measure => simp [intOf]; omega
  ·have e : k = l.length := by omega
   subst e
   go_wp2
   go_ret
   exact ⟨_, rfl, own_mono HO.out HZ.out, HB.out.trans (HBr.out.mono HB.out.size)⟩

end Go.Proofs.YtljogkoaaidlcaaDoor

