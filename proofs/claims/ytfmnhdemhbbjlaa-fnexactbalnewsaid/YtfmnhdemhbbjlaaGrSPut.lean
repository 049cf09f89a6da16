/- Several texts in one: STabI2, FlowL, STabI3, SSoon, SSoon2, SPlain, SGet, Cut5, SPut. -/
import Derived.Test.YtfmnhdemhbbjlaaGrSTabS3
import Derived.Deep.RegionWith
import Derived.Test.YtfmnhdemhbbjlaaGrLCmd
import Derived.Test.YtfmnhdemhbbjlaaGrFr
import Derived.Test.YtfmnhdemhbbjlaaGrInts
/- The program's tableFor, Home. -/
namespace Go.Proofs.Ytfmnhdemhbbjlaa
open Go.ChangeShapes Go.WideShapes Go.ChangeAt Go.RowKit Go.Joins
set_option linter.unusedVariables false
set_option linter.unusedSimpArgs false

end Go.Proofs.Ytfmnhdemhbbjlaa

/- Rows of flows, in the words of Lists: how they lie, and 'append' onto them. -/
namespace Go.Proofs.Ytfmnhdemhbbjlaa
open Go.ChangeShapes Go.WideShapes Go.ChangeAt Go.RowKit Go.Joins
set_option linter.unusedVariables false
set_option linter.unusedSimpArgs false

def layF : Lay (Int × Int) := ⟨2, fun a => [.int .i64 a.1, .int .i64 a.2], (0, 0), fun _ => rfl⟩
theorem infoFlow : (Try.prog.info? 51).map (fun i => (i.zero, i.size, i.bytes)) = some (some (.agg #[.int .i64 0, .int .i64 0]), 2, 16) := by kernel_rfl
theorem rd_flow1 (w : World) (x y : Int) : RdL layF (w.alloc (.cells #[.int .i64 x, .int .i64 y] 51)).heap.size (w.alloc (.cells #[.int .i64 x, .int .i64 y] 51)) (some ⟨w.heap.size, 0, none⟩) [(x, y)] := by
  refine .inr ⟨w.heap.size, 0, rfl, by simp, fun i hi j hj => ?_⟩
  have hi0 : i = 0 := by simpa using hi
  have hj0 : j < 2 := hj
  subst hi0
  match j, hj0 with
  | 0, _ => simp [layF]
  | 1, _ => simp [layF]

end Go.Proofs.Ytfmnhdemhbbjlaa

/- The program's flows, CountOf. -/
namespace Go.Proofs.Ytfmnhdemhbbjlaa
open Go.ChangeShapes Go.WideShapes Go.ChangeAt Go.RowKit Go.Joins
set_option linter.unusedVariables false
set_option linter.unusedSimpArgs false

/-- The flows of the first k that are used. -/
def flowsTo (l : List Sl) (k : Nat) : List (Int × Int) := ((l.take k).filter (fun s => s.u)).map (fun s => (s.a, s.p))
theorem flowsTo_len (l : List Sl) (k : Nat) : (flowsTo l k).length = countTo l k := by unfold flowsTo countTo; rw [List.length_map]
theorem flowsTo_free {l : List Sl} {k : Nat} (h : k < l.length) (hu : (l.getD k sl0).u = false) : flowsTo l (k + 1) = flowsTo l k := by
  unfold flowsTo
  rw [takeL_succ layS l k h, List.filter_append, show List.filter (fun s : Sl => s.u) [l.getD k layS.d] = [] from List.filter_cons_of_neg (by rw [show l.getD k layS.d = l.getD k sl0 from rfl, hu]; decide), List.append_nil]
theorem flowsTo_used {l : List Sl} {k : Nat} (h : k < l.length) (hu : (l.getD k sl0).u = true) : flowsTo l (k + 1) = flowsTo l k ++ [((l.getD k sl0).a, (l.getD k sl0).p)] := by
  unfold flowsTo
  rw [takeL_succ layS l k h, List.filter_append, show List.filter (fun s : Sl => s.u) [l.getD k layS.d] = [l.getD k sl0] from List.filter_cons_of_pos hu, List.map_append]; rfl

end Go.Proofs.Ytfmnhdemhbbjlaa

/- Soonest, on both sides. -/
namespace Go.Proofs.Ytfmnhdemhbbjlaa
open Go.ChangeShapes Go.WideShapes Go.ChangeAt Go.RowKit Go.Joins
set_option linter.unusedVariables false
set_option linter.unusedSimpArgs false

/-- The first one with the least Until among the first k that are used; nothing where none is. -/
def soonStep (q s : Sl) : Sl := if s.u = true ∧ (q.u = false ∨ s.t < q.t) then s else q
def soonTo (l : List Sl) (k : Nat) : Sl := (l.take k).foldl soonStep sl0
theorem soonTo_succ {l : List Sl} {k : Nat} (h : k < l.length) : soonTo l (k + 1) = soonStep (soonTo l k) (l.getD k sl0) := by
  unfold soonTo
  rw [takeL_succ layS l k h, List.foldl_append]; rfl
theorem soonStep_free {q s : Sl} (h : s.u = false) : soonStep q s = q := by unfold soonStep; rw [if_neg (by rw [h]; simp)]
theorem soonStep_first {q s : Sl} (h : s.u = true) (hq : q.u = false) : soonStep q s = s := by unfold soonStep; rw [if_pos ⟨h, .inl hq⟩]
theorem soonStep_less {q s : Sl} (h : s.u = true) (hq : s.t < q.t) : soonStep q s = s := by unfold soonStep; rw [if_pos ⟨h, .inr hq⟩]
theorem soonStep_more {q s : Sl} (hq : q.u = true) (h : ¬ s.t < q.t) : soonStep q s = q := by
  unfold soonStep
  rw [if_neg]
  rintro ⟨_, h1 | h1⟩
  · rw [hq] at h1; cases h1
  · exact h h1
def soonL (l : List Sl) : Sl := soonTo l l.length
theorem box_set1 (w : World) (k j : Nat) (cs : Array Value) (t : TypeId) (v : Value) (h : w.heap[k]? = some (.cells cs t (0, 0))) : (w.setCell ⟨k, j, none⟩ v).heap[k]? = some (.cells (cs.setIfInBounds j v) t (0, 0)) := by
  simp [World.setCell, Array.getElem?_modify, h]
theorem frozen_of {W : World} {B : Nat} {c : Array Value} {t : TypeId} (h : W.heap[B]? = some (.cells c t (0, 0))) (j : Nat) : W.frozen? ⟨B, j, none⟩ = false := by simp [World.frozen?, h]
abbrev slotCells (s : Sl) : Array Value := #[.bool s.u, .int .i64 s.a, .int .i64 s.p, .int .i64 s.v, .int .i64 s.t]
def set5 (w : World) (B : Nat) (s : Sl) : World := ((((w.setCell ⟨B, 0, none⟩ (.bool s.u)).setCell ⟨B, 1, none⟩ (.int .i64 s.a)).setCell ⟨B, 2, none⟩ (.int .i64 s.p)).setCell ⟨B, 3, none⟩ (.int .i64 s.v)).setCell ⟨B, 4, none⟩ (.int .i64 s.t)
theorem box_set5 {w : World} {B : Nat} {s q : Sl} {T : TypeId} (h : w.heap[B]? = some (.cells (slotCells q) T (0, 0))) : (set5 w B s).heap[B]? = some (.cells (slotCells s) T (0, 0)) := by
  have h0 := box_set1 w B 0 _ _ (.bool s.u) h
  have h1 := box_set1 _ B 1 _ _ (.int .i64 s.a) h0
  have h2 := box_set1 _ B 2 _ _ (.int .i64 s.p) h1
  have h3 := box_set1 _ B 3 _ _ (.int .i64 s.v) h2
  have h4 := box_set1 _ B 4 _ _ (.int .i64 s.t) h3
  exact h4
theorem below_set5 {w W : World} {n B : Nat} (h : Below n w W) (hB : n ≤ B) (s : Sl) : Below n w (set5 W B s) :=
  ((((h.setCell (p := ⟨B, 0, none⟩) hB _).setCell (p := ⟨B, 1, none⟩) hB _).setCell (p := ⟨B, 2, none⟩) hB _).setCell (p := ⟨B, 3, none⟩) hB _).setCell (p := ⟨B, 4, none⟩) hB _

end Go.Proofs.Ytfmnhdemhbbjlaa

/- Soonest, the model's and the program's. -/
namespace Go.Proofs.Ytfmnhdemhbbjlaa
open Go.ChangeShapes Go.WideShapes Go.ChangeAt Go.RowKit Go.Joins
set_option linter.unusedVariables false
set_option linter.unusedSimpArgs false

def soonM (l : List Sl) : Sl := if tableOkB l = true then soonL l else sl0
end Go.Proofs.Ytfmnhdemhbbjlaa

/- The program's plainTable; TableNew, on both sides. -/
namespace Go.Proofs.Ytfmnhdemhbbjlaa
open Go.ChangeShapes Go.WideShapes Go.ChangeAt Go.RowKit Go.Joins
set_option linter.unusedVariables false
set_option linter.unusedSimpArgs false

set_option maxHeartbeats 8000000 in
theorem plainTable_any (b off c : Nat) (l : List Sl) (w : World) (hbl : b < w.heap.size) (hc : ∀ i, i < l.length → ∀ j, j < layS.k → w.cell? ⟨b, off + i * layS.k + j, none⟩ = (layS.cs (l.getD i layS.d))[j]?) (hl : l.length ≤ 1048576) :
    Calls Try.prog 47 #[tab (.slice (some ⟨b, off, none⟩) l.length c)] w fun e w' => ∃ g, e = .returned (tab (.slice (some ⟨g, 0, none⟩) l.length l.length)) ∧ ownS w' w.heap.size (.slice (some ⟨g, 0, none⟩) l.length l.length) l ∧ Below w.heap.size w w' := by
  obtain ⟨i0, hi, hz0, hz1, hz2⟩ := info_parts infoSlot
  have HC := hide hc
  clear hc
  obtain ⟨W0, hW0⟩ : ∃ W, ((w.alloc (.cells #[.slice (some ⟨b, off, none⟩) l.length c] 94)).alloc (.cells #[.slice none 0 0] 31)) = W := ⟨_, rfl⟩
  have hb_W0 : Below w.heap.size w W0 := by rw [← hW0]; exact (((Below.refl _ _).alloc (Nat.le_refl _) _).alloc (by simp <;> omega) _)
  have HB := hide hb_W0
  clear hb_W0
  have zct : w.heap.size < W0.heap.size := by rw [← hW0]; simp <;> omega
  have ct0 : W0.cell? ⟨w.heap.size, 0, none⟩ = some (.slice (some ⟨b, off, none⟩) l.length c) := by rw [← hW0]; simp [go_sem]
  have zcr : w.heap.size + 1 < W0.heap.size := by rw [← hW0]; simp
  have cr0 : W0.cell? ⟨w.heap.size + 1, 0, none⟩ = some (.slice none 0 0) := by rw [← hW0]; simp [go_sem]
  have fcr0 : W0.frozen? ⟨w.heap.size + 1, 0, none⟩ = false := by rw [← hW0]; simp [go_sem]
  have zcr0 := zcr
  have hw00 : w.heap.size ≤ W0.heap.size := HB.out.size
  go_enter Try.func47, Try.ntmps47
  go_wp2_with (at_make; refine wpList_make_full _ rfl _ _ 29 rfl W0.heap.size 130 i0 (slot sl0) 5 Try.underlying29 hi hz0 hz1 _ _ _ _ l.length rfl rfl rfl rfl ?b2 ?b3 ?b4 ?_)
  case b2 => rw [hz2]; omega
  case b3 => unfold maxLen; omega
  case b4 => simp
  intro w1 hown hgrow
  have hb : Below W0.heap.size W0 w1 := (Below.refl _ _).grown hgrow (Nat.le_refl _) (fun k h => by cases h)
  have HBg := hide hb
  have HO : Hid (w1.ownsRow W0.heap.size 130 5 (.slice (some ⟨W0.heap.size, 0, none⟩) l.length l.length) l.length ((fillL layS l 0).flatMap layS.cs)) := by unfold Hid; rw [fillL_zero, ← made_flat layS (slot sl0) rfl]; exact hown
  have zg : W0.heap.size < w1.heap.size := (hown.lt _ rfl).2
  clear hown hgrow
  replace ct0 : w1.cell? ⟨w.heap.size, 0, none⟩ = some (.slice (some ⟨b, off, none⟩) l.length c) := (hb.cell (p := ⟨w.heap.size, 0, none⟩) zct).trans ct0
  replace zct : w.heap.size < w1.heap.size := Nat.lt_of_lt_of_le zct hb.size
  replace cr0 : w1.cell? ⟨w.heap.size + 1, 0, none⟩ = some (.slice none 0 0) := (hb.cell (p := ⟨w.heap.size + 1, 0, none⟩) zcr).trans cr0
  replace fcr0 : w1.frozen? ⟨w.heap.size + 1, 0, none⟩ = false := (hb.frozen (p := ⟨w.heap.size + 1, 0, none⟩) zcr).trans fcr0
  replace zcr : w.heap.size + 1 < w1.heap.size := Nat.lt_of_lt_of_le zcr hb.size
  replace HB := hide (HB.out.trans (hb.mono HB.out.size))
  clear hb
  obtain ⟨W2, hW2⟩ : ∃ W, (w1.alloc (.cells #[.slice (some ⟨W0.heap.size, 0, none⟩) l.length l.length] 31)) = W := ⟨_, rfl⟩
  have hb_W2 : Below w1.heap.size w1 W2 := by rw [← hW2]; exact ((Below.refl _ _).alloc (Nat.le_refl _) _)
  replace ct0 : W2.cell? ⟨w.heap.size, 0, none⟩ = some (.slice (some ⟨b, off, none⟩) l.length c) := (hb_W2.cell (p := ⟨w.heap.size, 0, none⟩) zct).trans ct0
  replace zct : w.heap.size < W2.heap.size := Nat.lt_of_lt_of_le zct hb_W2.size
  replace cr0 : W2.cell? ⟨w.heap.size + 1, 0, none⟩ = some (.slice none 0 0) := (hb_W2.cell (p := ⟨w.heap.size + 1, 0, none⟩) zcr).trans cr0
  replace fcr0 : W2.frozen? ⟨w.heap.size + 1, 0, none⟩ = false := (hb_W2.frozen (p := ⟨w.heap.size + 1, 0, none⟩) zcr).trans fcr0
  replace zcr : w.heap.size + 1 < W2.heap.size := Nat.lt_of_lt_of_le zcr hb_W2.size
  replace HO := hide (own_kept HO.out hb_W2)
  replace HB := hide (HB.out.trans (hb_W2.mono HB.out.size))
  clear hb_W2
  have zcs : w1.heap.size < W2.heap.size := by rw [← hW2]; simp
  have cs0 : W2.cell? ⟨w1.heap.size, 0, none⟩ = some (.slice (some ⟨W0.heap.size, 0, none⟩) l.length l.length) := by rw [← hW2]; simp [go_sem]
  have b3 : Hid (W2.heap[w1.heap.size]? = some (.cells #[.slice (some ⟨W0.heap.size, 0, none⟩) l.length l.length] 31 (0, 0))) := by rw [← hW2]; exact World.alloc_heap_new w1 _
  have bR : Hid (W2.heap[w.heap.size + 1]? = some (.cells #[.slice none 0 0] 31 (0, 0))) := by
    have h := World.alloc_heap_new (w.alloc (.cells #[.slice (some ⟨b, off, none⟩) l.length c] 94)) (.cells #[.slice none 0 0] 31)
    rw [hW0, World.size_alloc] at h
    exact ((by rw [← hW2]; exact (Below.heap_alloc _ _ _ (by omega)) : W2.heap[w.heap.size + 1]? = w1.heap[w.heap.size + 1]?)).trans ((HBg.out.block _ zcr0).trans h)
  have zs0 := zcs
  go_wp2
  go_loopw [14] (fun i wr => ∃ k : Nat, k ≤ l.length ∧ i = .int .i64 k ∧ Hid (wr.ownsRow W0.heap.size 130 5 (.slice (some ⟨W0.heap.size, 0, none⟩) l.length l.length) l.length ((fillL layS l k).flatMap layS.cs)) ∧ Hid (wr.heap[w.heap.size + 1]? = some (.cells #[.slice none 0 0] 31 (0, 0))) ∧ Hid (wr.heap[w1.heap.size]? = some (.cells #[.slice (some ⟨W0.heap.size, 0, none⟩) l.length l.length] 31 (0, 0))) ∧ Hid (Below w.heap.size w wr) ∧ w1.heap.size < wr.heap.size)
    (fun i _ => l.length - (intOf i).toNat)
  case atStart => exact ⟨0, Nat.zero_le _, rfl, HO, bR, b3, HB, zcs⟩
  case round =>
    clear HO bR b3 HB HBg ct0 cr0 fcr0 cs0 hW2 hW0 zct zcr zcs
    obtain ⟨k, hk, rfl, HO, HR, HT, HBr, hsz⟩ := hrel
    by_cases hlt : k < l.length
    · obtain ⟨s, hxy⟩ : ∃ s, l.getD k sl0 = s := ⟨_, rfl⟩
      have hcx := RdL.slot (C := w.heap.size) HC.out k hlt
      rw [hxy] at hcx
      have e0 := (HBr.out.cell (p := ⟨b, off + k * 5, none⟩) hbl).trans hcx.1
      have e1 := (HBr.out.cell (p := ⟨b, off + k * 5 + 1, none⟩) hbl).trans hcx.2.1
      have e2 := (HBr.out.cell (p := ⟨b, off + k * 5 + 2, none⟩) hbl).trans hcx.2.2.1
      have e3 := (HBr.out.cell (p := ⟨b, off + k * 5 + 3, none⟩) hbl).trans hcx.2.2.2.1
      have e4 := (HBr.out.cell (p := ⟨b, off + k * 5 + 4, none⟩) hbl).trans hcx.2.2.2.2
      have hk' : (k : Int) < (l.length : Int) := by omega
      have HX := hide hxy
      clear hcx hxy
      obtain ⟨W5, hW5⟩ : ∃ W, wr.alloc (.cells (slotCells s) 128) = W := ⟨_, rfl⟩
      have hb5 : Below wr.heap.size wr W5 := by rw [← hW5]; exact (Below.refl _ _).alloc (Nat.le_refl _) _
      have hz5 : wr.heap.size < W5.heap.size := by rw [← hW5]; simp
      have s0 : W5.cell? ⟨wr.heap.size, 0, none⟩ = some (.bool s.u) := by rw [← hW5]; simp [go_sem]
      have s1 : W5.cell? ⟨wr.heap.size, 1, none⟩ = some (.int .i64 s.a) := by rw [← hW5]; simp [go_sem]
      have s2 : W5.cell? ⟨wr.heap.size, 2, none⟩ = some (.int .i64 s.p) := by rw [← hW5]; simp [go_sem]
      have s3 : W5.cell? ⟨wr.heap.size, 3, none⟩ = some (.int .i64 s.v) := by rw [← hW5]; simp [go_sem]
      have s4 : W5.cell? ⟨wr.heap.size, 4, none⟩ = some (.int .i64 s.t) := by rw [← hW5]; simp [go_sem]
      have t3 : W5.cell? ⟨w1.heap.size, 0, none⟩ = some (.slice (some ⟨W0.heap.size, 0, none⟩) l.length l.length) := (hb5.cell (p := ⟨w1.heap.size, 0, none⟩) hsz).trans (block_cell1 HT.out 0 _ rfl)
      have zt3 : w1.heap.size < W5.heap.size := Nat.lt_of_lt_of_le hsz hb5.size
      have Hb5 := hide hb5
      have hown5 := own_kept HO.out hb5
      have hso := slotOf_any s W5.drew
      have hln : ((fillL layS l k).flatMap layS.cs).length = l.length * 5 := by rw [flat_length, fillL_length layS l k hk]; rfl
      have Hown5 : Hid (W5.ownsRow W0.heap.size 130 5 (.slice (some ⟨W0.heap.size, 0, none⟩) l.length l.length) l.length ((fillL layS l k).flatMap layS.cs)) := hown5
      clear hown5 hb5
      go_wp2
      first | (go_region_with (first | (go_at_call 78; refine hso.mono ?_; rintro e w6 ⟨rfl, hb⟩; replace hb : Below W5.heap.size W5 w6 := (Below.drew (Below.refl _ _)).trans hb; have t36 := (hb.cell (p := ⟨w1.heap.size, 0, none⟩) zt3).trans t3; have s60 := (hb.cell (p := ⟨wr.heap.size, 0, none⟩) hz5).trans s0; have s61 := (hb.cell (p := ⟨wr.heap.size, 1, none⟩) hz5).trans s1; have s62 := (hb.cell (p := ⟨wr.heap.size, 2, none⟩) hz5).trans s2; have s63 := (hb.cell (p := ⟨wr.heap.size, 3, none⟩) hz5).trans s3; have s64 := (hb.cell (p := ⟨wr.heap.size, 4, none⟩) hz5).trans s4; have ho6 := own_kept Hown5.out hb; obtain ⟨u0, hu0⟩ : ∃ u, w6.cell? ⟨W0.heap.size, k * 5, none⟩ = some u := ⟨_, (ho6.cellAt (k * 5) (by omega)).trans (List.getElem?_eq_getElem (by omega))⟩; have hf0 := ho6.frozenAt (k * 5); obtain ⟨u1, hu1⟩ : ∃ u, w6.cell? ⟨W0.heap.size, k * 5 + 1, none⟩ = some u := ⟨_, (ho6.cellAt (k * 5 + 1) (by omega)).trans (List.getElem?_eq_getElem (by omega))⟩; have hf1 := ho6.frozenAt (k * 5 + 1); obtain ⟨u2, hu2⟩ : ∃ u, w6.cell? ⟨W0.heap.size, k * 5 + 2, none⟩ = some u := ⟨_, (ho6.cellAt (k * 5 + 2) (by omega)).trans (List.getElem?_eq_getElem (by omega))⟩; have hf2 := ho6.frozenAt (k * 5 + 2); obtain ⟨u3, hu3⟩ : ∃ u, w6.cell? ⟨W0.heap.size, k * 5 + 3, none⟩ = some u := ⟨_, (ho6.cellAt (k * 5 + 3) (by omega)).trans (List.getElem?_eq_getElem (by omega))⟩; have hf3 := ho6.frozenAt (k * 5 + 3); obtain ⟨u4, hu4⟩ : ∃ u, w6.cell? ⟨W0.heap.size, k * 5 + 4, none⟩ = some u := ⟨_, (ho6.cellAt (k * 5 + 4) (by omega)).trans (List.getElem?_eq_getElem (by omega))⟩; have hf4 := ho6.frozenAt (k * 5 + 4); have Hb6 := hide hb; have HO6 := hide ho6; clear hb ho6))) | fail
      all_goals have HR6 := hide (stored5 (k := k) s (Nat.le_refl _) HO6.out (Below.refl W0.heap.size w6))
      all_goals have HX2 := hide (show (fillL layS l k).set k s = fillL layS l (k + 1) by rw [← HX.out]; exact fillL_set layS l k hlt)
      all_goals have Hb7 := hide (Hb5.out.trans (Hb6.out.mono Hb5.out.size))
      all_goals go_wp2
      all_goals go_roundw
      all_goals first | (simp [intOf]; omega; done) | exact ⟨k + 1, hlt, by go_num, (by have h := HR6.out.1; rw [HX2.out] at h; exact h), (HR6.out.2.block _ zcr0).trans ((Hb7.out.block _ (by omega)).trans HR.out), ((((((Below.heap_setCell _ _ _ _ (by simp; omega)).trans (Below.heap_setCell _ _ _ _ (by simp; omega))).trans (Below.heap_setCell _ _ _ _ (by simp; omega))).trans (Below.heap_setCell _ _ _ _ (by simp; omega))).trans (Below.heap_setCell _ _ _ _ (by simp; omega))).trans ((Hb7.out.block _ hsz).trans HT.out)), HBr.out.trans ((Hb7.out.mono HBr.out.size).trans (HR6.out.2.mono hw00)), Nat.lt_of_lt_of_le hsz (Nat.le_trans Hb7.out.size HR6.out.2.size)⟩
    · have e : k = l.length := by omega
      subst e
      have hrow := HO.out
      rw [fillL_all] at hrow
      have HRow := hide hrow
      clear hrow HO
      have r1 := block_cell1 HR.out 0 _ rfl
      have f1 := frozen_of HR.out 0
      have t3 := block_cell1 HT.out 0 _ rfl
      go_wp2
      refine bodyPost_ret (v := tab (.slice (some ⟨W0.heap.size, 0, none⟩) l.length l.length)) (by simp [results, Try.results47, go_sem, r1]) rfl ⟨_, rfl, ?_, ?_⟩
      · exact own_mono (ownsRow_setCell_below HRow.out (show w.heap.size + 1 < W0.heap.size from zcr0) _) hw00
      · exact HBr.out.setCell (p := ⟨w.heap.size + 1, 0, none⟩) (by simp) _

/-- A table of so many slots, all free. -/
def newM (n : Int) : List Sl := if 1 ≤ n ∧ n ≤ 16 then List.replicate n.toNat sl0 else []
def newB (n : Int) : Bool := decide (1 ≤ n) && decide (n ≤ 16)
theorem newM_len (n : Int) : (newM n).length ≤ 16 := by
  unfold newM
  split
  · rw [List.length_replicate]; omega
  · exact Nat.zero_le _
set_option maxHeartbeats 2000000 in
theorem implTableNew_any (n : Int) (w : World) :
    Calls Try.prog 19 #[.int .i64 n] w fun e w' => ∃ v, e = .returned (.tuple #[v, .bool (newB n)]) ∧ InTb w.heap.size w'.heap.size w' v (newM n) ∧ Below w.heap.size w w' := by
  obtain ⟨W0, hW0⟩ : ∃ W, (w.alloc (.cells #[.slice none 0 0] 31)) = W := ⟨_, rfl⟩
  have hb_W0 : Below w.heap.size w W0 := by rw [← hW0]; exact ((Below.refl _ _).alloc (Nat.le_refl _) _)
  have HB := hide hb_W0
  clear hb_W0
  have zcr : w.heap.size < W0.heap.size := by rw [← hW0]; simp
  have cr0 : W0.cell? ⟨w.heap.size, 0, none⟩ = some (.slice none 0 0) := by rw [← hW0]; simp [go_sem]
  have fcr0 : W0.frozen? ⟨w.heap.size, 0, none⟩ = false := by rw [← hW0]; simp [go_sem]
  by_cases hn : 1 ≤ n ∧ n ≤ 16
  · obtain ⟨m, rfl⟩ : ∃ m : Nat, n = m := ⟨n.toNat, by omega⟩
    have HM := hide (show newM (m : Int) = List.replicate m sl0 by unfold newM; rw [if_pos hn]; simp)
    have HN := hide (show newB (m : Int) = true by simp [newB]; omega)
    have i1 : ¬ ((m : Int) < 1) := by omega
    have i2 : ¬ (16 < (m : Int)) := by omega
    have zcr0 := zcr
    have hw00 := HB.out.size
    have hm : m ≤ 1048576 := by omega
    go_enter Try.func19, Try.ntmps19
    go_wp2_with fail
    refine (newFlowTable_any m W0 hm).mono ?_
    rintro e v1 ⟨g, rfl, hown, hb⟩
    have HO := hide hown
    clear hown
    replace cr0 : v1.cell? ⟨w.heap.size, 0, none⟩ = some (.slice none 0 0) := (hb.cell (p := ⟨w.heap.size, 0, none⟩) zcr).trans cr0
    replace fcr0 : v1.frozen? ⟨w.heap.size, 0, none⟩ = false := (hb.frozen (p := ⟨w.heap.size, 0, none⟩) zcr).trans fcr0
    replace zcr : w.heap.size < v1.heap.size := Nat.lt_of_lt_of_le zcr hb.size
    replace HB := hide (HB.out.trans (hb.mono HB.out.size))
    clear hb
    have hpt := plainTable_any g 0 m (List.replicate m sl0) v1 (HO.out.lt g rfl).2 (rd_of_own (by have h := HO.out; unfold ownL at h; rw [List.length_replicate] at h; exact h) (by simp)) (by simp; omega)
    rw [List.length_replicate] at hpt
    have hsv : W0.heap.size ≤ v1.heap.size := by have := HO.out.lt g rfl; omega
    go_wp2_with fail
    refine (hpt).mono ?_
    rintro e v2 ⟨g2, rfl, hown2, hb⟩
    have HO2 := hide hown2
    clear hown2
    replace cr0 : v2.cell? ⟨w.heap.size, 0, none⟩ = some (.slice none 0 0) := (hb.cell (p := ⟨w.heap.size, 0, none⟩) zcr).trans cr0
    replace fcr0 : v2.frozen? ⟨w.heap.size, 0, none⟩ = false := (hb.frozen (p := ⟨w.heap.size, 0, none⟩) zcr).trans fcr0
    replace zcr : w.heap.size < v2.heap.size := Nat.lt_of_lt_of_le zcr hb.size
    replace HO := hide (own_kept HO.out hb)
    replace HB := hide (HB.out.trans (hb.mono HB.out.size))
    clear hb
    clear hpt
    go_wp2
    refine bodyPost_ret (v := .tuple #[tab (.slice (some ⟨g2, 0, none⟩) m m), .bool true]) (by simp [results, Try.results19, go_sem, cr0]) rfl ⟨_, by rw [HN.out], ⟨_, rfl, ?_⟩, ?_⟩
    · rw [HM.out]; exact InRow.of (own_mono (ownsRow_setCell_below HO2.out (show w.heap.size < v1.heap.size by omega) _) (by omega))
    · exact HB.out.setCell (p := ⟨w.heap.size, 0, none⟩) (Nat.le_refl _) _
  · skip
    have HM := hide (show newM n = [] by unfold newM; rw [if_neg hn])
    have HN := hide (show newB n = false by simp [newB]; omega)
    by_cases h1 : n < 1
    · skip
      clear hn
      go_enter Try.func19, Try.ntmps19
      go_wp2
      refine bodyPost_ret (v := .tuple #[tab (.slice none 0 0), .bool false]) (by simp [results, Try.results19, go_sem, cr0]) rfl ⟨_, by rw [HN.out], ⟨_, rfl, ?_⟩, ?_⟩
      · rw [HM.out]; exact InRow.of (World.ownsRow_nil _ _ _ _)
      · exact HB.out.setCell (p := ⟨w.heap.size, 0, none⟩) (Nat.le_refl _) _
    · have h2 : 16 < n := by omega
      clear hn
      go_enter Try.func19, Try.ntmps19
      go_wp2
      refine bodyPost_ret (v := .tuple #[tab (.slice none 0 0), .bool false]) (by simp [results, Try.results19, go_sem, cr0]) rfl ⟨_, by rw [HN.out], ⟨_, rfl, ?_⟩, ?_⟩
      · rw [HM.out]; exact InRow.of (World.ownsRow_nil _ _ _ _)
      · exact HB.out.setCell (p := ⟨w.heap.size, 0, none⟩) (Nat.le_refl _) _

end Go.Proofs.Ytfmnhdemhbbjlaa

/- Get, on both sides. -/
namespace Go.Proofs.Ytfmnhdemhbbjlaa
open Go.ChangeShapes Go.WideShapes Go.ChangeAt Go.RowKit Go.Joins
set_option linter.unusedVariables false
set_option linter.unusedSimpArgs false

theorem getL_no {l : List Sl} {a p : Int} (h : (endL l a p).2 = false) : getL l a p = sl0 := by unfold getL; rw [h]; rfl
theorem getL_yes {l : List Sl} {a p : Int} {k : Nat} (h : endL l a p = ((k : Int), true)) : getL l a p = l.getD k sl0 := by unfold getL; rw [h]; simp

def getM (l : List Sl) (a p : Int) : Sl := if (tableOkB l && flowOkB a p) = true then getL l a p else sl0
def gotB (l : List Sl) (a p : Int) : Bool := if (tableOkB l && flowOkB a p) = true then (endL l a p).2 else false
end Go.Proofs.Ytfmnhdemhbbjlaa

/- A store into a box: what lies elsewhere is as it was. -/
namespace Go.Proofs.Ytfmnhdemhbbjlaa
open Go.ChangeShapes Go.WideShapes Go.ChangeAt Go.RowKit Go.Joins
set_option linter.unusedVariables false
set_option linter.unusedSimpArgs false

theorem set5_cell {W : World} {B b j : Nat} {u : Value} (s : Sl) (h : W.cell? ⟨b, j, none⟩ = some u) (hb : b < B) :
    (((((W.setCell ⟨B, 0, none⟩ (.bool s.u)).setCell ⟨B, 1, none⟩ (.int .i64 s.a)).setCell ⟨B, 2, none⟩ (.int .i64 s.p)).setCell ⟨B, 3, none⟩ (.int .i64 s.v)).setCell ⟨B, 4, none⟩ (.int .i64 s.t)).cell? ⟨b, j, none⟩ = some u :=
  ((below_set5 (s := s) (Below.refl B W) (Nat.le_refl _)).cell (p := ⟨b, j, none⟩) hb).trans h
theorem set1_cell {W : World} {B b j : Nat} {u v : Value} (h : W.cell? ⟨b, j, none⟩ = some u) (hb : b < B) : (W.setCell ⟨B, 0, none⟩ v).cell? ⟨b, j, none⟩ = some u :=
  (((Below.refl B W).setCell (p := ⟨B, 0, none⟩) (Nat.le_refl _) v).cell (p := ⟨b, j, none⟩) hb).trans h
theorem stp_setC (W : World) (B j : Nat) (v : Value) : Stp B (B + 1) W (W.setCell ⟨B, j, none⟩ v) := by
  have h := (Below.refl B W).setCell (p := ⟨B, j, none⟩) (Nat.le_refl _) v
  exact ⟨h.os, h.tape, h.output, h.size, fun k hk hn => Below.heap_setCell W ⟨B, j, none⟩ v k (by simp; omega)⟩
theorem box_new0 {w new : World} {c : Array Value} {T : TypeId} (hb : Below ((w.alloc (.cells c T)).drew).heap.size (w.alloc (.cells c T)).drew new) : new.heap[w.heap.size]? = some (.cells c T (0, 0)) := by
  have h1 := hb.block w.heap.size (by simp)
  have h2 : (w.alloc (.cells c T)).drew.heap[w.heap.size]? = (w.alloc (.cells c T)).heap[w.heap.size]? := rfl
  exact h1.trans (h2.trans (World.alloc_heap_new w (.cells c T)))
theorem box_new1 {w new : World} {c : Array Value} {T : TypeId} (hb : Below (w.alloc (.cells c T)).heap.size (w.alloc (.cells c T)) new) : new.heap[w.heap.size]? = some (.cells c T (0, 0)) :=
  (hb.block w.heap.size (by simp)).trans (World.alloc_heap_new w (.cells c T))
theorem zero_slot {w : World} {B : Nat} {T : TypeId} (h : w.heap[B]? = some (.cells #[.bool false, .int .i64 0, .int .i64 0, .int .i64 0, .int .i64 0] T (0, 0))) : w.heap[B]? = some (.cells (slotCells sl0) T (0, 0)) := h
theorem InTb.opn {lo hi : Nat} {w : World} {v : Value} {m : List Sl} (h : InTb lo hi w v m) : ∃ (o : Option Addr) (c : Nat), v = tab (.slice o m.length c) := by
  obtain ⟨vl, rfl, o, c, rfl, _⟩ := h.rd
  exact ⟨o, c, rfl⟩
theorem fin5 {cur W : World} {B : Nat} {T : TypeId} (q : Sl) (t : Bool) (hZ : W.heap[B]? = some (.cells (slotCells sl0) T (0, 0))) (hx : Below cur.heap.size cur W) (hB : cur.heap.size ≤ B) :
    ∃ B', Value.pointer (some ⟨B, 0, none⟩) = .pointer (some ⟨B', 0, none⟩) ∧ Value.bool t = .bool t ∧ Hid ((((((W.setCell ⟨B, 0, none⟩ (.bool q.u)).setCell ⟨B, 1, none⟩ (.int .i64 q.a)).setCell ⟨B, 2, none⟩ (.int .i64 q.p)).setCell ⟨B, 3, none⟩ (.int .i64 q.v)).setCell ⟨B, 4, none⟩ (.int .i64 q.t)).heap[B']? = some (.cells (slotCells q) T (0, 0))) ∧ Hid (Below cur.heap.size cur (((((W.setCell ⟨B, 0, none⟩ (.bool q.u)).setCell ⟨B, 1, none⟩ (.int .i64 q.a)).setCell ⟨B, 2, none⟩ (.int .i64 q.p)).setCell ⟨B, 3, none⟩ (.int .i64 q.v)).setCell ⟨B, 4, none⟩ (.int .i64 q.t))) ∧ cur.heap.size ≤ B' ∧ B' < (((((W.setCell ⟨B, 0, none⟩ (.bool q.u)).setCell ⟨B, 1, none⟩ (.int .i64 q.a)).setCell ⟨B, 2, none⟩ (.int .i64 q.p)).setCell ⟨B, 3, none⟩ (.int .i64 q.v)).setCell ⟨B, 4, none⟩ (.int .i64 q.t)).heap.size := by
  refine ⟨B, rfl, rfl, box_set5 (s := q) hZ, below_set5 (s := q) hx hB, hB, ?_⟩
  simpa using (Array.getElem?_eq_some_iff.1 hZ).1
theorem fin5n {cur W : World} {T : TypeId} (q : Sl) (t : Bool) (hx : Below cur.heap.size cur W) :
    ∃ B', Value.pointer (some ⟨W.heap.size, 0, none⟩) = .pointer (some ⟨B', 0, none⟩) ∧ Value.bool t = .bool t ∧ Hid ((W.alloc (.cells #[.bool q.u, .int .i64 q.a, .int .i64 q.p, .int .i64 q.v, .int .i64 q.t] T)).heap[B']? = some (.cells (slotCells q) T (0, 0))) ∧ Hid (Below cur.heap.size cur (W.alloc (.cells #[.bool q.u, .int .i64 q.a, .int .i64 q.p, .int .i64 q.v, .int .i64 q.t] T))) ∧ cur.heap.size ≤ B' ∧ B' < (W.alloc (.cells #[.bool q.u, .int .i64 q.a, .int .i64 q.p, .int .i64 q.v, .int .i64 q.t] T)).heap.size :=
  ⟨W.heap.size, rfl, rfl, World.alloc_heap_new W _, hx.alloc hx.size _, hx.size, by simp⟩
theorem finT {cur W : World} {B lo hi : Nat} {T : TypeId} {f : Value} {mr : List Sl} {o : Option Addr} {c : Nat} {z : Value} (hZ : W.heap[B]? = some (.cells #[z] T (0, 0))) (hx : Below cur.heap.size cur W) (hB : cur.heap.size ≤ B) (hi' : InTb lo hi W (tab (.slice o mr.length c)) mr) (h1 : cur.heap.size ≤ lo) (h2 : hi ≤ W.heap.size) (h3 : B < lo ∨ hi ≤ B) :
    ∃ B' lo hi o' c', Value.pointer (some ⟨B, 0, none⟩) = .pointer (some ⟨B', 0, none⟩) ∧ f = f ∧ Hid ((W.setCell ⟨B, 0, none⟩ (.slice o mr.length c)).heap[B']? = some (.cells #[.slice o' mr.length c'] T (0, 0))) ∧ Hid (Below cur.heap.size cur (W.setCell ⟨B, 0, none⟩ (.slice o mr.length c))) ∧ cur.heap.size ≤ B' ∧ B' < (W.setCell ⟨B, 0, none⟩ (.slice o mr.length c)).heap.size ∧ Hid (InTb lo hi (W.setCell ⟨B, 0, none⟩ (.slice o mr.length c)) (tab (.slice o' mr.length c')) mr) ∧ cur.heap.size ≤ lo ∧ hi ≤ (W.setCell ⟨B, 0, none⟩ (.slice o mr.length c)).heap.size ∧ (B' < lo ∨ hi ≤ B') := by
  refine ⟨B, lo, hi, o, c, rfl, rfl, box_set1 W B 0 _ _ _ hZ, hx.setCell (p := ⟨B, 0, none⟩) hB _, hB, ?_, InTb.step hi' (stp_setC W B 0 _) (by omega), h1, by simpa using h2, h3⟩
  simpa using (Array.getElem?_eq_some_iff.1 hZ).1
theorem finTn {cur W : World} {lo hi : Nat} {T : TypeId} {f : Value} {mr : List Sl} {o : Option Addr} {c : Nat} (hx : Below cur.heap.size cur W) (hi' : InTb lo hi W (tab (.slice o mr.length c)) mr) (h1 : cur.heap.size ≤ lo) (h2 : hi ≤ W.heap.size) :
    ∃ B' lo hi o' c', Value.pointer (some ⟨W.heap.size, 0, none⟩) = .pointer (some ⟨B', 0, none⟩) ∧ f = f ∧ Hid ((W.alloc (.cells #[.slice o mr.length c] T)).heap[B']? = some (.cells #[.slice o' mr.length c'] T (0, 0))) ∧ Hid (Below cur.heap.size cur (W.alloc (.cells #[.slice o mr.length c] T))) ∧ cur.heap.size ≤ B' ∧ B' < (W.alloc (.cells #[.slice o mr.length c] T)).heap.size ∧ Hid (InTb lo hi (W.alloc (.cells #[.slice o mr.length c] T)) (tab (.slice o' mr.length c')) mr) ∧ cur.heap.size ≤ lo ∧ hi ≤ (W.alloc (.cells #[.slice o mr.length c] T)).heap.size ∧ (B' < lo ∨ hi ≤ B') :=
  ⟨W.heap.size, lo, hi, o, c, rfl, rfl, World.alloc_heap_new W _, hx.alloc hx.size _, hx.size, by simp, InTb.step hi' (Stp.of (lo := 0) (hi := 0) ((Below.refl _ _).alloc (Nat.le_refl _) _)) (.inl (Nat.zero_le _)), h1, by simp; omega, .inr h2⟩

end Go.Proofs.Ytfmnhdemhbbjlaa

/- Put, on both sides. -/
namespace Go.Proofs.Ytfmnhdemhbbjlaa
open Go.ChangeShapes Go.WideShapes Go.ChangeAt Go.RowKit Go.Joins
set_option linter.unusedVariables false
set_option linter.unusedSimpArgs false

theorem appS : AppOk layS 29 130 := ⟨Try.underlying29, ⟨_, _, infoSlot, rfl, by decide⟩, by decide, fun a u hu => by
  simp [layS] at hu; rcases hu with rfl | rfl | rfl | rfl | rfl <;> rfl⟩
theorem Stp.cell {lo hi b j : Nat} {w w' : World} {u : Value} (s : Stp lo hi w w') (h : w.cell? ⟨b, j, none⟩ = some u) (hb : b < w.heap.size) (hd : b < lo ∨ hi ≤ b) : w'.cell? ⟨b, j, none⟩ = some u := by
  have := s.block b hb hd
  simp only [World.cell?, this] at h ⊢; exact h
theorem Stp.frozen {lo hi b j : Nat} {w w' : World} (s : Stp lo hi w w') (h : w.frozen? ⟨b, j, none⟩ = false) (hb : b < w.heap.size) (hd : b < lo ∨ hi ≤ b) : w'.frozen? ⟨b, j, none⟩ = false := by
  have := s.block b hb hd
  simp only [World.frozen?, this] at h ⊢; exact h
theorem stp_set5 (W : World) (B k : Nat) (s : Sl) : Stp B (B + 1) W (((((W.setCell ⟨B, k * 5, none⟩ (.bool s.u)).setCell ⟨B, k * 5 + 1, none⟩ (.int .i64 s.a)).setCell ⟨B, k * 5 + 2, none⟩ (.int .i64 s.p)).setCell ⟨B, k * 5 + 3, none⟩ (.int .i64 s.v)).setCell ⟨B, k * 5 + 4, none⟩ (.int .i64 s.t)) :=
  ((((stp_setC W B _ _).trans (stp_setC _ B _ _)).trans (stp_setC _ B _ _)).trans (stp_setC _ B _ _)).trans (stp_setC _ B _ _)

set_option maxHeartbeats 2000000 in
theorem l5own_any (b off c : Nat) (l : List Sl) (w : World) (hbl : b < w.heap.size) (hc : ∀ i, i < l.length → ∀ j, j < layS.k → w.cell? ⟨b, off + i * layS.k + j, none⟩ = (layS.cs (l.getD i layS.d))[j]?) (hl : l.length ≤ 1048576) :
    Calls Try.prog 42 #[tab (.slice (some ⟨b, off, none⟩) l.length c)] w fun e w' => ∃ o' c', e = .returned (tab (.slice o' l.length c')) ∧ ownS w' w.heap.size (.slice o' l.length c') l ∧ Below w.heap.size w w' := by
  have HC := hide hc
  clear hc
  obtain ⟨W0, hW0⟩ : ∃ W, ((w.alloc (.cells #[.slice (some ⟨b, off, none⟩) l.length c] 31)).alloc (.cells #[.slice none 0 0] 31)) = W := ⟨_, rfl⟩
  have hb_W0 : Below w.heap.size w W0 := by rw [← hW0]; exact (((Below.refl _ _).alloc (Nat.le_refl _) _).alloc (by simp <;> omega) _)
  have HB := hide hb_W0
  clear hb_W0
  have zct : w.heap.size < W0.heap.size := by rw [← hW0]; simp <;> omega
  have ct0 : W0.cell? ⟨w.heap.size, 0, none⟩ = some (.slice (some ⟨b, off, none⟩) l.length c) := by rw [← hW0]; simp [go_sem]
  have zcr : w.heap.size + 1 < W0.heap.size := by rw [← hW0]; simp
  have cr0 : W0.cell? ⟨w.heap.size + 1, 0, none⟩ = some (.slice none 0 0) := by rw [← hW0]; simp [go_sem]
  have fcr0 : W0.frozen? ⟨w.heap.size + 1, 0, none⟩ = false := by rw [← hW0]; simp [go_sem]
  have HZ := hide zcr
  have hw00 := HB.out.size
  obtain ⟨W1, hW1⟩ : ∃ W, W0.alloc (.cells #[] 130) = W := ⟨_, rfl⟩
  have F1 : Hid (ownL layS 130 W1 W0.heap.size (.slice (some ⟨W0.heap.size, 0, none⟩) 0 0) []) := by rw [← hW1]; exact own_none0 (L := layS) W0 _
  have hb_W1 : Below W0.heap.size W0 W1 := by rw [← hW1]; exact (Below.refl _ _).alloc (Nat.le_refl _) _
  replace ct0 : W1.cell? ⟨w.heap.size, 0, none⟩ = some (.slice (some ⟨b, off, none⟩) l.length c) := (hb_W1.cell (p := ⟨w.heap.size, 0, none⟩) zct).trans ct0
  replace zct : w.heap.size < W1.heap.size := Nat.lt_of_lt_of_le zct hb_W1.size
  replace cr0 : W1.cell? ⟨w.heap.size + 1, 0, none⟩ = some (.slice none 0 0) := (hb_W1.cell (p := ⟨w.heap.size + 1, 0, none⟩) zcr).trans cr0
  replace fcr0 : W1.frozen? ⟨w.heap.size + 1, 0, none⟩ = false := (hb_W1.frozen (p := ⟨w.heap.size + 1, 0, none⟩) zcr).trans fcr0
  replace zcr : w.heap.size + 1 < W1.heap.size := Nat.lt_of_lt_of_le zcr hb_W1.size
  replace HB := hide (HB.out.trans (hb_W1.mono HB.out.size))
  clear hb_W1
  have hsz1 : W0.heap.size ≤ W1.heap.size := by rw [← hW1]; simp
  have rdl : Hid (RdL layS w.heap.size W1 (some ⟨b, off, none⟩) l) := .inr ⟨b, off, rfl, hbl, fun i hi j hj => (HB.out.cell (p := ⟨b, off + i * layS.k + j, none⟩) hbl).trans (HC.out i hi j hj)⟩
  go_enter Try.func42, Try.ntmps42
  go_wp2_with (at_builtin; refine wpList_append_lay appS rfl _ _ rfl W0.heap.size _ [] rfl F1.out (some ⟨b, off, none⟩) c w.heap.size l l.length rfl rfl (fun h => by cases h) rdl.out ?c1 ?c2 ?_)
  case c1 => simp; omega
  case c2 => exact hsz1
  intro v2 w2 hv2 hg2 _
  (try rw [List.nil_append] at hv2)
  have hb : Below W0.heap.size W1 w2 := (Below.refl _ _).grown hg2 hsz1 (fun q h => (F1.out.lt q h).1)
  have HO := hide hv2
  obtain ⟨o2, c2, hve, _⟩ := ownL.open (L := layS) hv2
  subst hve
  have cr02 : w2.cell? ⟨w.heap.size + 1, 0, none⟩ = some (.slice none 0 0) := (hb.cell (p := ⟨w.heap.size + 1, 0, none⟩) HZ.out).trans cr0
  have fcr02 : w2.frozen? ⟨w.heap.size + 1, 0, none⟩ = false := (hb.frozen (p := ⟨w.heap.size + 1, 0, none⟩) HZ.out).trans fcr0
  have HB2 := hide (HB.out.trans (hb.mono hw00))
  clear hv2 hg2 hb F1 cr0 fcr0
  go_wp2
  refine bodyPost_ret (v := tab (.slice o2 l.length c2)) (by simp [results, Try.results42, go_sem, cr02]) rfl ⟨_, _, rfl, ?_, ?_⟩
  · exact own_mono (ownsRow_setCell_below HO.out (show w.heap.size + 1 < W0.heap.size from HZ.out) _) hw00
  · exact HB2.out.setCell (p := ⟨w.heap.size + 1, 0, none⟩) (by simp) _

theorem putL_no {l : List Sl} {a p v t : Int} (h : (endL l a p).1 < 0) : putL l a p v t = l := by unfold putL; rw [if_neg (by omega)]
theorem putL_yes {l : List Sl} {a p v t : Int} {k : Nat} (h : (endL l a p).1 = (k : Int)) : putL l a p v t = l.set k ⟨true, a, p, v, t⟩ := by unfold putL; rw [if_pos (by omega), h]; simp
/-- Where a way ends: nowhere, or at a slot. -/
theorem endL_place (l : List Sl) (hn : 0 < l.length) (a p : Int) : (endL l a p).1 = -1 ∨ ∃ k, k < l.length ∧ (endL l a p).1 = (k : Int) := by
  rcases endL_cases l hn a p with e | ⟨k, hk, ⟨e, _⟩ | ⟨e, _⟩⟩
  · exact .inl (by rw [e])
  · exact .inr ⟨k, hk, by rw [e]⟩
  · exact .inr ⟨k, hk, by rw [e]⟩
end Go.Proofs.Ytfmnhdemhbbjlaa

