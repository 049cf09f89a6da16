/- Several texts in one: Grow, SSoon, SSoon2, SPlain, SGet, Cut5, Cut6, LBytes, LMark, ShB, SSeg, LSeg. -/
import Derived.Test.YtmkgbmmibjgeaaaGreatGrLFlow
import Derived.BigQuiet
import Derived.Deep.Quiet
import Derived.Test.YtmkgbmmibjgeaaaGreatGrSTabI3
import Derived.Test.YtmkgbmmibjgeaaaGreatGrSFlow
import Derived.Test.YtmkgbmmibjgeaaaGreatGrBytes
import Derived.Test.YtmkgbmmibjgeaaaGreatGrFr
/- A region that draws its order, whose operations only read what lay there and whose callees only lay new blocks: walked once, in the order of the text. -/
namespace Go.Proofs.YtmkgbmmibjgeaaaGreat
open Go.ChangeShapes Go.WideShapes Go.ChangeAt Go.RowKit Go.Joins
set_option linter.unusedVariables false
set_option linter.unusedSimpArgs false

/-- A world in which all that lay in w lies as it did. -/
structure Grown (w : World) where
  v : World
  b : Below w.heap.size w v

theorem wp_region_grown {P : Program} {id : Nat} {Q : Exit → Act → World → Prop} {a : Act} {w : World} {l : List Oper} (hm : P.follows .mixedOrders = true) (hB : Region.lexB .any l.toArray = true)
    (h : Nonempty (Grown w) → wpQuiet P l.toArray (fun w' => ∃ p : Grown w, w' = p.v) (fun a' => ∀ w', (∃ p : Grown w, w' = p.v) → Q .normal a' w') l a) : (Code.region id l.toArray true).wp P Q a w :=
  wp_region_quiet (C := fun w' => ∃ p : Grown w, w' = p.v) hm hB ⟨⟨w.drew, Below.drew (Below.refl _ _)⟩, rfl⟩ (by simpa using h ⟨⟨w, Below.refl _ _⟩⟩)

theorem grown_of {P : Program} {f : FuncId} {args : Array Value} {w : World} {v : Value} (p : Grown w)
    (h : Calls P f args p.v fun e w' => e = .returned v ∧ Below p.v.heap.size p.v w') : Calls P f args p.v fun e w'' => e = .returned v ∧ ∃ q : Grown w, w'' = q.v :=
  h.mono fun _ w' ⟨he, hb⟩ => ⟨he, ⟨w', p.b.trans (hb.mono p.b.size)⟩, rfl⟩
theorem grown_same {P : Program} {f : FuncId} {args : Array Value} {w : World} {v : Value} (p : Grown w)
    (h : Calls P f args p.v fun e w' => e = .returned v ∧ p.v = w') : Calls P f args p.v fun e w'' => e = .returned v ∧ ∃ q : Grown w, w'' = q.v :=
  h.mono fun _ w' ⟨he, hb⟩ => ⟨he, p, hb.symm⟩
theorem Grown.cell {w : World} {b off : Nat} {u : Value} (h : w.cell? ⟨b, off, none⟩ = some u) (hb : b < w.heap.size) : ∀ p : Grown w, p.v.cell? ⟨b, off, none⟩ = some u :=
  fun p => (p.b.cell (p := ⟨b, off, none⟩) hb).trans h

end Go.Proofs.YtmkgbmmibjgeaaaGreat

/- Soonest, on both sides. -/
namespace Go.Proofs.YtmkgbmmibjgeaaaGreat
open Go.ChangeShapes Go.WideShapes Go.ChangeAt Go.RowKit Go.Joins
set_option linter.unusedVariables false
set_option linter.unusedSimpArgs false

/-- The first one with the least Until among the first k that are used; nothing where none is. -/
def soonStep (q s : Sl) : Sl := if s.u = true ∧ (q.u = false ∨ s.t < q.t) then s else q
def soonTo (l : List Sl) (k : Nat) : Sl := (l.take k).foldl soonStep sl0
theorem soonTo_succ {l : List Sl} {k : Nat} (h : k < l.length) : soonTo l (k + 1) = soonStep (soonTo l k) (l.getD k sl0) := by
  unfold soonTo
  rw [takeL_succ layS l k h, List.foldl_append]; rfl
theorem soonStep_free {q s : Sl} (h : s.u = false) : soonStep q s = q := by unfold soonStep; rw [if_neg (by rw [h]; simp)]
theorem soonStep_first {q s : Sl} (h : s.u = true) (hq : q.u = false) : soonStep q s = s := by unfold soonStep; rw [if_pos ⟨h, .inl hq⟩]
theorem soonStep_less {q s : Sl} (h : s.u = true) (hq : s.t < q.t) : soonStep q s = s := by unfold soonStep; rw [if_pos ⟨h, .inr hq⟩]
theorem soonStep_more {q s : Sl} (hq : q.u = true) (h : ¬ s.t < q.t) : soonStep q s = q := by
  unfold soonStep
  rw [if_neg]
  rintro ⟨_, h1 | h1⟩
  · rw [hq] at h1; cases h1
  · exact h h1
def soonL (l : List Sl) : Sl := soonTo l l.length
theorem box_set1 (w : World) (k j : Nat) (cs : Array Value) (t : TypeId) (v : Value) (h : w.heap[k]? = some (.cells cs t (0, 0))) : (w.setCell ⟨k, j, none⟩ v).heap[k]? = some (.cells (cs.setIfInBounds j v) t (0, 0)) := by
  simp [World.setCell, Array.getElem?_modify, h]
theorem frozen_of {W : World} {B : Nat} {c : Array Value} {t : TypeId} (h : W.heap[B]? = some (.cells c t (0, 0))) (j : Nat) : W.frozen? ⟨B, j, none⟩ = false := by simp [World.frozen?, h]
abbrev slotCells (s : Sl) : Array Value := #[.bool s.u, .int .i64 s.a, .int .i64 s.p, .int .i64 s.v, .int .i64 s.t]
def set5 (w : World) (B : Nat) (s : Sl) : World := ((((w.setCell ⟨B, 0, none⟩ (.bool s.u)).setCell ⟨B, 1, none⟩ (.int .i64 s.a)).setCell ⟨B, 2, none⟩ (.int .i64 s.p)).setCell ⟨B, 3, none⟩ (.int .i64 s.v)).setCell ⟨B, 4, none⟩ (.int .i64 s.t)
theorem box_set5 {w : World} {B : Nat} {s q : Sl} {T : TypeId} (h : w.heap[B]? = some (.cells (slotCells q) T (0, 0))) : (set5 w B s).heap[B]? = some (.cells (slotCells s) T (0, 0)) := by
  have h0 := box_set1 w B 0 _ _ (.bool s.u) h
  have h1 := box_set1 _ B 1 _ _ (.int .i64 s.a) h0
  have h2 := box_set1 _ B 2 _ _ (.int .i64 s.p) h1
  have h3 := box_set1 _ B 3 _ _ (.int .i64 s.v) h2
  have h4 := box_set1 _ B 4 _ _ (.int .i64 s.t) h3
  exact h4
theorem below_set5 {w W : World} {n B : Nat} (h : Below n w W) (hB : n ≤ B) (s : Sl) : Below n w (set5 W B s) :=
  ((((h.setCell (p := ⟨B, 0, none⟩) hB _).setCell (p := ⟨B, 1, none⟩) hB _).setCell (p := ⟨B, 2, none⟩) hB _).setCell (p := ⟨B, 3, none⟩) hB _).setCell (p := ⟨B, 4, none⟩) hB _

end Go.Proofs.YtmkgbmmibjgeaaaGreat

/- Soonest, the model's and the program's. -/
namespace Go.Proofs.YtmkgbmmibjgeaaaGreat
open Go.ChangeShapes Go.WideShapes Go.ChangeAt Go.RowKit Go.Joins
set_option linter.unusedVariables false
set_option linter.unusedSimpArgs false

def soonM (l : List Sl) : Sl := if tableOkB l = true then soonL l else sl0
end Go.Proofs.YtmkgbmmibjgeaaaGreat

/- The program's plainTable; TableNew, on both sides. -/
namespace Go.Proofs.YtmkgbmmibjgeaaaGreat
open Go.ChangeShapes Go.WideShapes Go.ChangeAt Go.RowKit Go.Joins
set_option linter.unusedVariables false
set_option linter.unusedSimpArgs false

set_option maxHeartbeats 8000000 in
theorem plainTable_any (b off c : Nat) (l : List Sl) (w : World) (hbl : b < w.heap.size) (hc : ∀ i, i < l.length → ∀ j, j < layS.k → w.cell? ⟨b, off + i * layS.k + j, none⟩ = (layS.cs (l.getD i layS.d))[j]?) (hl : l.length ≤ 1048576) :
    Calls Tryz.prog 64 #[tab (.slice (some ⟨b, off, none⟩) l.length c)] w fun e w' => ∃ g, e = .returned (tab (.slice (some ⟨g, 0, none⟩) l.length l.length)) ∧ ownS w' w.heap.size (.slice (some ⟨g, 0, none⟩) l.length l.length) l ∧ Below w.heap.size w w' := by
  obtain ⟨i0, hi, hz0, hz1, hz2⟩ := info_parts infoSlot
  have HC := hide hc
  clear hc
  obtain ⟨W0, hW0⟩ : ∃ W, ((w.alloc (.cells #[.slice (some ⟨b, off, none⟩) l.length c] 69)).alloc (.cells #[.slice none 0 0] 39)) = W := ⟨_, rfl⟩
  have hb_W0 : Below w.heap.size w W0 := by rw [← hW0]; exact (((Below.refl _ _).alloc (Nat.le_refl _) _).alloc (by simp <;> omega) _)
  have HB := hide hb_W0
  clear hb_W0
  have zct : w.heap.size < W0.heap.size := by rw [← hW0]; simp <;> omega
  have ct0 : W0.cell? ⟨w.heap.size, 0, none⟩ = some (.slice (some ⟨b, off, none⟩) l.length c) := by rw [← hW0]; simp [go_sem]
  have zcr : w.heap.size + 1 < W0.heap.size := by rw [← hW0]; simp
  have cr0 : W0.cell? ⟨w.heap.size + 1, 0, none⟩ = some (.slice none 0 0) := by rw [← hW0]; simp [go_sem]
  have fcr0 : W0.frozen? ⟨w.heap.size + 1, 0, none⟩ = false := by rw [← hW0]; simp [go_sem]
  have zcr0 := zcr
  have hw00 : w.heap.size ≤ W0.heap.size := HB.out.size
  go_enter Tryz.func64, Tryz.ntmps64
  go_wp2_with (at_make; refine wpList_make_full _ rfl _ _ 37 rfl W0.heap.size 95 i0 (slot sl0) 5 Tryz.underlying37 hi hz0 hz1 _ _ _ _ l.length rfl rfl rfl rfl ?b2 ?b3 ?b4 ?_)
  case b2 => rw [hz2]; omega
  case b3 => unfold maxLen; omega
  case b4 => simp
  intro w1 hown hgrow
  have hb : Below W0.heap.size W0 w1 := (Below.refl _ _).grown hgrow (Nat.le_refl _) (fun k h => by cases h)
  have HBg := hide hb
  have HO : Hid (w1.ownsRow W0.heap.size 95 5 (.slice (some ⟨W0.heap.size, 0, none⟩) l.length l.length) l.length ((fillL layS l 0).flatMap layS.cs)) := by unfold Hid; rw [fillL_zero, ← made_flat layS (slot sl0) rfl]; exact hown
  have zg : W0.heap.size < w1.heap.size := (hown.lt _ rfl).2
  clear hown hgrow
  replace ct0 : w1.cell? ⟨w.heap.size, 0, none⟩ = some (.slice (some ⟨b, off, none⟩) l.length c) := (hb.cell (p := ⟨w.heap.size, 0, none⟩) zct).trans ct0
  replace zct : w.heap.size < w1.heap.size := Nat.lt_of_lt_of_le zct hb.size
  replace cr0 : w1.cell? ⟨w.heap.size + 1, 0, none⟩ = some (.slice none 0 0) := (hb.cell (p := ⟨w.heap.size + 1, 0, none⟩) zcr).trans cr0
  replace fcr0 : w1.frozen? ⟨w.heap.size + 1, 0, none⟩ = false := (hb.frozen (p := ⟨w.heap.size + 1, 0, none⟩) zcr).trans fcr0
  replace zcr : w.heap.size + 1 < w1.heap.size := Nat.lt_of_lt_of_le zcr hb.size
  replace HB := hide (HB.out.trans (hb.mono HB.out.size))
  clear hb
  obtain ⟨W2, hW2⟩ : ∃ W, (w1.alloc (.cells #[.slice (some ⟨W0.heap.size, 0, none⟩) l.length l.length] 39)) = W := ⟨_, rfl⟩
  have hb_W2 : Below w1.heap.size w1 W2 := by rw [← hW2]; exact ((Below.refl _ _).alloc (Nat.le_refl _) _)
  replace ct0 : W2.cell? ⟨w.heap.size, 0, none⟩ = some (.slice (some ⟨b, off, none⟩) l.length c) := (hb_W2.cell (p := ⟨w.heap.size, 0, none⟩) zct).trans ct0
  replace zct : w.heap.size < W2.heap.size := Nat.lt_of_lt_of_le zct hb_W2.size
  replace cr0 : W2.cell? ⟨w.heap.size + 1, 0, none⟩ = some (.slice none 0 0) := (hb_W2.cell (p := ⟨w.heap.size + 1, 0, none⟩) zcr).trans cr0
  replace fcr0 : W2.frozen? ⟨w.heap.size + 1, 0, none⟩ = false := (hb_W2.frozen (p := ⟨w.heap.size + 1, 0, none⟩) zcr).trans fcr0
  replace zcr : w.heap.size + 1 < W2.heap.size := Nat.lt_of_lt_of_le zcr hb_W2.size
  replace HO := hide (own_kept HO.out hb_W2)
  replace HB := hide (HB.out.trans (hb_W2.mono HB.out.size))
  clear hb_W2
  have zcs : w1.heap.size < W2.heap.size := by rw [← hW2]; simp
  have cs0 : W2.cell? ⟨w1.heap.size, 0, none⟩ = some (.slice (some ⟨W0.heap.size, 0, none⟩) l.length l.length) := by rw [← hW2]; simp [go_sem]
  have b3 : Hid (W2.heap[w1.heap.size]? = some (.cells #[.slice (some ⟨W0.heap.size, 0, none⟩) l.length l.length] 39 (0, 0))) := by rw [← hW2]; exact World.alloc_heap_new w1 _
  have bR : Hid (W2.heap[w.heap.size + 1]? = some (.cells #[.slice none 0 0] 39 (0, 0))) := by
    have h := World.alloc_heap_new (w.alloc (.cells #[.slice (some ⟨b, off, none⟩) l.length c] 69)) (.cells #[.slice none 0 0] 39)
    rw [hW0, World.size_alloc] at h
    exact ((by rw [← hW2]; exact (Below.heap_alloc _ _ _ (by omega)) : W2.heap[w.heap.size + 1]? = w1.heap[w.heap.size + 1]?)).trans ((HBg.out.block _ zcr0).trans h)
  have zs0 := zcs
  go_wp2
  go_loopw [14] (fun i wr => ∃ k : Nat, k ≤ l.length ∧ i = .int .i64 k ∧ Hid (wr.ownsRow W0.heap.size 95 5 (.slice (some ⟨W0.heap.size, 0, none⟩) l.length l.length) l.length ((fillL layS l k).flatMap layS.cs)) ∧ Hid (wr.heap[w.heap.size + 1]? = some (.cells #[.slice none 0 0] 39 (0, 0))) ∧ Hid (wr.heap[w1.heap.size]? = some (.cells #[.slice (some ⟨W0.heap.size, 0, none⟩) l.length l.length] 39 (0, 0))) ∧ Hid (Below w.heap.size w wr) ∧ w1.heap.size < wr.heap.size)
    (fun i _ => l.length - (intOf i).toNat)
  case atStart => exact ⟨0, Nat.zero_le _, rfl, HO, bR, b3, HB, zcs⟩
  case round =>
    clear HO bR b3 HB HBg ct0 cr0 fcr0 cs0 hW2 hW0 zct zcr zcs
    obtain ⟨k, hk, rfl, HO, HR, HT, HBr, hsz⟩ := hrel
    by_cases hlt : k < l.length
    · obtain ⟨s, hxy⟩ : ∃ s, l.getD k sl0 = s := ⟨_, rfl⟩
      have hcx := RdL.slot (C := w.heap.size) HC.out k hlt
      rw [hxy] at hcx
      have e0 := (HBr.out.cell (p := ⟨b, off + k * 5, none⟩) hbl).trans hcx.1
      have e1 := (HBr.out.cell (p := ⟨b, off + k * 5 + 1, none⟩) hbl).trans hcx.2.1
      have e2 := (HBr.out.cell (p := ⟨b, off + k * 5 + 2, none⟩) hbl).trans hcx.2.2.1
      have e3 := (HBr.out.cell (p := ⟨b, off + k * 5 + 3, none⟩) hbl).trans hcx.2.2.2.1
      have e4 := (HBr.out.cell (p := ⟨b, off + k * 5 + 4, none⟩) hbl).trans hcx.2.2.2.2
      have hk' : (k : Int) < (l.length : Int) := by omega
      have HX := hide hxy
      clear hcx hxy
      obtain ⟨W5, hW5⟩ : ∃ W, wr.alloc (.cells (slotCells s) 132) = W := ⟨_, rfl⟩
      have hb5 : Below wr.heap.size wr W5 := by rw [← hW5]; exact (Below.refl _ _).alloc (Nat.le_refl _) _
      have hz5 : wr.heap.size < W5.heap.size := by rw [← hW5]; simp
      have s0 : W5.cell? ⟨wr.heap.size, 0, none⟩ = some (.bool s.u) := by rw [← hW5]; simp [go_sem]
      have s1 : W5.cell? ⟨wr.heap.size, 1, none⟩ = some (.int .i64 s.a) := by rw [← hW5]; simp [go_sem]
      have s2 : W5.cell? ⟨wr.heap.size, 2, none⟩ = some (.int .i64 s.p) := by rw [← hW5]; simp [go_sem]
      have s3 : W5.cell? ⟨wr.heap.size, 3, none⟩ = some (.int .i64 s.v) := by rw [← hW5]; simp [go_sem]
      have s4 : W5.cell? ⟨wr.heap.size, 4, none⟩ = some (.int .i64 s.t) := by rw [← hW5]; simp [go_sem]
      have t3 : W5.cell? ⟨w1.heap.size, 0, none⟩ = some (.slice (some ⟨W0.heap.size, 0, none⟩) l.length l.length) := (hb5.cell (p := ⟨w1.heap.size, 0, none⟩) hsz).trans (block_cell1 HT.out 0 _ rfl)
      have zt3 : w1.heap.size < W5.heap.size := Nat.lt_of_lt_of_le hsz hb5.size
      have Hb5 := hide hb5
      have hown5 := own_kept HO.out hb5
      have hso := slotOf_any s W5.drew
      have hln : ((fillL layS l k).flatMap layS.cs).length = l.length * 5 := by rw [flat_length, fillL_length layS l k hk]; rfl
      have Hown5 : Hid (W5.ownsRow W0.heap.size 95 5 (.slice (some ⟨W0.heap.size, 0, none⟩) l.length l.length) l.length ((fillL layS l k).flatMap layS.cs)) := hown5
      clear hown5 hb5
      go_wp2
      first | (go_region_with (first | (go_at_call 99; refine hso.mono ?_; rintro e w6 ⟨rfl, hb⟩; replace hb : Below W5.heap.size W5 w6 := (Below.drew (Below.refl _ _)).trans hb; have t36 := (hb.cell (p := ⟨w1.heap.size, 0, none⟩) zt3).trans t3; have s60 := (hb.cell (p := ⟨wr.heap.size, 0, none⟩) hz5).trans s0; have s61 := (hb.cell (p := ⟨wr.heap.size, 1, none⟩) hz5).trans s1; have s62 := (hb.cell (p := ⟨wr.heap.size, 2, none⟩) hz5).trans s2; have s63 := (hb.cell (p := ⟨wr.heap.size, 3, none⟩) hz5).trans s3; have s64 := (hb.cell (p := ⟨wr.heap.size, 4, none⟩) hz5).trans s4; have ho6 := own_kept Hown5.out hb; obtain ⟨u0, hu0⟩ : ∃ u, w6.cell? ⟨W0.heap.size, k * 5, none⟩ = some u := ⟨_, (ho6.cellAt (k * 5) (by omega)).trans (List.getElem?_eq_getElem (by omega))⟩; have hf0 := ho6.frozenAt (k * 5); obtain ⟨u1, hu1⟩ : ∃ u, w6.cell? ⟨W0.heap.size, k * 5 + 1, none⟩ = some u := ⟨_, (ho6.cellAt (k * 5 + 1) (by omega)).trans (List.getElem?_eq_getElem (by omega))⟩; have hf1 := ho6.frozenAt (k * 5 + 1); obtain ⟨u2, hu2⟩ : ∃ u, w6.cell? ⟨W0.heap.size, k * 5 + 2, none⟩ = some u := ⟨_, (ho6.cellAt (k * 5 + 2) (by omega)).trans (List.getElem?_eq_getElem (by omega))⟩; have hf2 := ho6.frozenAt (k * 5 + 2); obtain ⟨u3, hu3⟩ : ∃ u, w6.cell? ⟨W0.heap.size, k * 5 + 3, none⟩ = some u := ⟨_, (ho6.cellAt (k * 5 + 3) (by omega)).trans (List.getElem?_eq_getElem (by omega))⟩; have hf3 := ho6.frozenAt (k * 5 + 3); obtain ⟨u4, hu4⟩ : ∃ u, w6.cell? ⟨W0.heap.size, k * 5 + 4, none⟩ = some u := ⟨_, (ho6.cellAt (k * 5 + 4) (by omega)).trans (List.getElem?_eq_getElem (by omega))⟩; have hf4 := ho6.frozenAt (k * 5 + 4); have Hb6 := hide hb; have HO6 := hide ho6; clear hb ho6))) | fail
      all_goals have HR6 := hide (stored5 (k := k) s (Nat.le_refl _) HO6.out (Below.refl W0.heap.size w6))
      all_goals have HX2 := hide (show (fillL layS l k).set k s = fillL layS l (k + 1) by rw [← HX.out]; exact fillL_set layS l k hlt)
      all_goals have Hb7 := hide (Hb5.out.trans (Hb6.out.mono Hb5.out.size))
      all_goals go_wp2
      all_goals go_roundw
      all_goals first | (simp [intOf]; omega; done) | exact ⟨k + 1, hlt, by go_num, (by have h := HR6.out.1; rw [HX2.out] at h; exact h), (HR6.out.2.block _ zcr0).trans ((Hb7.out.block _ (by omega)).trans HR.out), ((((((Below.heap_setCell _ _ _ _ (by simp; omega)).trans (Below.heap_setCell _ _ _ _ (by simp; omega))).trans (Below.heap_setCell _ _ _ _ (by simp; omega))).trans (Below.heap_setCell _ _ _ _ (by simp; omega))).trans (Below.heap_setCell _ _ _ _ (by simp; omega))).trans ((Hb7.out.block _ hsz).trans HT.out)), HBr.out.trans ((Hb7.out.mono HBr.out.size).trans (HR6.out.2.mono hw00)), Nat.lt_of_lt_of_le hsz (Nat.le_trans Hb7.out.size HR6.out.2.size)⟩
    · have e : k = l.length := by omega
      subst e
      have hrow := HO.out
      rw [fillL_all] at hrow
      have HRow := hide hrow
      clear hrow HO
      have r1 := block_cell1 HR.out 0 _ rfl
      have f1 := frozen_of HR.out 0
      have t3 := block_cell1 HT.out 0 _ rfl
      go_wp2
      refine bodyPost_ret (v := tab (.slice (some ⟨W0.heap.size, 0, none⟩) l.length l.length)) (by simp [results, Tryz.results64, go_sem, r1]) rfl ⟨_, rfl, ?_, ?_⟩
      · exact own_mono (ownsRow_setCell_below HRow.out (show w.heap.size + 1 < W0.heap.size from zcr0) _) hw00
      · exact HBr.out.setCell (p := ⟨w.heap.size + 1, 0, none⟩) (by simp) _

/-- A table of so many slots, all free. -/
def newM (n : Int) : List Sl := if 1 ≤ n ∧ n ≤ 16 then List.replicate n.toNat sl0 else []
def newB (n : Int) : Bool := decide (1 ≤ n) && decide (n ≤ 16)
theorem newM_len (n : Int) : (newM n).length ≤ 16 := by
  unfold newM
  split
  · rw [List.length_replicate]; omega
  · exact Nat.zero_le _
end Go.Proofs.YtmkgbmmibjgeaaaGreat

/- Get, on both sides. -/
namespace Go.Proofs.YtmkgbmmibjgeaaaGreat
open Go.ChangeShapes Go.WideShapes Go.ChangeAt Go.RowKit Go.Joins
set_option linter.unusedVariables false
set_option linter.unusedSimpArgs false

theorem getL_no {l : List Sl} {a p : Int} (h : (endL l a p).2 = false) : getL l a p = sl0 := by unfold getL; rw [h]; rfl
theorem getL_yes {l : List Sl} {a p : Int} {k : Nat} (h : endL l a p = ((k : Int), true)) : getL l a p = l.getD k sl0 := by unfold getL; rw [h]; simp

set_option maxHeartbeats 2000000 in
theorem l5get_any (b off c : Nat) (l : List Sl) (a p : Int) (w : World) (hn : 0 < l.length) (hl : l.length ≤ 1048576) (hf : flowOkB a p = true) (hbl : b < w.heap.size) (hc : ∀ i, i < l.length → ∀ j, j < layS.k → w.cell? ⟨b, off + i * layS.k + j, none⟩ = (layS.cs (l.getD i layS.d))[j]?) :
    Calls Tryz.prog 44 #[tab (.slice (some ⟨b, off, none⟩) l.length c), flow a p] w fun e w' => e = .returned (.tuple #[slot (getL l a p), .bool (endL l a p).2]) ∧ Below w.heap.size w w' := by
  have HC := hide hc
  clear hc
  obtain ⟨W0, hW0⟩ : ∃ W, (((w.alloc (.cells #[.slice (some ⟨b, off, none⟩) l.length c] 39)).alloc (.cells #[.int .i64 a, .int .i64 p] 45)).alloc (.cells #[.bool false, .int .i64 0, .int .i64 0, .int .i64 0, .int .i64 0] 95)) = W := ⟨_, rfl⟩
  have hb_W0 : Below w.heap.size w W0 := by rw [← hW0]; exact ((((Below.refl _ _).alloc (Nat.le_refl _) _).alloc (by simp <;> omega) _).alloc (by simp <;> omega) _)
  have HB := hide hb_W0
  clear hb_W0
  have zct : w.heap.size < W0.heap.size := by rw [← hW0]; simp <;> omega
  have ct0 : W0.cell? ⟨w.heap.size, 0, none⟩ = some (.slice (some ⟨b, off, none⟩) l.length c) := by rw [← hW0]; simp [go_sem]
  have zcf : w.heap.size + 1 < W0.heap.size := by rw [← hW0]; simp <;> omega
  have cf0 : W0.cell? ⟨w.heap.size + 1, 0, none⟩ = some (.int .i64 a) := by rw [← hW0]; simp [go_sem]
  have cf1 : W0.cell? ⟨w.heap.size + 1, 1, none⟩ = some (.int .i64 p) := by rw [← hW0]; simp [go_sem]
  have zcr : w.heap.size + 1 + 1 < W0.heap.size := by rw [← hW0]; simp
  have cr0 : W0.cell? ⟨w.heap.size + 1 + 1, 0, none⟩ = some (.bool false) := by rw [← hW0]; simp [go_sem]
  have cr1 : W0.cell? ⟨w.heap.size + 1 + 1, 1, none⟩ = some (.int .i64 0) := by rw [← hW0]; simp [go_sem]
  have cr2 : W0.cell? ⟨w.heap.size + 1 + 1, 2, none⟩ = some (.int .i64 0) := by rw [← hW0]; simp [go_sem]
  have cr3 : W0.cell? ⟨w.heap.size + 1 + 1, 3, none⟩ = some (.int .i64 0) := by rw [← hW0]; simp [go_sem]
  have cr4 : W0.cell? ⟨w.heap.size + 1 + 1, 4, none⟩ = some (.int .i64 0) := by rw [← hW0]; simp [go_sem]
  have fcr0 : W0.frozen? ⟨w.heap.size + 1 + 1, 0, none⟩ = false := by rw [← hW0]; simp [go_sem]
  have fcr1 : W0.frozen? ⟨w.heap.size + 1 + 1, 1, none⟩ = false := by rw [← hW0]; simp [go_sem]
  have fcr2 : W0.frozen? ⟨w.heap.size + 1 + 1, 2, none⟩ = false := by rw [← hW0]; simp [go_sem]
  have fcr3 : W0.frozen? ⟨w.heap.size + 1 + 1, 3, none⟩ = false := by rw [← hW0]; simp [go_sem]
  have fcr4 : W0.frozen? ⟨w.heap.size + 1 + 1, 4, none⟩ = false := by rw [← hW0]; simp [go_sem]
  have hat := l5at_any (some ⟨b, off, none⟩) c l a p W0 (.inr ⟨b, off, rfl, Nat.lt_of_lt_of_le hbl HB.out.size, (fun i hi j hj => (HB.out.cell (p := ⟨b, off + i * layS.k + j, none⟩) hbl).trans (HC.out i hi j hj))⟩) hn hl hf
  rcases endL_cases l hn a p with hE | ⟨k, hk, ⟨hE, _⟩ | ⟨hE, _⟩⟩
  · skip
    have HM := hide (getL_no (l := l) (a := a) (p := p) (by rw [hE]))
    have HE := hide hE
    rw [hE] at hat
    clear hE
    go_enter Tryz.func44, Tryz.ntmps44
    go_wp2_with fail
    refine (hat).mono ?_
    rintro e v1 ⟨rfl, hb⟩
    replace ct0 : v1.cell? ⟨w.heap.size, 0, none⟩ = some (.slice (some ⟨b, off, none⟩) l.length c) := (hb.cell (p := ⟨w.heap.size, 0, none⟩) zct).trans ct0
    replace zct : w.heap.size < v1.heap.size := Nat.lt_of_lt_of_le zct hb.size
    replace cf0 : v1.cell? ⟨w.heap.size + 1, 0, none⟩ = some (.int .i64 a) := (hb.cell (p := ⟨w.heap.size + 1, 0, none⟩) zcf).trans cf0
    replace cf1 : v1.cell? ⟨w.heap.size + 1, 1, none⟩ = some (.int .i64 p) := (hb.cell (p := ⟨w.heap.size + 1, 1, none⟩) zcf).trans cf1
    replace zcf : w.heap.size + 1 < v1.heap.size := Nat.lt_of_lt_of_le zcf hb.size
    replace cr0 : v1.cell? ⟨w.heap.size + 1 + 1, 0, none⟩ = some (.bool false) := (hb.cell (p := ⟨w.heap.size + 1 + 1, 0, none⟩) zcr).trans cr0
    replace cr1 : v1.cell? ⟨w.heap.size + 1 + 1, 1, none⟩ = some (.int .i64 0) := (hb.cell (p := ⟨w.heap.size + 1 + 1, 1, none⟩) zcr).trans cr1
    replace cr2 : v1.cell? ⟨w.heap.size + 1 + 1, 2, none⟩ = some (.int .i64 0) := (hb.cell (p := ⟨w.heap.size + 1 + 1, 2, none⟩) zcr).trans cr2
    replace cr3 : v1.cell? ⟨w.heap.size + 1 + 1, 3, none⟩ = some (.int .i64 0) := (hb.cell (p := ⟨w.heap.size + 1 + 1, 3, none⟩) zcr).trans cr3
    replace cr4 : v1.cell? ⟨w.heap.size + 1 + 1, 4, none⟩ = some (.int .i64 0) := (hb.cell (p := ⟨w.heap.size + 1 + 1, 4, none⟩) zcr).trans cr4
    replace fcr0 : v1.frozen? ⟨w.heap.size + 1 + 1, 0, none⟩ = false := (hb.frozen (p := ⟨w.heap.size + 1 + 1, 0, none⟩) zcr).trans fcr0
    replace fcr1 : v1.frozen? ⟨w.heap.size + 1 + 1, 1, none⟩ = false := (hb.frozen (p := ⟨w.heap.size + 1 + 1, 1, none⟩) zcr).trans fcr1
    replace fcr2 : v1.frozen? ⟨w.heap.size + 1 + 1, 2, none⟩ = false := (hb.frozen (p := ⟨w.heap.size + 1 + 1, 2, none⟩) zcr).trans fcr2
    replace fcr3 : v1.frozen? ⟨w.heap.size + 1 + 1, 3, none⟩ = false := (hb.frozen (p := ⟨w.heap.size + 1 + 1, 3, none⟩) zcr).trans fcr3
    replace fcr4 : v1.frozen? ⟨w.heap.size + 1 + 1, 4, none⟩ = false := (hb.frozen (p := ⟨w.heap.size + 1 + 1, 4, none⟩) zcr).trans fcr4
    replace zcr : w.heap.size + 1 + 1 < v1.heap.size := Nat.lt_of_lt_of_le zcr hb.size
    replace HB := hide (HB.out.trans (hb.mono HB.out.size))
    clear hb
    clear hat
    go_wp2
    refine bodyPost_ret (v := .tuple #[slot sl0, .bool false]) (by simp [results, Tryz.results44, go_sem, cr0, cr1, cr2, cr3, cr4]) rfl ⟨by rw [HM.out, HE.out], below_set5 (s := sl0) HB.out (by omega)⟩
  · skip
    have HM := hide (getL_no (l := l) (a := a) (p := p) (by rw [hE]))
    have HE := hide hE
    rw [hE] at hat
    clear hE
    go_enter Tryz.func44, Tryz.ntmps44
    go_wp2_with fail
    refine (hat).mono ?_
    rintro e v1 ⟨rfl, hb⟩
    replace ct0 : v1.cell? ⟨w.heap.size, 0, none⟩ = some (.slice (some ⟨b, off, none⟩) l.length c) := (hb.cell (p := ⟨w.heap.size, 0, none⟩) zct).trans ct0
    replace zct : w.heap.size < v1.heap.size := Nat.lt_of_lt_of_le zct hb.size
    replace cf0 : v1.cell? ⟨w.heap.size + 1, 0, none⟩ = some (.int .i64 a) := (hb.cell (p := ⟨w.heap.size + 1, 0, none⟩) zcf).trans cf0
    replace cf1 : v1.cell? ⟨w.heap.size + 1, 1, none⟩ = some (.int .i64 p) := (hb.cell (p := ⟨w.heap.size + 1, 1, none⟩) zcf).trans cf1
    replace zcf : w.heap.size + 1 < v1.heap.size := Nat.lt_of_lt_of_le zcf hb.size
    replace cr0 : v1.cell? ⟨w.heap.size + 1 + 1, 0, none⟩ = some (.bool false) := (hb.cell (p := ⟨w.heap.size + 1 + 1, 0, none⟩) zcr).trans cr0
    replace cr1 : v1.cell? ⟨w.heap.size + 1 + 1, 1, none⟩ = some (.int .i64 0) := (hb.cell (p := ⟨w.heap.size + 1 + 1, 1, none⟩) zcr).trans cr1
    replace cr2 : v1.cell? ⟨w.heap.size + 1 + 1, 2, none⟩ = some (.int .i64 0) := (hb.cell (p := ⟨w.heap.size + 1 + 1, 2, none⟩) zcr).trans cr2
    replace cr3 : v1.cell? ⟨w.heap.size + 1 + 1, 3, none⟩ = some (.int .i64 0) := (hb.cell (p := ⟨w.heap.size + 1 + 1, 3, none⟩) zcr).trans cr3
    replace cr4 : v1.cell? ⟨w.heap.size + 1 + 1, 4, none⟩ = some (.int .i64 0) := (hb.cell (p := ⟨w.heap.size + 1 + 1, 4, none⟩) zcr).trans cr4
    replace fcr0 : v1.frozen? ⟨w.heap.size + 1 + 1, 0, none⟩ = false := (hb.frozen (p := ⟨w.heap.size + 1 + 1, 0, none⟩) zcr).trans fcr0
    replace fcr1 : v1.frozen? ⟨w.heap.size + 1 + 1, 1, none⟩ = false := (hb.frozen (p := ⟨w.heap.size + 1 + 1, 1, none⟩) zcr).trans fcr1
    replace fcr2 : v1.frozen? ⟨w.heap.size + 1 + 1, 2, none⟩ = false := (hb.frozen (p := ⟨w.heap.size + 1 + 1, 2, none⟩) zcr).trans fcr2
    replace fcr3 : v1.frozen? ⟨w.heap.size + 1 + 1, 3, none⟩ = false := (hb.frozen (p := ⟨w.heap.size + 1 + 1, 3, none⟩) zcr).trans fcr3
    replace fcr4 : v1.frozen? ⟨w.heap.size + 1 + 1, 4, none⟩ = false := (hb.frozen (p := ⟨w.heap.size + 1 + 1, 4, none⟩) zcr).trans fcr4
    replace zcr : w.heap.size + 1 + 1 < v1.heap.size := Nat.lt_of_lt_of_le zcr hb.size
    replace HB := hide (HB.out.trans (hb.mono HB.out.size))
    clear hb
    clear hat
    go_wp2
    refine bodyPost_ret (v := .tuple #[slot sl0, .bool false]) (by simp [results, Tryz.results44, go_sem, cr0, cr1, cr2, cr3, cr4]) rfl ⟨by rw [HM.out, HE.out], below_set5 (s := sl0) HB.out (by omega)⟩
  · skip
    have HM := hide (getL_yes hE)
    have HE := hide hE
    rw [hE] at hat
    clear hE
    have hcx := RdL.slot (C := w.heap.size) HC.out k hk
    obtain ⟨s, hxy⟩ : ∃ s, l.getD k sl0 = s := ⟨_, rfl⟩
    rw [hxy] at hcx HM
    clear hxy
    have hk' : (k : Int) < (l.length : Int) := by omega
    go_enter Tryz.func44, Tryz.ntmps44
    go_wp2_with fail
    refine (hat).mono ?_
    rintro e v1 ⟨rfl, hb⟩
    replace ct0 : v1.cell? ⟨w.heap.size, 0, none⟩ = some (.slice (some ⟨b, off, none⟩) l.length c) := (hb.cell (p := ⟨w.heap.size, 0, none⟩) zct).trans ct0
    replace zct : w.heap.size < v1.heap.size := Nat.lt_of_lt_of_le zct hb.size
    replace cf0 : v1.cell? ⟨w.heap.size + 1, 0, none⟩ = some (.int .i64 a) := (hb.cell (p := ⟨w.heap.size + 1, 0, none⟩) zcf).trans cf0
    replace cf1 : v1.cell? ⟨w.heap.size + 1, 1, none⟩ = some (.int .i64 p) := (hb.cell (p := ⟨w.heap.size + 1, 1, none⟩) zcf).trans cf1
    replace zcf : w.heap.size + 1 < v1.heap.size := Nat.lt_of_lt_of_le zcf hb.size
    replace cr0 : v1.cell? ⟨w.heap.size + 1 + 1, 0, none⟩ = some (.bool false) := (hb.cell (p := ⟨w.heap.size + 1 + 1, 0, none⟩) zcr).trans cr0
    replace cr1 : v1.cell? ⟨w.heap.size + 1 + 1, 1, none⟩ = some (.int .i64 0) := (hb.cell (p := ⟨w.heap.size + 1 + 1, 1, none⟩) zcr).trans cr1
    replace cr2 : v1.cell? ⟨w.heap.size + 1 + 1, 2, none⟩ = some (.int .i64 0) := (hb.cell (p := ⟨w.heap.size + 1 + 1, 2, none⟩) zcr).trans cr2
    replace cr3 : v1.cell? ⟨w.heap.size + 1 + 1, 3, none⟩ = some (.int .i64 0) := (hb.cell (p := ⟨w.heap.size + 1 + 1, 3, none⟩) zcr).trans cr3
    replace cr4 : v1.cell? ⟨w.heap.size + 1 + 1, 4, none⟩ = some (.int .i64 0) := (hb.cell (p := ⟨w.heap.size + 1 + 1, 4, none⟩) zcr).trans cr4
    replace fcr0 : v1.frozen? ⟨w.heap.size + 1 + 1, 0, none⟩ = false := (hb.frozen (p := ⟨w.heap.size + 1 + 1, 0, none⟩) zcr).trans fcr0
    replace fcr1 : v1.frozen? ⟨w.heap.size + 1 + 1, 1, none⟩ = false := (hb.frozen (p := ⟨w.heap.size + 1 + 1, 1, none⟩) zcr).trans fcr1
    replace fcr2 : v1.frozen? ⟨w.heap.size + 1 + 1, 2, none⟩ = false := (hb.frozen (p := ⟨w.heap.size + 1 + 1, 2, none⟩) zcr).trans fcr2
    replace fcr3 : v1.frozen? ⟨w.heap.size + 1 + 1, 3, none⟩ = false := (hb.frozen (p := ⟨w.heap.size + 1 + 1, 3, none⟩) zcr).trans fcr3
    replace fcr4 : v1.frozen? ⟨w.heap.size + 1 + 1, 4, none⟩ = false := (hb.frozen (p := ⟨w.heap.size + 1 + 1, 4, none⟩) zcr).trans fcr4
    replace zcr : w.heap.size + 1 + 1 < v1.heap.size := Nat.lt_of_lt_of_le zcr hb.size
    replace HB := hide (HB.out.trans (hb.mono HB.out.size))
    clear hb
    have e0 := (HB.out.cell (p := ⟨b, off + k * 5, none⟩) hbl).trans hcx.1
    have e1 := (HB.out.cell (p := ⟨b, off + k * 5 + 1, none⟩) hbl).trans hcx.2.1
    have e2 := (HB.out.cell (p := ⟨b, off + k * 5 + 2, none⟩) hbl).trans hcx.2.2.1
    have e3 := (HB.out.cell (p := ⟨b, off + k * 5 + 3, none⟩) hbl).trans hcx.2.2.2.1
    have e4 := (HB.out.cell (p := ⟨b, off + k * 5 + 4, none⟩) hbl).trans hcx.2.2.2.2
    clear hat hcx
    go_wp2
    refine bodyPost_ret (v := .tuple #[slot s, .bool true]) (by simp [results, Tryz.results44, go_sem, cr0, cr1, cr2, cr3, cr4]) rfl ⟨by rw [HM.out, HE.out], below_set5 (s := s) HB.out (by omega)⟩

set_option maxHeartbeats 2000000 in
theorem get_any (b off c : Nat) (l : List Sl) (a p : Int) (w : World) (hn : 0 < l.length) (hl : l.length ≤ 1048576) (hf : flowOkB a p = true) (hbl : b < w.heap.size) (hc : ∀ i, i < l.length → ∀ j, j < layS.k → w.cell? ⟨b, off + i * layS.k + j, none⟩ = (layS.cs (l.getD i layS.d))[j]?) :
    Calls Tryz.prog 105 #[tab (.slice (some ⟨b, off, none⟩) l.length c), flow a p] w fun e w' => e = .returned (.tuple #[slot (getL l a p), .bool (endL l a p).2]) ∧ Below w.heap.size w w' := by
  have HC := hide hc
  clear hc
  obtain ⟨W0, hW0⟩ : ∃ W, (((w.alloc (.cells #[.slice (some ⟨b, off, none⟩) l.length c] 69)).alloc (.cells #[.int .i64 a, .int .i64 p] 45)).alloc (.cells #[.bool false, .int .i64 0, .int .i64 0, .int .i64 0, .int .i64 0] 132)) = W := ⟨_, rfl⟩
  have hb_W0 : Below w.heap.size w W0 := by rw [← hW0]; exact ((((Below.refl _ _).alloc (Nat.le_refl _) _).alloc (by simp <;> omega) _).alloc (by simp <;> omega) _)
  have HB := hide hb_W0
  clear hb_W0
  have zct : w.heap.size < W0.heap.size := by rw [← hW0]; simp <;> omega
  have ct0 : W0.cell? ⟨w.heap.size, 0, none⟩ = some (.slice (some ⟨b, off, none⟩) l.length c) := by rw [← hW0]; simp [go_sem]
  have zcf : w.heap.size + 1 < W0.heap.size := by rw [← hW0]; simp <;> omega
  have cf0 : W0.cell? ⟨w.heap.size + 1, 0, none⟩ = some (.int .i64 a) := by rw [← hW0]; simp [go_sem]
  have cf1 : W0.cell? ⟨w.heap.size + 1, 1, none⟩ = some (.int .i64 p) := by rw [← hW0]; simp [go_sem]
  have zcr : w.heap.size + 1 + 1 < W0.heap.size := by rw [← hW0]; simp
  have cr0 : W0.cell? ⟨w.heap.size + 1 + 1, 0, none⟩ = some (.bool false) := by rw [← hW0]; simp [go_sem]
  have cr1 : W0.cell? ⟨w.heap.size + 1 + 1, 1, none⟩ = some (.int .i64 0) := by rw [← hW0]; simp [go_sem]
  have cr2 : W0.cell? ⟨w.heap.size + 1 + 1, 2, none⟩ = some (.int .i64 0) := by rw [← hW0]; simp [go_sem]
  have cr3 : W0.cell? ⟨w.heap.size + 1 + 1, 3, none⟩ = some (.int .i64 0) := by rw [← hW0]; simp [go_sem]
  have cr4 : W0.cell? ⟨w.heap.size + 1 + 1, 4, none⟩ = some (.int .i64 0) := by rw [← hW0]; simp [go_sem]
  have fcr0 : W0.frozen? ⟨w.heap.size + 1 + 1, 0, none⟩ = false := by rw [← hW0]; simp [go_sem]
  have fcr1 : W0.frozen? ⟨w.heap.size + 1 + 1, 1, none⟩ = false := by rw [← hW0]; simp [go_sem]
  have fcr2 : W0.frozen? ⟨w.heap.size + 1 + 1, 2, none⟩ = false := by rw [← hW0]; simp [go_sem]
  have fcr3 : W0.frozen? ⟨w.heap.size + 1 + 1, 3, none⟩ = false := by rw [← hW0]; simp [go_sem]
  have fcr4 : W0.frozen? ⟨w.heap.size + 1 + 1, 4, none⟩ = false := by rw [← hW0]; simp [go_sem]
  have hat := endOfWay_any b off c l a p W0 hn hl hf (Nat.lt_of_lt_of_le hbl HB.out.size) (fun i hi j hj => (HB.out.cell (p := ⟨b, off + i * layS.k + j, none⟩) hbl).trans (HC.out i hi j hj))
  rcases endL_cases l hn a p with hE | ⟨k, hk, ⟨hE, _⟩ | ⟨hE, _⟩⟩
  · skip
    have HM := hide (getL_no (l := l) (a := a) (p := p) (by rw [hE]))
    have HE := hide hE
    rw [hE] at hat
    clear hE
    go_enter Tryz.func105, Tryz.ntmps105
    go_wp2_with fail
    refine (hat).mono ?_
    rintro e v1 ⟨rfl, hb⟩
    replace ct0 : v1.cell? ⟨w.heap.size, 0, none⟩ = some (.slice (some ⟨b, off, none⟩) l.length c) := (hb.cell (p := ⟨w.heap.size, 0, none⟩) zct).trans ct0
    replace zct : w.heap.size < v1.heap.size := Nat.lt_of_lt_of_le zct hb.size
    replace cf0 : v1.cell? ⟨w.heap.size + 1, 0, none⟩ = some (.int .i64 a) := (hb.cell (p := ⟨w.heap.size + 1, 0, none⟩) zcf).trans cf0
    replace cf1 : v1.cell? ⟨w.heap.size + 1, 1, none⟩ = some (.int .i64 p) := (hb.cell (p := ⟨w.heap.size + 1, 1, none⟩) zcf).trans cf1
    replace zcf : w.heap.size + 1 < v1.heap.size := Nat.lt_of_lt_of_le zcf hb.size
    replace cr0 : v1.cell? ⟨w.heap.size + 1 + 1, 0, none⟩ = some (.bool false) := (hb.cell (p := ⟨w.heap.size + 1 + 1, 0, none⟩) zcr).trans cr0
    replace cr1 : v1.cell? ⟨w.heap.size + 1 + 1, 1, none⟩ = some (.int .i64 0) := (hb.cell (p := ⟨w.heap.size + 1 + 1, 1, none⟩) zcr).trans cr1
    replace cr2 : v1.cell? ⟨w.heap.size + 1 + 1, 2, none⟩ = some (.int .i64 0) := (hb.cell (p := ⟨w.heap.size + 1 + 1, 2, none⟩) zcr).trans cr2
    replace cr3 : v1.cell? ⟨w.heap.size + 1 + 1, 3, none⟩ = some (.int .i64 0) := (hb.cell (p := ⟨w.heap.size + 1 + 1, 3, none⟩) zcr).trans cr3
    replace cr4 : v1.cell? ⟨w.heap.size + 1 + 1, 4, none⟩ = some (.int .i64 0) := (hb.cell (p := ⟨w.heap.size + 1 + 1, 4, none⟩) zcr).trans cr4
    replace fcr0 : v1.frozen? ⟨w.heap.size + 1 + 1, 0, none⟩ = false := (hb.frozen (p := ⟨w.heap.size + 1 + 1, 0, none⟩) zcr).trans fcr0
    replace fcr1 : v1.frozen? ⟨w.heap.size + 1 + 1, 1, none⟩ = false := (hb.frozen (p := ⟨w.heap.size + 1 + 1, 1, none⟩) zcr).trans fcr1
    replace fcr2 : v1.frozen? ⟨w.heap.size + 1 + 1, 2, none⟩ = false := (hb.frozen (p := ⟨w.heap.size + 1 + 1, 2, none⟩) zcr).trans fcr2
    replace fcr3 : v1.frozen? ⟨w.heap.size + 1 + 1, 3, none⟩ = false := (hb.frozen (p := ⟨w.heap.size + 1 + 1, 3, none⟩) zcr).trans fcr3
    replace fcr4 : v1.frozen? ⟨w.heap.size + 1 + 1, 4, none⟩ = false := (hb.frozen (p := ⟨w.heap.size + 1 + 1, 4, none⟩) zcr).trans fcr4
    replace zcr : w.heap.size + 1 + 1 < v1.heap.size := Nat.lt_of_lt_of_le zcr hb.size
    replace HB := hide (HB.out.trans (hb.mono HB.out.size))
    clear hb
    clear hat
    go_wp2
    refine bodyPost_ret (v := .tuple #[slot sl0, .bool false]) (by simp [results, Tryz.results105, go_sem, cr0, cr1, cr2, cr3, cr4]) rfl ⟨by rw [HM.out, HE.out], below_set5 (s := sl0) HB.out (by omega)⟩
  · skip
    have HM := hide (getL_no (l := l) (a := a) (p := p) (by rw [hE]))
    have HE := hide hE
    rw [hE] at hat
    clear hE
    go_enter Tryz.func105, Tryz.ntmps105
    go_wp2_with fail
    refine (hat).mono ?_
    rintro e v1 ⟨rfl, hb⟩
    replace ct0 : v1.cell? ⟨w.heap.size, 0, none⟩ = some (.slice (some ⟨b, off, none⟩) l.length c) := (hb.cell (p := ⟨w.heap.size, 0, none⟩) zct).trans ct0
    replace zct : w.heap.size < v1.heap.size := Nat.lt_of_lt_of_le zct hb.size
    replace cf0 : v1.cell? ⟨w.heap.size + 1, 0, none⟩ = some (.int .i64 a) := (hb.cell (p := ⟨w.heap.size + 1, 0, none⟩) zcf).trans cf0
    replace cf1 : v1.cell? ⟨w.heap.size + 1, 1, none⟩ = some (.int .i64 p) := (hb.cell (p := ⟨w.heap.size + 1, 1, none⟩) zcf).trans cf1
    replace zcf : w.heap.size + 1 < v1.heap.size := Nat.lt_of_lt_of_le zcf hb.size
    replace cr0 : v1.cell? ⟨w.heap.size + 1 + 1, 0, none⟩ = some (.bool false) := (hb.cell (p := ⟨w.heap.size + 1 + 1, 0, none⟩) zcr).trans cr0
    replace cr1 : v1.cell? ⟨w.heap.size + 1 + 1, 1, none⟩ = some (.int .i64 0) := (hb.cell (p := ⟨w.heap.size + 1 + 1, 1, none⟩) zcr).trans cr1
    replace cr2 : v1.cell? ⟨w.heap.size + 1 + 1, 2, none⟩ = some (.int .i64 0) := (hb.cell (p := ⟨w.heap.size + 1 + 1, 2, none⟩) zcr).trans cr2
    replace cr3 : v1.cell? ⟨w.heap.size + 1 + 1, 3, none⟩ = some (.int .i64 0) := (hb.cell (p := ⟨w.heap.size + 1 + 1, 3, none⟩) zcr).trans cr3
    replace cr4 : v1.cell? ⟨w.heap.size + 1 + 1, 4, none⟩ = some (.int .i64 0) := (hb.cell (p := ⟨w.heap.size + 1 + 1, 4, none⟩) zcr).trans cr4
    replace fcr0 : v1.frozen? ⟨w.heap.size + 1 + 1, 0, none⟩ = false := (hb.frozen (p := ⟨w.heap.size + 1 + 1, 0, none⟩) zcr).trans fcr0
    replace fcr1 : v1.frozen? ⟨w.heap.size + 1 + 1, 1, none⟩ = false := (hb.frozen (p := ⟨w.heap.size + 1 + 1, 1, none⟩) zcr).trans fcr1
    replace fcr2 : v1.frozen? ⟨w.heap.size + 1 + 1, 2, none⟩ = false := (hb.frozen (p := ⟨w.heap.size + 1 + 1, 2, none⟩) zcr).trans fcr2
    replace fcr3 : v1.frozen? ⟨w.heap.size + 1 + 1, 3, none⟩ = false := (hb.frozen (p := ⟨w.heap.size + 1 + 1, 3, none⟩) zcr).trans fcr3
    replace fcr4 : v1.frozen? ⟨w.heap.size + 1 + 1, 4, none⟩ = false := (hb.frozen (p := ⟨w.heap.size + 1 + 1, 4, none⟩) zcr).trans fcr4
    replace zcr : w.heap.size + 1 + 1 < v1.heap.size := Nat.lt_of_lt_of_le zcr hb.size
    replace HB := hide (HB.out.trans (hb.mono HB.out.size))
    clear hb
    clear hat
    go_wp2
    refine bodyPost_ret (v := .tuple #[slot sl0, .bool false]) (by simp [results, Tryz.results105, go_sem, cr0, cr1, cr2, cr3, cr4]) rfl ⟨by rw [HM.out, HE.out], below_set5 (s := sl0) HB.out (by omega)⟩
  · skip
    have HM := hide (getL_yes hE)
    have HE := hide hE
    rw [hE] at hat
    clear hE
    have hcx := RdL.slot (C := w.heap.size) HC.out k hk
    obtain ⟨s, hxy⟩ : ∃ s, l.getD k sl0 = s := ⟨_, rfl⟩
    rw [hxy] at hcx HM
    clear hxy
    have hk' : (k : Int) < (l.length : Int) := by omega
    go_enter Tryz.func105, Tryz.ntmps105
    go_wp2_with fail
    refine (hat).mono ?_
    rintro e v1 ⟨rfl, hb⟩
    replace ct0 : v1.cell? ⟨w.heap.size, 0, none⟩ = some (.slice (some ⟨b, off, none⟩) l.length c) := (hb.cell (p := ⟨w.heap.size, 0, none⟩) zct).trans ct0
    replace zct : w.heap.size < v1.heap.size := Nat.lt_of_lt_of_le zct hb.size
    replace cf0 : v1.cell? ⟨w.heap.size + 1, 0, none⟩ = some (.int .i64 a) := (hb.cell (p := ⟨w.heap.size + 1, 0, none⟩) zcf).trans cf0
    replace cf1 : v1.cell? ⟨w.heap.size + 1, 1, none⟩ = some (.int .i64 p) := (hb.cell (p := ⟨w.heap.size + 1, 1, none⟩) zcf).trans cf1
    replace zcf : w.heap.size + 1 < v1.heap.size := Nat.lt_of_lt_of_le zcf hb.size
    replace cr0 : v1.cell? ⟨w.heap.size + 1 + 1, 0, none⟩ = some (.bool false) := (hb.cell (p := ⟨w.heap.size + 1 + 1, 0, none⟩) zcr).trans cr0
    replace cr1 : v1.cell? ⟨w.heap.size + 1 + 1, 1, none⟩ = some (.int .i64 0) := (hb.cell (p := ⟨w.heap.size + 1 + 1, 1, none⟩) zcr).trans cr1
    replace cr2 : v1.cell? ⟨w.heap.size + 1 + 1, 2, none⟩ = some (.int .i64 0) := (hb.cell (p := ⟨w.heap.size + 1 + 1, 2, none⟩) zcr).trans cr2
    replace cr3 : v1.cell? ⟨w.heap.size + 1 + 1, 3, none⟩ = some (.int .i64 0) := (hb.cell (p := ⟨w.heap.size + 1 + 1, 3, none⟩) zcr).trans cr3
    replace cr4 : v1.cell? ⟨w.heap.size + 1 + 1, 4, none⟩ = some (.int .i64 0) := (hb.cell (p := ⟨w.heap.size + 1 + 1, 4, none⟩) zcr).trans cr4
    replace fcr0 : v1.frozen? ⟨w.heap.size + 1 + 1, 0, none⟩ = false := (hb.frozen (p := ⟨w.heap.size + 1 + 1, 0, none⟩) zcr).trans fcr0
    replace fcr1 : v1.frozen? ⟨w.heap.size + 1 + 1, 1, none⟩ = false := (hb.frozen (p := ⟨w.heap.size + 1 + 1, 1, none⟩) zcr).trans fcr1
    replace fcr2 : v1.frozen? ⟨w.heap.size + 1 + 1, 2, none⟩ = false := (hb.frozen (p := ⟨w.heap.size + 1 + 1, 2, none⟩) zcr).trans fcr2
    replace fcr3 : v1.frozen? ⟨w.heap.size + 1 + 1, 3, none⟩ = false := (hb.frozen (p := ⟨w.heap.size + 1 + 1, 3, none⟩) zcr).trans fcr3
    replace fcr4 : v1.frozen? ⟨w.heap.size + 1 + 1, 4, none⟩ = false := (hb.frozen (p := ⟨w.heap.size + 1 + 1, 4, none⟩) zcr).trans fcr4
    replace zcr : w.heap.size + 1 + 1 < v1.heap.size := Nat.lt_of_lt_of_le zcr hb.size
    replace HB := hide (HB.out.trans (hb.mono HB.out.size))
    clear hb
    have e0 := (HB.out.cell (p := ⟨b, off + k * 5, none⟩) hbl).trans hcx.1
    have e1 := (HB.out.cell (p := ⟨b, off + k * 5 + 1, none⟩) hbl).trans hcx.2.1
    have e2 := (HB.out.cell (p := ⟨b, off + k * 5 + 2, none⟩) hbl).trans hcx.2.2.1
    have e3 := (HB.out.cell (p := ⟨b, off + k * 5 + 3, none⟩) hbl).trans hcx.2.2.2.1
    have e4 := (HB.out.cell (p := ⟨b, off + k * 5 + 4, none⟩) hbl).trans hcx.2.2.2.2
    clear hat hcx
    go_wp2
    refine bodyPost_ret (v := .tuple #[slot s, .bool true]) (by simp [results, Tryz.results105, go_sem, cr0, cr1, cr2, cr3, cr4]) rfl ⟨by rw [HM.out, HE.out], below_set5 (s := s) HB.out (by omega)⟩

def getM (l : List Sl) (a p : Int) : Sl := if (tableOkB l && flowOkB a p) = true then getL l a p else sl0
def gotB (l : List Sl) (a p : Int) : Bool := if (tableOkB l && flowOkB a p) = true then (endL l a p).2 else false
end Go.Proofs.YtmkgbmmibjgeaaaGreat

/- A store into a box: what lies elsewhere is as it was. -/
namespace Go.Proofs.YtmkgbmmibjgeaaaGreat
open Go.ChangeShapes Go.WideShapes Go.ChangeAt Go.RowKit Go.Joins
set_option linter.unusedVariables false
set_option linter.unusedSimpArgs false

theorem set5_cell {W : World} {B b j : Nat} {u : Value} (s : Sl) (h : W.cell? ⟨b, j, none⟩ = some u) (hb : b < B) :
    (((((W.setCell ⟨B, 0, none⟩ (.bool s.u)).setCell ⟨B, 1, none⟩ (.int .i64 s.a)).setCell ⟨B, 2, none⟩ (.int .i64 s.p)).setCell ⟨B, 3, none⟩ (.int .i64 s.v)).setCell ⟨B, 4, none⟩ (.int .i64 s.t)).cell? ⟨b, j, none⟩ = some u :=
  ((below_set5 (s := s) (Below.refl B W) (Nat.le_refl _)).cell (p := ⟨b, j, none⟩) hb).trans h
theorem set1_cell {W : World} {B b j : Nat} {u v : Value} (h : W.cell? ⟨b, j, none⟩ = some u) (hb : b < B) : (W.setCell ⟨B, 0, none⟩ v).cell? ⟨b, j, none⟩ = some u :=
  (((Below.refl B W).setCell (p := ⟨B, 0, none⟩) (Nat.le_refl _) v).cell (p := ⟨b, j, none⟩) hb).trans h
theorem stp_set (W : World) (B j : Nat) (v : Value) : Stp B (B + 1) W (W.setCell ⟨B, j, none⟩ v) := by
  have h := (Below.refl B W).setCell (p := ⟨B, j, none⟩) (Nat.le_refl _) v
  exact ⟨h.os, h.tape, h.output, h.size, fun k hk hn => Below.heap_setCell W ⟨B, j, none⟩ v k (by simp; omega)⟩
theorem box_new0 {w new : World} {c : Array Value} {T : TypeId} (hb : Below ((w.alloc (.cells c T)).drew).heap.size (w.alloc (.cells c T)).drew new) : new.heap[w.heap.size]? = some (.cells c T (0, 0)) := by
  have h1 := hb.block w.heap.size (by simp)
  have h2 : (w.alloc (.cells c T)).drew.heap[w.heap.size]? = (w.alloc (.cells c T)).heap[w.heap.size]? := rfl
  exact h1.trans (h2.trans (World.alloc_heap_new w (.cells c T)))
theorem box_new1 {w new : World} {c : Array Value} {T : TypeId} (hb : Below (w.alloc (.cells c T)).heap.size (w.alloc (.cells c T)) new) : new.heap[w.heap.size]? = some (.cells c T (0, 0)) :=
  (hb.block w.heap.size (by simp)).trans (World.alloc_heap_new w (.cells c T))
theorem zero_slot {w : World} {B : Nat} {T : TypeId} (h : w.heap[B]? = some (.cells #[.bool false, .int .i64 0, .int .i64 0, .int .i64 0, .int .i64 0] T (0, 0))) : w.heap[B]? = some (.cells (slotCells sl0) T (0, 0)) := h
theorem InT.opn {lo hi : Nat} {w : World} {v : Value} {m : List Sl} (h : InT lo hi w v m) : ∃ (o : Option Addr) (c : Nat), v = tab (.slice o m.length c) := by
  obtain ⟨vl, rfl, o, c, rfl, _⟩ := h.rd
  exact ⟨o, c, rfl⟩
theorem fin5 {cur W : World} {B : Nat} {T : TypeId} (q : Sl) (t : Bool) (hZ : W.heap[B]? = some (.cells (slotCells sl0) T (0, 0))) (hx : Below cur.heap.size cur W) (hB : cur.heap.size ≤ B) :
    ∃ B', Value.pointer (some ⟨B, 0, none⟩) = .pointer (some ⟨B', 0, none⟩) ∧ Value.bool t = .bool t ∧ Hid ((((((W.setCell ⟨B, 0, none⟩ (.bool q.u)).setCell ⟨B, 1, none⟩ (.int .i64 q.a)).setCell ⟨B, 2, none⟩ (.int .i64 q.p)).setCell ⟨B, 3, none⟩ (.int .i64 q.v)).setCell ⟨B, 4, none⟩ (.int .i64 q.t)).heap[B']? = some (.cells (slotCells q) T (0, 0))) ∧ Hid (Below cur.heap.size cur (((((W.setCell ⟨B, 0, none⟩ (.bool q.u)).setCell ⟨B, 1, none⟩ (.int .i64 q.a)).setCell ⟨B, 2, none⟩ (.int .i64 q.p)).setCell ⟨B, 3, none⟩ (.int .i64 q.v)).setCell ⟨B, 4, none⟩ (.int .i64 q.t))) ∧ cur.heap.size ≤ B' ∧ B' < (((((W.setCell ⟨B, 0, none⟩ (.bool q.u)).setCell ⟨B, 1, none⟩ (.int .i64 q.a)).setCell ⟨B, 2, none⟩ (.int .i64 q.p)).setCell ⟨B, 3, none⟩ (.int .i64 q.v)).setCell ⟨B, 4, none⟩ (.int .i64 q.t)).heap.size := by
  refine ⟨B, rfl, rfl, box_set5 (s := q) hZ, below_set5 (s := q) hx hB, hB, ?_⟩
  simpa using (Array.getElem?_eq_some_iff.1 hZ).1
theorem fin5n {cur W : World} {T : TypeId} (q : Sl) (t : Bool) (hx : Below cur.heap.size cur W) :
    ∃ B', Value.pointer (some ⟨W.heap.size, 0, none⟩) = .pointer (some ⟨B', 0, none⟩) ∧ Value.bool t = .bool t ∧ Hid ((W.alloc (.cells #[.bool q.u, .int .i64 q.a, .int .i64 q.p, .int .i64 q.v, .int .i64 q.t] T)).heap[B']? = some (.cells (slotCells q) T (0, 0))) ∧ Hid (Below cur.heap.size cur (W.alloc (.cells #[.bool q.u, .int .i64 q.a, .int .i64 q.p, .int .i64 q.v, .int .i64 q.t] T))) ∧ cur.heap.size ≤ B' ∧ B' < (W.alloc (.cells #[.bool q.u, .int .i64 q.a, .int .i64 q.p, .int .i64 q.v, .int .i64 q.t] T)).heap.size :=
  ⟨W.heap.size, rfl, rfl, World.alloc_heap_new W _, hx.alloc hx.size _, hx.size, by simp⟩
theorem finT {cur W : World} {B lo hi : Nat} {T : TypeId} {f : Value} {mr : List Sl} {o : Option Addr} {c : Nat} {z : Value} (hZ : W.heap[B]? = some (.cells #[z] T (0, 0))) (hx : Below cur.heap.size cur W) (hB : cur.heap.size ≤ B) (hi' : InT lo hi W (tab (.slice o mr.length c)) mr) (h1 : cur.heap.size ≤ lo) (h2 : hi ≤ W.heap.size) (h3 : B < lo ∨ hi ≤ B) :
    ∃ B' lo hi o' c', Value.pointer (some ⟨B, 0, none⟩) = .pointer (some ⟨B', 0, none⟩) ∧ f = f ∧ Hid ((W.setCell ⟨B, 0, none⟩ (.slice o mr.length c)).heap[B']? = some (.cells #[.slice o' mr.length c'] T (0, 0))) ∧ Hid (Below cur.heap.size cur (W.setCell ⟨B, 0, none⟩ (.slice o mr.length c))) ∧ cur.heap.size ≤ B' ∧ B' < (W.setCell ⟨B, 0, none⟩ (.slice o mr.length c)).heap.size ∧ Hid (InT lo hi (W.setCell ⟨B, 0, none⟩ (.slice o mr.length c)) (tab (.slice o' mr.length c')) mr) ∧ cur.heap.size ≤ lo ∧ hi ≤ (W.setCell ⟨B, 0, none⟩ (.slice o mr.length c)).heap.size ∧ (B' < lo ∨ hi ≤ B') := by
  refine ⟨B, lo, hi, o, c, rfl, rfl, box_set1 W B 0 _ _ _ hZ, hx.setCell (p := ⟨B, 0, none⟩) hB _, hB, ?_, InT.step hi' (stp_set W B 0 _) (by omega), h1, by simpa using h2, h3⟩
  simpa using (Array.getElem?_eq_some_iff.1 hZ).1
theorem finTn {cur W : World} {lo hi : Nat} {T : TypeId} {f : Value} {mr : List Sl} {o : Option Addr} {c : Nat} (hx : Below cur.heap.size cur W) (hi' : InT lo hi W (tab (.slice o mr.length c)) mr) (h1 : cur.heap.size ≤ lo) (h2 : hi ≤ W.heap.size) :
    ∃ B' lo hi o' c', Value.pointer (some ⟨W.heap.size, 0, none⟩) = .pointer (some ⟨B', 0, none⟩) ∧ f = f ∧ Hid ((W.alloc (.cells #[.slice o mr.length c] T)).heap[B']? = some (.cells #[.slice o' mr.length c'] T (0, 0))) ∧ Hid (Below cur.heap.size cur (W.alloc (.cells #[.slice o mr.length c] T))) ∧ cur.heap.size ≤ B' ∧ B' < (W.alloc (.cells #[.slice o mr.length c] T)).heap.size ∧ Hid (InT lo hi (W.alloc (.cells #[.slice o mr.length c] T)) (tab (.slice o' mr.length c')) mr) ∧ cur.heap.size ≤ lo ∧ hi ≤ (W.alloc (.cells #[.slice o mr.length c] T)).heap.size ∧ (B' < lo ∨ hi ≤ B') :=
  ⟨W.heap.size, lo, hi, o, c, rfl, rfl, World.alloc_heap_new W _, hx.alloc hx.size _, hx.size, by simp, InT.step hi' (Stp.of (lo := 0) (hi := 0) ((Below.refl _ _).alloc (Nat.le_refl _) _)) (.inl (Nat.zero_le _)), h1, by simp; omega, .inr h2⟩

end Go.Proofs.YtmkgbmmibjgeaaaGreat

/- A box of an agent that is laid at any place among calls: what its end wants. -/
namespace Go.Proofs.YtmkgbmmibjgeaaaGreat
open Go.ChangeShapes Go.WideShapes Go.ChangeAt Go.RowKit Go.Joins
set_option linter.unusedVariables false
set_option linter.unusedSimpArgs false

theorem InA.opn {lo hi : Nat} {w : World} {v : Value} {m : Am} (h : InA lo hi w v m) : ∃ (oc : Option Addr) (cc : Nat) (ot : Option Addr) (ct : Nat), v = agt m.id m.lim m.dr (.slice oc m.c.length cc) (.slice ot m.t.length ct) := by
  obtain ⟨vc, vt, rfl, ⟨oc, cc, rfl, _⟩, ⟨ot, ct, rfl, _⟩⟩ := h.rd
  exact ⟨oc, cc, ot, ct, rfl⟩
theorem box_set5v {W : World} {B : Nat} {T : TypeId} {z0 z1 z2 z3 z4 : Value} (hZ : W.heap[B]? = some (.cells #[z0, z1, z2, z3, z4] T (0, 0))) (a b c d e : Value) :
    (((((W.setCell ⟨B, 0, none⟩ a).setCell ⟨B, 1, none⟩ b).setCell ⟨B, 2, none⟩ c).setCell ⟨B, 3, none⟩ d).setCell ⟨B, 4, none⟩ e).heap[B]? = some (.cells #[a, b, c, d, e] T (0, 0)) := by
  simp [World.setCell, Array.getElem?_modify, hZ]
theorem finA {cur W : World} {B lo hi : Nat} {T : TypeId} {f : Value} {mr : Am} {oc ot : Option Addr} {cc ct : Nat} {z0 z1 z2 z3 z4 : Value} (hZ : W.heap[B]? = some (.cells #[z0, z1, z2, z3, z4] T (0, 0))) (hx : Below cur.heap.size cur W) (hB : cur.heap.size ≤ B) (hi' : InA lo hi W (agt mr.id mr.lim mr.dr (.slice oc mr.c.length cc) (.slice ot mr.t.length ct)) mr) (h1 : cur.heap.size ≤ lo) (h2 : hi ≤ W.heap.size) (h3 : B < lo ∨ hi ≤ B) :
    ∃ B' lo hi oc' cc' ot' ct', Value.pointer (some ⟨B, 0, none⟩) = .pointer (some ⟨B', 0, none⟩) ∧ f = f ∧ Hid ((((((W.setCell ⟨B, 0, none⟩ (.int .i64 mr.id)).setCell ⟨B, 1, none⟩ (.int .i64 mr.lim)).setCell ⟨B, 2, none⟩ (.bool mr.dr)).setCell ⟨B, 3, none⟩ (.slice oc mr.c.length cc)).setCell ⟨B, 4, none⟩ (.slice ot mr.t.length ct)).heap[B']? = some (.cells #[.int .i64 mr.id, .int .i64 mr.lim, .bool mr.dr, .slice oc' mr.c.length cc', .slice ot' mr.t.length ct'] T (0, 0))) ∧ Hid (Below cur.heap.size cur (((((W.setCell ⟨B, 0, none⟩ (.int .i64 mr.id)).setCell ⟨B, 1, none⟩ (.int .i64 mr.lim)).setCell ⟨B, 2, none⟩ (.bool mr.dr)).setCell ⟨B, 3, none⟩ (.slice oc mr.c.length cc)).setCell ⟨B, 4, none⟩ (.slice ot mr.t.length ct))) ∧ cur.heap.size ≤ B' ∧ B' < (((((W.setCell ⟨B, 0, none⟩ (.int .i64 mr.id)).setCell ⟨B, 1, none⟩ (.int .i64 mr.lim)).setCell ⟨B, 2, none⟩ (.bool mr.dr)).setCell ⟨B, 3, none⟩ (.slice oc mr.c.length cc)).setCell ⟨B, 4, none⟩ (.slice ot mr.t.length ct)).heap.size ∧ Hid (InA lo hi (((((W.setCell ⟨B, 0, none⟩ (.int .i64 mr.id)).setCell ⟨B, 1, none⟩ (.int .i64 mr.lim)).setCell ⟨B, 2, none⟩ (.bool mr.dr)).setCell ⟨B, 3, none⟩ (.slice oc mr.c.length cc)).setCell ⟨B, 4, none⟩ (.slice ot mr.t.length ct)) (agt mr.id mr.lim mr.dr (.slice oc' mr.c.length cc') (.slice ot' mr.t.length ct')) mr) ∧ cur.heap.size ≤ lo ∧ hi ≤ (((((W.setCell ⟨B, 0, none⟩ (.int .i64 mr.id)).setCell ⟨B, 1, none⟩ (.int .i64 mr.lim)).setCell ⟨B, 2, none⟩ (.bool mr.dr)).setCell ⟨B, 3, none⟩ (.slice oc mr.c.length cc)).setCell ⟨B, 4, none⟩ (.slice ot mr.t.length ct)).heap.size ∧ (B' < lo ∨ hi ≤ B') := by
  refine ⟨B, lo, hi, oc, cc, ot, ct, rfl, rfl, box_set5v hZ _ _ _ _ _, below_set5v hx hB _ _ _ _ _, hB, ?_, InA.step hi' (stp_set5v W B _ _ _ _ _) (by omega), h1, by rw [set5v_size]; exact h2, h3⟩
  rw [set5v_size]
  exact (Array.getElem?_eq_some_iff.1 hZ).1
theorem finAn {cur W : World} {lo hi : Nat} {T : TypeId} {f : Value} {mr : Am} {oc ot : Option Addr} {cc ct : Nat} (hx : Below cur.heap.size cur W) (hi' : InA lo hi W (agt mr.id mr.lim mr.dr (.slice oc mr.c.length cc) (.slice ot mr.t.length ct)) mr) (h1 : cur.heap.size ≤ lo) (h2 : hi ≤ W.heap.size) :
    ∃ B' lo hi oc' cc' ot' ct', Value.pointer (some ⟨W.heap.size, 0, none⟩) = .pointer (some ⟨B', 0, none⟩) ∧ f = f ∧ Hid ((W.alloc (.cells #[.int .i64 mr.id, .int .i64 mr.lim, .bool mr.dr, .slice oc mr.c.length cc, .slice ot mr.t.length ct] T)).heap[B']? = some (.cells #[.int .i64 mr.id, .int .i64 mr.lim, .bool mr.dr, .slice oc' mr.c.length cc', .slice ot' mr.t.length ct'] T (0, 0))) ∧ Hid (Below cur.heap.size cur (W.alloc (.cells #[.int .i64 mr.id, .int .i64 mr.lim, .bool mr.dr, .slice oc mr.c.length cc, .slice ot mr.t.length ct] T))) ∧ cur.heap.size ≤ B' ∧ B' < (W.alloc (.cells #[.int .i64 mr.id, .int .i64 mr.lim, .bool mr.dr, .slice oc mr.c.length cc, .slice ot mr.t.length ct] T)).heap.size ∧ Hid (InA lo hi (W.alloc (.cells #[.int .i64 mr.id, .int .i64 mr.lim, .bool mr.dr, .slice oc mr.c.length cc, .slice ot mr.t.length ct] T)) (agt mr.id mr.lim mr.dr (.slice oc' mr.c.length cc') (.slice ot' mr.t.length ct')) mr) ∧ cur.heap.size ≤ lo ∧ hi ≤ (W.alloc (.cells #[.int .i64 mr.id, .int .i64 mr.lim, .bool mr.dr, .slice oc mr.c.length cc, .slice ot mr.t.length ct] T)).heap.size ∧ (B' < lo ∨ hi ≤ B') :=
  ⟨W.heap.size, lo, hi, oc, cc, ot, ct, rfl, rfl, World.alloc_heap_new W _, hx.alloc hx.size _, hx.size, by simp, InA.step hi' (Stp.of (lo := 0) (hi := 0) ((Below.refl _ _).alloc (Nat.le_refl _) _)) (.inl (Nat.zero_le _)), h1, by simp; omega, .inr h2⟩

end Go.Proofs.YtmkgbmmibjgeaaaGreat

/- Contracts of the laws' own helpers over bytes: szByteS, toByteS, eqByteS. -/
namespace Go.Proofs.YtmkgbmmibjgeaaaGreat
open Go.ChangeShapes Go.WideShapes Go.ChangeAt Go.RowKit Go.Joins
set_option linter.unusedVariables false
set_option linter.unusedSimpArgs false

def fillTo (l : List Int) (k : Nat) : List Int := l.take k ++ List.replicate (l.length - k) 0
theorem fillTo_length (l : List Int) (k : Nat) (h : k ≤ l.length) : (fillTo l k).length = l.length := by simp [fillTo]; omega
theorem fillTo_zero (l : List Int) : fillTo l 0 = List.replicate l.length 0 := by simp [fillTo]
theorem fillTo_all (l : List Int) : fillTo l l.length = l := by simp [fillTo]
theorem fillTo_set (l : List Int) (k : Nat) (h : k < l.length) : ((fillTo l k).map (Value.int .u8)).set k (.int .u8 (l.getD k 0)) = (fillTo l (k + 1)).map (Value.int .u8) := by
  rw [← List.map_set]
  congr 1
  have e1 : l.length - k = (l.length - (k + 1)) + 1 := by omega
  have e2 : (l.take k).length = k := by simp; omega
  unfold fillTo
  rw [e1, List.replicate_succ, List.set_append_right _ _ (by omega), e2, Nat.sub_self, List.set_cons_zero, List.take_succ_eq_append_getElem h]
  have e3 : l.getD k 0 = l[k] := by simp [h]
  rw [e3, List.append_assoc]
  rfl

/-- The row that is filled, at its (k+1)st store. -/
theorem fill_step {w wr : World} {g : Nat} {l : List Int} {k : Nat} (hk : k < l.length) (hg : w.heap.size ≤ g) (hown : wr.ownsRow w.heap.size 5 1 (.slice (some ⟨g, 0, none⟩) l.length l.length) l.length ((fillTo l k).map (Value.int .u8)))
    (hB : Below w.heap.size w wr) : (wr.setCell ⟨g, k, none⟩ (.int .u8 (l.getD k 0))).ownsRow w.heap.size 5 1 (.slice (some ⟨g, 0, none⟩) l.length l.length) l.length ((fillTo l (k + 1)).map (Value.int .u8)) ∧
      Below w.heap.size w (wr.setCell ⟨g, k, none⟩ (.int .u8 (l.getD k 0))) := by
  have h := (hown.stored k (.int .u8 (l.getD k 0))).1
  rw [fillTo_set l k hk] at h
  exact ⟨h, hB.setCell hg _⟩

set_option maxHeartbeats 400000 in
theorem szByteS_any (o : Option Addr) (len cap : Nat) (n : Int) (w : World) (hl : len ≤ maxLen) (h0 : 0 ≤ n) (h1 : n ≤ 1048576) :
    Calls Tryz.prog 39 #[.slice o len cap, .int .i64 n] w fun e w' => e = .returned (.int .i64 (if n - len < 0 then -1 else n - len)) ∧ w = w' := by
  unfold maxLen at hl
  by_cases h : n - len < 0
  · rw [if_pos h]
    go_enter Tryz.func39, Tryz.ntmps39
    go_wp2
    go_ret
    exact ⟨rfl, rfl⟩
  · rw [if_neg h]
    go_enter Tryz.func39, Tryz.ntmps39
    go_wp2
    go_ret
    exact ⟨rfl, rfl⟩

set_option maxHeartbeats 1000000 in
theorem toByteS_any (o : Option Addr) (cap : Nat) (l : List Int) (w : World) (hR : Rd w o l) (hB8 : isB l) (hlen : l.length ≤ 1048576) :
    Calls Tryz.prog 50 #[.slice o l.length cap] w fun e w' => ∃ g, e = .returned (.slice (some ⟨g, 0, none⟩) l.length l.length) ∧ ownB w' w.heap.size (.slice (some ⟨g, 0, none⟩) l.length l.length) l ∧ Below w.heap.size w w' := by
  obtain ⟨i0, hi, hz0, hz1, hz2⟩ := info_parts infoU8
  have hB : Below w.heap.size w w := Below.refl _ _
  go_enter Tryz.func50, Tryz.ntmps50
  go_wp2_with (at_make; refine wpList_make_full _ rfl _ _ 29 rfl w.heap.size 5 i0 (.int .u8 0) 1 Tryz.underlying29 hi hz0 hz1 _ _ _ _ l.length rfl rfl rfl rfl ?b2 ?b3 ?b4 ?_)
  case b2 => rw [hz2]; omega
  case b3 => unfold maxLen; omega
  case b4 => simp
  intro w1 hown hgrow
  have hB1 : Below w.heap.size w w1 := hB.grown hgrow (Nat.le_refl _) (fun k h => by cases h)
  have hown1 : w1.ownsRow w.heap.size 5 1 (.slice (some ⟨w.heap.size, 0, none⟩) l.length l.length) l.length ((fillTo l 0).map (Value.int .u8)) := by
    rw [fillTo_zero]; simpa [toList_madeCells_one, Value.cells] using hown
  clear hown hgrow hB
  go_wp2
  go_loopw [4] (fun i wr => ∃ k : Nat, k ≤ l.length ∧ i = .int .i64 k ∧ wr.ownsRow w.heap.size 5 1 (.slice (some ⟨w.heap.size, 0, none⟩) l.length l.length) l.length ((fillTo l k).map (Value.int .u8)) ∧ Below w.heap.size w wr)
    (fun i _ => l.length - (intOf i).toNat)
  case atStart => exact ⟨0, Nat.zero_le _, rfl, hown1, hB1⟩
  case round =>
    obtain ⟨k, hk, rfl, hown, hBr⟩ := hrel
    by_cases hlt : k < l.length
    · rcases hR with hR | ⟨b, off, rfl, hbl, hcell⟩
      · subst hR; simp at hlt
      have hc : wr.cell? ⟨b, off + k, none⟩ = some (.int .u8 (l.getD k 0)) := (hBr.cell (p := ⟨b, off + k, none⟩) hbl).trans (hcell k hlt)
      have hcl := hown.cellAt k (by omega)
      have hfr := hown.frozenAt k
      obtain ⟨u, hu⟩ : ∃ u, wr.cell? ⟨w.heap.size, k, none⟩ = some u := ⟨_, hcl.trans (List.getElem?_eq_getElem (by simp [fillTo_length l k hk]; omega))⟩
      have R := fill_step (g := w.heap.size) hlt (Nat.le_refl _) hown hBr
      have HR := hide R
      clear R hown hBr hcl hB1 hown1
      generalize hx : l.getD k 0 = x at *
      go_wp2
      go_roundw
      case rel => exact ⟨k + 1, by omega, by go_num, HR.out.1, HR.out.2⟩
      case measure => simp [intOf]; omega
    · have e : k = l.length := by omega
      subst e
      rw [fillTo_all] at hown
      go_wp2
      go_ret
      exact ⟨w.heap.size, rfl, hown, hBr⟩

set_option maxHeartbeats 1000000 in
theorem eqByteS_any (o1 o2 : Option Addr) (c1 c2 : Nat) (l1 l2 : List Int) (w : World) (h1 : Rd w o1 l1) (h2 : Rd w o2 l2) (hl1 : l1.length ≤ 1048576) (hl2 : l2.length ≤ 1048576) :
    Calls Tryz.prog 67 #[.slice o1 l1.length c1, .slice o2 l2.length c2] w fun e w' => e = .returned (.bool (decide (l1 = l2))) ∧ Below w.heap.size w w' := by
  by_cases hlen : l1.length = l2.length
  · have hne : ((l1.length : Int) != (l2.length : Int)) = false := by simp [hlen]
    have HL := hide hlen
    have hle : l1.length ≤ l2.length := by omega
    have hge : l2.length ≤ l1.length := by omega
    clear hlen
    go_enter Tryz.func67, Tryz.ntmps67
    go_wp2
    go_loopw [5] (fun i wr => ∃ k : Nat, k ≤ l1.length ∧ i = .int .i64 k ∧ l1.take k = l2.take k ∧ Below w.heap.size w wr)
      (fun i _ => l1.length - (intOf i).toNat)
    case atStart => exact ⟨0, Nat.zero_le _, rfl, rfl, Below.refl _ _⟩
    case round =>
      obtain ⟨k, hk, rfl, htk, hBr⟩ := hrel
      have HT := hide htk
      by_cases hlt : k < l1.length
      · rcases h1 with h1 | ⟨b1, off1, rfl, hb1, hcell1⟩
        · subst h1; simp at hlt
        rcases h2 with h2 | ⟨b2, off2, rfl, hb2, hcell2⟩
        · subst h2; simp at hle; simp [hle] at hlt
        have hlt2 : k < l2.length := by omega
        have hc1 : wr.cell? ⟨b1, off1 + k, none⟩ = some (.int .u8 (l1.getD k 0)) := (hBr.cell (p := ⟨b1, off1 + k, none⟩) hb1).trans (hcell1 k hlt)
        have hc2 : wr.cell? ⟨b2, off2 + k, none⟩ = some (.int .u8 (l2.getD k 0)) := (hBr.cell (p := ⟨b2, off2 + k, none⟩) hb2).trans (hcell2 k (by omega))
        have HB := hide hBr
        have t1 := hide (take_succ_getD l1 k hlt)
        have t2 := hide (take_succ_getD l2 k hlt2)
        have n12 : l1 = l2 → l1.getD k 0 = l2.getD k 0 := fun h => by rw [h]
        have N12 := hide n12
        clear n12 hcell1 hcell2
        have i1 : (k : Int) < (l1.length : Int) := by omega
        have i2 : (k : Int) < (l2.length : Int) := by omega
        generalize l1.getD k 0 = x at *
        generalize l2.getD k 0 = y at *
        clear htk hBr
        by_cases hxy : x = y
        · have hb : (x != y) = false := by simp [hxy]
          have HX := hide hxy
          clear hxy N12
          go_wp2
          go_quiet (fail)
          go_wp2
          go_roundw
          case rel =>
            refine ⟨k + 1, by omega, by go_num, ?_, ?_⟩
            · rw [t1.out, t2.out, HT.out, HX.out]
            · exact below_drewN HB.out _
          case measure => simp [intOf]; omega
        · have hb : (x != y) = true := by simp [hxy]
          have HX : Hid (l1 ≠ l2) := fun h => hxy (N12.out h)
          clear hxy N12 t1 t2
          go_wp2
          go_quiet (fail)
          go_wp2
          go_ret
          exact ⟨ret_bool (decide_eq_false HX.out).symm, below_drewN HB.out _⟩
      · have e : l1 = l2 := by
          have := htk; rw [List.take_of_length_le (by omega), List.take_of_length_le (by omega)] at this; exact this
        have HE := hide e
        have HB := hide hBr
        clear e htk hBr
        go_wp2
        go_ret
        exact ⟨ret_bool (decide_eq_true HE.out).symm, HB.out⟩
  · have hne : ((l1.length : Int) != (l2.length : Int)) = true := by simp; omega
    have HE : Hid (l1 ≠ l2) := fun h => hlen (by rw [h])
    go_enter Tryz.func67, Tryz.ntmps67
    go_wp2
    go_ret
    exact ⟨ret_bool (decide_eq_false HE.out).symm, Below.refl _ _⟩

theorem eqByteS_same (o1 o2 : Option Addr) (c1 c2 : Nat) (l : List Int) (w : World) (h1 : Rd w o1 l) (h2 : Rd w o2 l) (hl : l.length ≤ 1048576) :
    Calls Tryz.prog 67 #[.slice o1 l.length c1, .slice o2 l.length c2] w fun e w' => e = .returned (.bool true) ∧ Below w.heap.size w w' := by
  have := eqByteS_any o1 o2 c1 c2 l l w h1 h2 hl hl
  simpa using this

end Go.Proofs.YtmkgbmmibjgeaaaGreat

/- The laws' marks: a row is filled with numbers that go up, and held against them. -/
namespace Go.Proofs.YtmkgbmmibjgeaaaGreat
open Go.ChangeShapes Go.WideShapes Go.ChangeAt Go.RowKit Go.Joins
set_option linter.unusedVariables false
set_option linter.unusedSimpArgs false

def markL (k : Int) (n : Nat) : List Int := (List.range n).map (fun (i : Nat) => (k + (i : Int)) % 256)
theorem markL_length (k : Int) (n : Nat) : (markL k n).length = n := by simp [markL]
theorem markL_get (k : Int) (n i : Nat) (h : i < n) : (markL k n).getD i 0 = (k + (i : Int)) % 256 := by simp [markL, h]
def markTo (l : List Int) (k : Int) (i : Nat) : List Int := markL k i ++ l.drop i
theorem markTo_zero (l : List Int) (k : Int) : markTo l k 0 = l := by simp [markTo, markL]
theorem markTo_all (l : List Int) (k : Int) : markTo l k l.length = markL k l.length := by simp [markTo]
theorem markTo_length (l : List Int) (k : Int) (i : Nat) (h : i ≤ l.length) : (markTo l k i).length = l.length := by simp [markTo, markL]; omega
theorem markTo_set (l : List Int) (k : Int) (i : Nat) (h : i < l.length) : ((markTo l k i).map (Value.int .u8)).set i (.int .u8 ((k + (i : Int)) % 256)) = (markTo l k (i + 1)).map (Value.int .u8) := by
  rw [← List.map_set]
  congr 1
  have e2 : (markL k i).length = i := markL_length k i
  unfold markTo
  rw [List.drop_eq_getElem_cons h, List.set_append_right _ _ (by omega), e2, Nat.sub_self, List.set_cons_zero]
  have e3 : markL k (i + 1) = markL k i ++ [(k + (i : Int)) % 256] := by simp [markL, List.range_succ]
  rw [e3, List.append_assoc]
  rfl

theorem mark_step {w wr : World} {base g cap : Nat} {l : List Int} {k : Int} {i : Nat} (hi : i < l.length) (hown : wr.ownsRow base 5 1 (.slice (some ⟨g, 0, none⟩) l.length cap) l.length ((markTo l k i).map (Value.int .u8)))
    (hg : w.grownBy wr (some g)) : (wr.setCell ⟨g, i, none⟩ (.int .u8 ((k + (i : Int)) % 256))).ownsRow base 5 1 (.slice (some ⟨g, 0, none⟩) l.length cap) l.length ((markTo l k (i + 1)).map (Value.int .u8)) ∧
      w.grownBy (wr.setCell ⟨g, i, none⟩ (.int .u8 ((k + (i : Int)) % 256))) (some g) := by
  have h := hown.stored i (.int .u8 ((k + (i : Int)) % 256))
  rw [markTo_set l k i hi] at h
  exact ⟨h.1, ⟨hg.os, hg.tape, hg.output, by have := h.2.size; have := hg.size; omega, fun j hj hne => (h.2.block j (Nat.lt_of_lt_of_le hj hg.size) hne).trans (hg.block j hj hne)⟩⟩

set_option maxHeartbeats 1000000 in
theorem markByteS_any (base : Nat) (v : Value) (l : List Int) (k : Int) (w : World) (hv : ownB w base v l) (h0 : 0 ≤ k) (h1 : k ≤ 1073741824) (hlen : l.length ≤ 1048576) :
    Calls Tryz.prog 70 #[v, .int .i64 k] w fun e w' => e = .returned (.int .i64 (k + l.length)) ∧ ownB w' base v (markL k l.length) ∧ w.grownBy w' v.ownBlock := by
  rcases hv.2 with ⟨rfl, h2⟩ | ⟨g, cap, cur, rfl, hg, _⟩
  · have e : l = [] := List.eq_nil_of_length_eq_zero h2
    subst e
    go_enter Tryz.func70, Tryz.ntmps70
    go_wp2
    refine wp_loop_rounds 1 ?_
    rw [rounds_succ]
    go_wp2
    go_ret
    exact ⟨by simp, by simpa [markL] using hv, World.grownBy.refl _ _⟩
  · go_enter Tryz.func70, Tryz.ntmps70
    go_wp2
    have hv0 : w.ownsRow base 5 1 (.slice (some ⟨g, 0, none⟩) l.length cap) l.length ((markTo l k 0).map (Value.int .u8)) := by rw [markTo_zero]; exact hv
    go_loopw [1, 5] (fun m j wr => ∃ i : Nat, i ≤ l.length ∧ j = .int .i64 i ∧ m = .int .i64 (k + (i : Int)) ∧ wr.ownsRow base 5 1 (.slice (some ⟨g, 0, none⟩) l.length cap) l.length ((markTo l k i).map (Value.int .u8)) ∧ w.grownBy wr (some g))
      (fun _ j _ => l.length - (intOf j).toNat)
    case atStart => exact ⟨0, Nat.zero_le _, rfl, by simp, hv0, World.grownBy.refl _ _⟩
    case round =>
      obtain ⟨i, hi, rfl, rfl, hown, hgr⟩ := hrel
      by_cases hlt : i < l.length
      · have hcl := hown.cellAt i (by omega)
        have hfr := hown.frozenAt i
        obtain ⟨u, hu⟩ : ∃ u, wr.cell? ⟨g, i, none⟩ = some u := ⟨_, hcl.trans (List.getElem?_eq_getElem (by simp [markTo_length l k i hi]; omega))⟩
        have R := hide (mark_step hlt hown hgr)
        clear hcl hown hgr hv hv0
        go_wp2
        go_roundw
        case rel => exact ⟨i + 1, by omega, by go_num, by go_num, R.out.1, R.out.2⟩
        case measure => simp [intOf]; omega
      · have e : i = l.length := by omega
        subst e
        rw [markTo_all] at hown
        have HO := hide hown
        clear hown
        go_wp2
        go_ret
        exact ⟨rfl, by unfold ownB; rw [markL_length]; exact HO.out, hgr⟩

end Go.Proofs.YtmkgbmmibjgeaaaGreat

/- Bytes by layout, and the laws' own helpers over them, in the words of Fr. -/
namespace Go.Proofs.YtmkgbmmibjgeaaaGreat
open Go.ChangeShapes Go.WideShapes Go.ChangeAt Go.RowKit Go.Joins
set_option linter.unusedVariables false
set_option linter.unusedSimpArgs false

def layB : Lay Int := ⟨1, fun a => [.int .u8 a], 0, fun _ => rfl⟩
theorem flat_bytes : ∀ l : List Int, l.flatMap layB.cs = l.map (Value.int .u8)
  | [] => rfl
  | a :: l => by rw [List.flatMap_cons, flat_bytes l]; rfl
theorem ownB_lay {w : World} {base : Nat} {v : Value} {l : List Int} : ownB w base v l ↔ ownL layB 5 w base v l := by
  unfold ownB ownL; rw [flat_bytes]; exact Iff.rfl
theorem RdB_lay {C : Nat} {w : World} {o : Option Addr} {l : List Int} : RdB C w o l ↔ RdL layB C w o l := by
  constructor
  · rintro (h | ⟨b, off, ho, hb, r⟩)
    · exact .inl h
    · refine .inr ⟨b, off, ho, hb, fun i hi j hj => ?_⟩
      have hj0 : j = 0 := by have : j < 1 := hj; omega
      subst hj0
      have := r i hi
      rw [show layB.k = 1 from rfl, Nat.mul_one, Nat.add_zero]
      exact this
  · rintro (h | ⟨b, off, ho, hb, r⟩)
    · exact .inl h
    · refine .inr ⟨b, off, ho, hb, fun i hi => ?_⟩
      have := r i hi 0 (by decide)
      rw [show layB.k = 1 from rfl, Nat.mul_one, Nat.add_zero] at this
      exact this
theorem RdB_rd {w : World} {o : Option Addr} {l : List Int} : RdL layB w.heap.size w o l ↔ Rd w o l := RdB_lay.symm
abbrev InB := InL layB 5
theorem InB.of {w : World} {base : Nat} {v : Value} {l : List Int} (h : ownB w base v l) : InB base w.heap.size w v l := InRow.of (ownB_lay.1 h)

theorem toByteS_sh (v : Value) (l : List Int) (w : World) (hR : RdV layB w.heap.size w v l) (hB8 : isB l) (hlen : l.length ≤ 1048576) :
    Calls Tryz.prog 50 #[v] w fun e w' => ∃ v', e = .returned v' ∧ InB w.heap.size w'.heap.size w' v' l ∧ Below w.heap.size w w' := by
  obtain ⟨o, c, rfl, r⟩ := hR
  refine (toByteS_any o c l w (RdB_rd.1 r) hB8 hlen).mono ?_
  rintro e w' ⟨g, rfl, ho, hb⟩
  exact ⟨_, rfl, InB.of ho, hb⟩
theorem eqByteS_sh (v1 v2 : Value) (l : List Int) (w : World) (h1 : RdV layB w.heap.size w v1 l) (h2 : RdV layB w.heap.size w v2 l) (hl : l.length ≤ 1048576) :
    Calls Tryz.prog 67 #[v1, v2] w fun e w' => e = .returned (.bool true) ∧ Below w.heap.size w w' := by
  obtain ⟨o, c, rfl, r⟩ := h1
  obtain ⟨o2, c2, rfl, r2⟩ := h2
  exact eqByteS_same o o2 c c2 l w (RdB_rd.1 r) (RdB_rd.1 r2) hl
theorem markByteS_sh (lo hi : Nat) (v : Value) (l : List Int) (k : Int) (w : World) (hv : InB lo hi w v l) (h0 : 0 ≤ k) (h1 : k ≤ 1073741824) (hlen : l.length ≤ 1048576) :
    Calls Tryz.prog 70 #[v, .int .i64 k] w fun e w' => e = .returned (.int .i64 (k + l.length)) ∧ InB lo hi w' v (markL k l.length) ∧ w.grownBy w' v.ownBlock := by
  refine (markByteS_any lo v l k w (ownB_lay.2 hv.1) h0 h1 hlen).mono ?_
  rintro e w' ⟨rfl, ho, hg⟩
  exact ⟨rfl, ⟨ownB_lay.1 ho, hv.2⟩, hg⟩
end Go.Proofs.YtmkgbmmibjgeaaaGreat

/- Contracts of SegOk, on both sides. -/
namespace Go.Proofs.YtmkgbmmibjgeaaaGreat
open Go.ChangeShapes Go.WideShapes Go.ChangeAt Go.RowKit Go.Joins
set_option linter.unusedVariables false
set_option linter.unusedSimpArgs false

/-- Back is one of six, Fn one of two. -/
def segOkB (b f : Int) : Bool := decide (0 ≤ b) && decide (b < 6) && decide (0 ≤ f) && decide (f ≤ 1)
theorem segOkB_iff {b f : Int} : segOkB b f = true ↔ 0 ≤ b ∧ b < 6 ∧ 0 ≤ f ∧ f ≤ 1 := by simp [segOkB, and_assoc]
theorem segOkB_parts {b f : Int} : segOkB b f = true ↔ (0 ≤ b ∧ b < 6 ∧ 0 ≤ f ∧ f ≤ 1 ∧ True) := by simp [segOkB, and_assoc]
abbrev seg (b f : Int) : Value := .agg #[.int .i64 b, .int .i64 f]

set_option maxHeartbeats 400000 in
theorem specSegOk_any (b f : Int) (w : World) :
    Calls Tryz.prog 42 #[seg b f] w fun e w' => e = .returned (.bool (segOkB b f)) ∧ Below w.heap.size w w' := by
  have hB : Below w.heap.size w w := Below.refl _ _
  go_enter Tryz.func42, Tryz.ntmps42
  go_wp2
  all_goals go_ret
  all_goals refine ⟨?_, by (repeat (first | with_reducible exact hB | with_reducible exact Below.refl _ _ | with_reducible refine Below.drew ?_ | with_reducible refine below_drewN ?_ _ | with_reducible refine Below.alloc ?_ ?_ _ | with_reducible refine Below.setCell ?_ ?_ _ | (focus (simp; done)) | (focus (simp; omega)) | omega))⟩
  all_goals first | (simp [segOkB, *]; done) | (simp [segOkB]; omega)

set_option maxHeartbeats 400000 in
theorem implSegOk_any (b f : Int) (w : World) :
    Calls Tryz.prog 86 #[seg b f] w fun e w' => e = .returned (.bool (segOkB b f)) ∧ Below w.heap.size w w' := by
  have hB : Below w.heap.size w w := Below.refl _ _
  by_cases h1 : 0 ≤ b
  · by_cases h2 : b < 6
    · by_cases h3 : 0 ≤ f
      · by_cases h4 : f ≤ 1
        · by_cases h7 : f = 0
          · subst h7
            have HY := hide (show true = segOkB b 0 by simp [segOkB, h1, h2])
            go_enter Tryz.func86, Tryz.ntmps86
            go_wp2
            go_ret
            exact ⟨ret_bool HY.out, by (repeat (first | with_reducible exact hB | with_reducible exact Below.refl _ _ | with_reducible refine Below.drew ?_ | with_reducible refine below_drewN ?_ _ | with_reducible refine Below.alloc ?_ ?_ _ | with_reducible refine Below.setCell ?_ ?_ _ | (focus (simp; done)) | (focus (simp; omega)) | omega))⟩
          · have h8 : f = 1 := by omega
            subst h8
            have HY := hide (show true = segOkB b 1 by simp [segOkB, h1, h2])
            go_enter Tryz.func86, Tryz.ntmps86
            go_wp2
            go_ret
            exact ⟨ret_bool HY.out, by (repeat (first | with_reducible exact hB | with_reducible exact Below.refl _ _ | with_reducible refine Below.drew ?_ | with_reducible refine below_drewN ?_ _ | with_reducible refine Below.alloc ?_ ?_ _ | with_reducible refine Below.setCell ?_ ?_ _ | (focus (simp; done)) | (focus (simp; omega)) | omega))⟩
        · have HN := hide (bool_no (segOkB_parts (b := b) (f := f)) (fun q => h4 q.2.2.2.1))
          go_enter Tryz.func86, Tryz.ntmps86
          go_wp2
          all_goals go_ret
          all_goals refine ⟨ret_bool ?_, by (repeat (first | with_reducible exact hB | with_reducible exact Below.refl _ _ | with_reducible refine Below.drew ?_ | with_reducible refine below_drewN ?_ _ | with_reducible refine Below.alloc ?_ ?_ _ | with_reducible refine Below.setCell ?_ ?_ _ | (focus (simp; done)) | (focus (simp; omega)) | omega))⟩
          all_goals first | exact HN.out | (rw [← HN.out]; simp; omega)
      · have HN := hide (bool_no (segOkB_parts (b := b) (f := f)) (fun q => h3 q.2.2.1))
        go_enter Tryz.func86, Tryz.ntmps86
        go_wp2
        all_goals go_ret
        all_goals refine ⟨ret_bool ?_, by (repeat (first | with_reducible exact hB | with_reducible exact Below.refl _ _ | with_reducible refine Below.drew ?_ | with_reducible refine below_drewN ?_ _ | with_reducible refine Below.alloc ?_ ?_ _ | with_reducible refine Below.setCell ?_ ?_ _ | (focus (simp; done)) | (focus (simp; omega)) | omega))⟩
        all_goals first | exact HN.out | (rw [← HN.out]; simp; omega)
    · have HN := hide (bool_no (segOkB_parts (b := b) (f := f)) (fun q => h2 q.2.1))
      go_enter Tryz.func86, Tryz.ntmps86
      go_wp2
      all_goals go_ret
      all_goals refine ⟨ret_bool ?_, by (repeat (first | with_reducible exact hB | with_reducible exact Below.refl _ _ | with_reducible refine Below.drew ?_ | with_reducible refine below_drewN ?_ _ | with_reducible refine Below.alloc ?_ ?_ _ | with_reducible refine Below.setCell ?_ ?_ _ | (focus (simp; done)) | (focus (simp; omega)) | omega))⟩
      all_goals first | exact HN.out | (rw [← HN.out]; simp; omega)
  · have HN := hide (bool_no (segOkB_parts (b := b) (f := f)) (fun q => h1 q.1))
    go_enter Tryz.func86, Tryz.ntmps86
    go_wp2
    all_goals go_ret
    all_goals refine ⟨ret_bool ?_, by (repeat (first | with_reducible exact hB | with_reducible exact Below.refl _ _ | with_reducible refine Below.drew ?_ | with_reducible refine below_drewN ?_ _ | with_reducible refine Below.alloc ?_ ?_ _ | with_reducible refine Below.setCell ?_ ?_ _ | (focus (simp; done)) | (focus (simp; omega)) | omega))⟩
    all_goals first | exact HN.out | (rw [← HN.out]; simp; omega)

end Go.Proofs.YtmkgbmmibjgeaaaGreat

/- Contracts of the laws' own helpers over segs: one that came in, its copy, its comparison. -/
namespace Go.Proofs.YtmkgbmmibjgeaaaGreat
open Go.ChangeShapes Go.WideShapes Go.ChangeAt Go.RowKit Go.Joins
set_option linter.unusedVariables false
set_option linter.unusedSimpArgs false

theorem cellsLawsSeg : Tryz.prog.cellsOf 105 = 2 := by kernel_rfl

set_option maxRecDepth 100000 in
theorem open_seg {H : Type} {enc : TypeId × Value → H} {W : World} {base : Nat} {v : Value} {d : DataW H} {p : List MemPlace}
    (hv : Value.okWide Tryz.prog W .any base 105 v) (h : DataW.Trod enc Tryz.prog W 0 (fun _ => true) true 105 v d p) :
    ∃ a b : Int, v = .agg #[.int .i64 a, .int .i64 b] := by
  obtain ⟨c0, c1, y0, y1, m, rfl, rfl, rfl, hy0, hy1⟩ := open_agg2 Tryz.underlying105 (by kernel_rfl) cellsLawsSeg hv h
  obtain ⟨a, e0, rfl, wa⟩ := DataW.trod_int Tryz.underlying3 hy0
  obtain ⟨b, e1, rfl, wb⟩ := DataW.trod_int Tryz.underlying3 hy1
  simp at e0 e1
  subst e0 e1
  exact ⟨a, b, rfl⟩

set_option maxHeartbeats 400000 in
theorem toSeg_any (a b : Int) (w : World) :
    Calls Tryz.prog 51 #[seg a b] w fun e w' => e = .returned (seg a b) ∧ Below w.heap.size w w' := by
  have hB : Below w.heap.size w w := Below.refl _ _
  go_enter Tryz.func51, Tryz.ntmps51
  go_wp2
  refine bodyPost_ret (v := .agg #[.int .i64 a, .int .i64 b]) (by simp [results, Tryz.results51, go_sem]) rfl ⟨rfl, ?_⟩
  (repeat (first | with_reducible exact hB | with_reducible exact Below.refl _ _ | with_reducible refine Below.drew ?_ | with_reducible refine below_drewN ?_ _ | with_reducible refine Below.alloc ?_ ?_ _ | with_reducible refine Below.setCell ?_ ?_ _ | (focus (simp; done)) | (focus (simp; omega)) | omega))

set_option maxHeartbeats 400000 in
theorem eqSeg_any (a b c d : Int) (w : World) :
    Calls Tryz.prog 68 #[seg a b, seg c d] w fun e w' => e = .returned (.bool (decide (a = c ∧ b = d))) ∧ Below w.heap.size w w' := by
  have hB : Below w.heap.size w w := Below.refl _ _
  go_enter Tryz.func68, Tryz.ntmps68
  go_wp2
  all_goals go_ret
  all_goals refine ⟨?_, by (repeat (first | with_reducible exact hB | with_reducible exact Below.refl _ _ | with_reducible refine Below.drew ?_ | with_reducible refine below_drewN ?_ _ | with_reducible refine Below.alloc ?_ ?_ _ | with_reducible refine Below.setCell ?_ ?_ _ | (focus (simp; done)) | (focus (simp; omega)) | omega))⟩
  all_goals (simp_all)

theorem eqSeg_same (a b : Int) (w : World) :
    Calls Tryz.prog 68 #[seg a b, seg a b] w fun e w' => e = .returned (.bool true) ∧ Below w.heap.size w w' := by
  have := eqSeg_any a b a b w
  simpa using this

end Go.Proofs.YtmkgbmmibjgeaaaGreat

