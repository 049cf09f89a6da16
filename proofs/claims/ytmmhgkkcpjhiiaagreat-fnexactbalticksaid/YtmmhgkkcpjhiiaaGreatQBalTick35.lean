/- Several texts in one: SSoon, SPlain, SHint, Cut5, SPut. -/
import Derived.Deep.RegionWith
import Derived.Test.YtmmhgkkcpjhiiaaGreatQBalTick07
import Derived.Test.YtmmhgkkcpjhiiaaGreatQBalTick33
import Derived.Test.YtmmhgkkcpjhiiaaGreatQBalTick23
import Derived.Test.YtmmhgkkcpjhiiaaGreatQBalTick03
import Derived.Test.YtmmhgkkcpjhiiaaGreatQBalTick10
import Derived.Test.YtmmhgkkcpjhiiaaGreatQBalTick34
/- Soonest, on both sides. -/
namespace Go.Proofs.YtmmhgkkcpjhiiaaGreat
open Go.ChangeShapes Go.WideShapes Go.ChangeAt Go.RowKit Go.Joins
set_option linter.unusedVariables false
set_option linter.unusedSimpArgs false

theorem box_set1 (w : World) (k j : Nat) (cs : Array Value) (t : TypeId) (v : Value) (h : w.heap[k]? = some (.cells cs t (0, 0))) : (w.setCell ⟨k, j, none⟩ v).heap[k]? = some (.cells (cs.setIfInBounds j v) t (0, 0)) := by
 simp [World.setCell, Array.getElem?_modify, h]
theorem frozen_of {W : World} {B : Nat} {c : Array Value} {t : TypeId} (h : W.heap[B]? = some (.cells c t (0, 0))) (j : Nat) : W.frozen? ⟨B, j, none⟩ = false := by simp [World.frozen?, h]
abbrev slotCells (s : Sl) : Array Value := #[.bool s.u, .int .i64 s.a, .int .i64 s.p, .int .i64 s.v, .int .i64 s.t]
end Go.Proofs.YtmmhgkkcpjhiiaaGreat

/- The program's plainTable; TableNew, on both sides. -/
namespace Go.Proofs.YtmmhgkkcpjhiiaaGreat
open Go.ChangeShapes Go.WideShapes Go.ChangeAt Go.RowKit Go.Joins
set_option linter.unusedVariables false
set_option linter.unusedSimpArgs false

set_option maxHeartbeats 8000000 in
theorem plainTable_any (b off c : Nat) (l : List Sl) (w : World) (hbl : b < w.heap.size) (hc : ∀ i, i < l.length → ∀ j, j < layS.k → w.cell? ⟨b, off + i * layS.k + j, none⟩ = (layS.cs (l.getD i layS.d))[j]?) (hl : l.length ≤ 1048576) :
  Calls Tryz.prog 230 #[tab (.slice (some ⟨b, off, none⟩) l.length c)] w fun e w' => ∃ g, e = .returned (tab (.slice (some ⟨g, 0, none⟩) l.length l.length)) ∧ ownS w' w.heap.size (.slice (some ⟨g, 0, none⟩) l.length l.length) l ∧ Below w.heap.size w w' := by
 obtain ⟨i0, hi, hz0, hz1, hz2⟩ := info_parts infoSlot
 have HC := hide hc
 clear hc
 obtain ⟨W0, hW0⟩ : ∃ W, ((w.alloc (.cells #[.slice (some ⟨b, off, none⟩) l.length c] 148)).alloc (.cells #[.slice none 0 0] 32)) = W := ⟨_, rfl⟩
 have hb_W0 : Below w.heap.size w W0 := by rw [← hW0]; exact (((Below.refl _ _).alloc (Nat.le_refl _) _).alloc (by simp <;> omega) _)
 have HB := hide hb_W0
 clear hb_W0
 have zct : w.heap.size < W0.heap.size := by rw [← hW0]; simp <;> omega
 have ct0 : W0.cell? ⟨w.heap.size, 0, none⟩ = some (.slice (some ⟨b, off, none⟩) l.length c) := by rw [← hW0]; simp [go_sem]
 have zcr : w.heap.size + 1 < W0.heap.size := by rw [← hW0]; simp
 have cr0 : W0.cell? ⟨w.heap.size + 1, 0, none⟩ = some (.slice none 0 0) := by rw [← hW0]; simp [go_sem]
 have fcr0 : W0.frozen? ⟨w.heap.size + 1, 0, none⟩ = false := by rw [← hW0]; simp [go_sem]
 have zcr0 := zcr
 have hw00 : w.heap.size ≤ W0.heap.size := HB.out.size
 go_enter Tryz.func230, Tryz.ntmps230
 go_wp2_with (at_make; refine wpList_make_full _ rfl _ _ 30 rfl W0.heap.size 160 i0 (slot sl0) 5 Tryz.underlying30 hi hz0 hz1 _ _ _ _ l.length rfl rfl rfl rfl ?b2 ?b3 ?b4 ?_)
 case b2 => rw [hz2]; omega
 case b3 => unfold maxLen; omega
 case b4 => simp
 intro w1 hown hgrow
 have hb : Below W0.heap.size W0 w1 := (Below.refl _ _).grown hgrow (Nat.le_refl _) (fun k h => by cases h)
 have HBg := hide hb
 have HO : Hid (w1.ownsRow W0.heap.size 160 5 (.slice (some ⟨W0.heap.size, 0, none⟩) l.length l.length) l.length ((fillL layS l 0).flatMap layS.cs)) := by unfold Hid; rw [fillL_zero, ← made_flat layS (slot sl0) rfl]; exact hown
 have zg : W0.heap.size < w1.heap.size := (hown.lt _ rfl).2
 clear hown hgrow
 replace ct0 : w1.cell? ⟨w.heap.size, 0, none⟩ = some (.slice (some ⟨b, off, none⟩) l.length c) := (hb.cell (p := ⟨w.heap.size, 0, none⟩) zct).trans ct0
 replace zct : w.heap.size < w1.heap.size := Nat.lt_of_lt_of_le zct hb.size
 replace cr0 : w1.cell? ⟨w.heap.size + 1, 0, none⟩ = some (.slice none 0 0) := (hb.cell (p := ⟨w.heap.size + 1, 0, none⟩) zcr).trans cr0
 replace fcr0 : w1.frozen? ⟨w.heap.size + 1, 0, none⟩ = false := (hb.frozen (p := ⟨w.heap.size + 1, 0, none⟩) zcr).trans fcr0
 replace zcr : w.heap.size + 1 < w1.heap.size := Nat.lt_of_lt_of_le zcr hb.size
 replace HB := hide (HB.out.trans (hb.mono HB.out.size))
 clear hb
 obtain ⟨W2, hW2⟩ : ∃ W, (w1.alloc (.cells #[.slice (some ⟨W0.heap.size, 0, none⟩) l.length l.length] 32)) = W := ⟨_, rfl⟩
 have hb_W2 : Below w1.heap.size w1 W2 := by rw [← hW2]; exact ((Below.refl _ _).alloc (Nat.le_refl _) _)
 replace ct0 : W2.cell? ⟨w.heap.size, 0, none⟩ = some (.slice (some ⟨b, off, none⟩) l.length c) := (hb_W2.cell (p := ⟨w.heap.size, 0, none⟩) zct).trans ct0
 replace zct : w.heap.size < W2.heap.size := Nat.lt_of_lt_of_le zct hb_W2.size
 replace cr0 : W2.cell? ⟨w.heap.size + 1, 0, none⟩ = some (.slice none 0 0) := (hb_W2.cell (p := ⟨w.heap.size + 1, 0, none⟩) zcr).trans cr0
 replace fcr0 : W2.frozen? ⟨w.heap.size + 1, 0, none⟩ = false := (hb_W2.frozen (p := ⟨w.heap.size + 1, 0, none⟩) zcr).trans fcr0
 replace zcr : w.heap.size + 1 < W2.heap.size := Nat.lt_of_lt_of_le zcr hb_W2.size
 replace HO := hide (own_kept HO.out hb_W2)
 replace HB := hide (HB.out.trans (hb_W2.mono HB.out.size))
 clear hb_W2
 have zcs : w1.heap.size < W2.heap.size := by rw [← hW2]; simp
 have cs0 : W2.cell? ⟨w1.heap.size, 0, none⟩ = some (.slice (some ⟨W0.heap.size, 0, none⟩) l.length l.length) := by rw [← hW2]; simp [go_sem]
 have b3 : Hid (W2.heap[w1.heap.size]? = some (.cells #[.slice (some ⟨W0.heap.size, 0, none⟩) l.length l.length] 32 (0, 0))) := by rw [← hW2]; exact World.alloc_heap_new w1 _
 have bR : Hid (W2.heap[w.heap.size + 1]? = some (.cells #[.slice none 0 0] 32 (0, 0))) := by
  have h := World.alloc_heap_new (w.alloc (.cells #[.slice (some ⟨b, off, none⟩) l.length c] 148)) (.cells #[.slice none 0 0] 32)
  rw [hW0, World.size_alloc] at h
  exact ((by rw [← hW2]; exact (Below.heap_alloc _ _ _ (by omega)) : W2.heap[w.heap.size + 1]? = w1.heap[w.heap.size + 1]?)).trans ((HBg.out.block _ zcr0).trans h)
 have zs0 := zcs
 go_wp2
 go_loopw [14] (fun i wr => ∃ k : Nat, k ≤ l.length ∧ i = .int .i64 k ∧ Hid (wr.ownsRow W0.heap.size 160 5 (.slice (some ⟨W0.heap.size, 0, none⟩) l.length l.length) l.length ((fillL layS l k).flatMap layS.cs)) ∧ Hid (wr.heap[w.heap.size + 1]? = some (.cells #[.slice none 0 0] 32 (0, 0))) ∧ Hid (wr.heap[w1.heap.size]? = some (.cells #[.slice (some ⟨W0.heap.size, 0, none⟩) l.length l.length] 32 (0, 0))) ∧ Hid (Below w.heap.size w wr) ∧ w1.heap.size < wr.heap.size)
  (fun i _ => l.length - (intOf i).toNat)
 case atStart => exact ⟨0, Nat.zero_le _, rfl, HO, bR, b3, HB, zcs⟩
 case round =>
  clear HO bR b3 HB HBg ct0 cr0 fcr0 cs0 hW2 hW0 zct zcr zcs
  obtain ⟨k, hk, rfl, HO, HR, HT, HBr, hsz⟩ := hrel
  by_cases hlt : k < l.length
  ·obtain ⟨s, hxy⟩ : ∃ s, l.getD k sl0 = s := ⟨_, rfl⟩
   have hcx := RdL.slot (C := w.heap.size) HC.out k hlt
   rw [hxy] at hcx
   have e0 := (HBr.out.cell (p := ⟨b, off + k * 5, none⟩) hbl).trans hcx.1
   have e1 := (HBr.out.cell (p := ⟨b, off + k * 5 + 1, none⟩) hbl).trans hcx.2.1
   have e2 := (HBr.out.cell (p := ⟨b, off + k * 5 + 2, none⟩) hbl).trans hcx.2.2.1
   have e3 := (HBr.out.cell (p := ⟨b, off + k * 5 + 3, none⟩) hbl).trans hcx.2.2.2.1
   have e4 := (HBr.out.cell (p := ⟨b, off + k * 5 + 4, none⟩) hbl).trans hcx.2.2.2.2
   have hk' : (k : Int) < (l.length : Int) := by omega
   have HX := hide hxy
   clear hcx hxy
   obtain ⟨W5, hW5⟩ : ∃ W, wr.alloc (.cells (slotCells s) 288) = W := ⟨_, rfl⟩
   have hb5 : Below wr.heap.size wr W5 := by rw [← hW5]; exact (Below.refl _ _).alloc (Nat.le_refl _) _
   have hz5 : wr.heap.size < W5.heap.size := by rw [← hW5]; simp
   have s0 : W5.cell? ⟨wr.heap.size, 0, none⟩ = some (.bool s.u) := by rw [← hW5]; simp [go_sem]
   have s1 : W5.cell? ⟨wr.heap.size, 1, none⟩ = some (.int .i64 s.a) := by rw [← hW5]; simp [go_sem]
   have s2 : W5.cell? ⟨wr.heap.size, 2, none⟩ = some (.int .i64 s.p) := by rw [← hW5]; simp [go_sem]
   have s3 : W5.cell? ⟨wr.heap.size, 3, none⟩ = some (.int .i64 s.v) := by rw [← hW5]; simp [go_sem]
   have s4 : W5.cell? ⟨wr.heap.size, 4, none⟩ = some (.int .i64 s.t) := by rw [← hW5]; simp [go_sem]
   have t3 : W5.cell? ⟨w1.heap.size, 0, none⟩ = some (.slice (some ⟨W0.heap.size, 0, none⟩) l.length l.length) := (hb5.cell (p := ⟨w1.heap.size, 0, none⟩) hsz).trans (block_cell1 HT.out 0 _ rfl)
   have zt3 : w1.heap.size < W5.heap.size := Nat.lt_of_lt_of_le hsz hb5.size
   have Hb5 := hide hb5
   have hown5 := own_kept HO.out hb5
   have hso := slotOf_any s W5.drew
   have hln : ((fillL layS l k).flatMap layS.cs).length = l.length * 5 := by rw [flat_length, fillL_length layS l k hk]; rfl
   have Hown5 : Hid (W5.ownsRow W0.heap.size 160 5 (.slice (some ⟨W0.heap.size, 0, none⟩) l.length l.length) l.length ((fillL layS l k).flatMap layS.cs)) := hown5
   clear hown5 hb5
   go_wp2
   first | (go_region_with (first | (go_at_call 332; refine hso.mono ?_; rintro e w6 ⟨rfl, hb⟩; replace hb : Below W5.heap.size W5 w6 := (Below.drew (Below.refl _ _)).trans hb; have t36 := (hb.cell (p := ⟨w1.heap.size, 0, none⟩) zt3).trans t3; have s60 := (hb.cell (p := ⟨wr.heap.size, 0, none⟩) hz5).trans s0; have s61 := (hb.cell (p := ⟨wr.heap.size, 1, none⟩) hz5).trans s1; have s62 := (hb.cell (p := ⟨wr.heap.size, 2, none⟩) hz5).trans s2; have s63 := (hb.cell (p := ⟨wr.heap.size, 3, none⟩) hz5).trans s3; have s64 := (hb.cell (p := ⟨wr.heap.size, 4, none⟩) hz5).trans s4; have ho6 := own_kept Hown5.out hb; obtain ⟨u0, hu0⟩ : ∃ u, w6.cell? ⟨W0.heap.size, k * 5, none⟩ = some u := ⟨_, (ho6.cellAt (k * 5) (by omega)).trans (List.getElem?_eq_getElem (by omega))⟩; have hf0 := ho6.frozenAt (k * 5); obtain ⟨u1, hu1⟩ : ∃ u, w6.cell? ⟨W0.heap.size, k * 5 + 1, none⟩ = some u := ⟨_, (ho6.cellAt (k * 5 + 1) (by omega)).trans (List.getElem?_eq_getElem (by omega))⟩; have hf1 := ho6.frozenAt (k * 5 + 1); obtain ⟨u2, hu2⟩ : ∃ u, w6.cell? ⟨W0.heap.size, k * 5 + 2, none⟩ = some u := ⟨_, (ho6.cellAt (k * 5 + 2) (by omega)).trans (List.getElem?_eq_getElem (by omega))⟩; have hf2 := ho6.frozenAt (k * 5 + 2); obtain ⟨u3, hu3⟩ : ∃ u, w6.cell? ⟨W0.heap.size, k * 5 + 3, none⟩ = some u := ⟨_, (ho6.cellAt (k * 5 + 3) (by omega)).trans (List.getElem?_eq_getElem (by omega))⟩; have hf3 := ho6.frozenAt (k * 5 + 3); obtain ⟨u4, hu4⟩ : ∃ u, w6.cell? ⟨W0.heap.size, k * 5 + 4, none⟩ = some u := ⟨_, (ho6.cellAt (k * 5 + 4) (by omega)).trans (List.getElem?_eq_getElem (by omega))⟩; have hf4 := ho6.frozenAt (k * 5 + 4); have Hb6 := hide hb; have HO6 := hide ho6; clear hb ho6))) | fail
   all_goals have HR6 := hide (stored5 (k := k) s (Nat.le_refl _) HO6.out (Below.refl W0.heap.size w6))
   all_goals have HX2 := hide (show (fillL layS l k).set k s = fillL layS l (k + 1) by rw [← HX.out]; exact fillL_set layS l k hlt)
   all_goals have Hb7 := hide (Hb5.out.trans (Hb6.out.mono Hb5.out.size))
   all_goals go_wp2
   all_goals go_roundw
   all_goals first | (simp [intOf]; omega; done) | exact ⟨k + 1, hlt, by go_num, (by have h := HR6.out.1; rw [HX2.out] at h; exact h), (HR6.out.2.block _ zcr0).trans ((Hb7.out.block _ (by omega)).trans HR.out), ((((((Below.heap_setCell _ _ _ _ (by simp; omega)).trans (Below.heap_setCell _ _ _ _ (by simp; omega))).trans (Below.heap_setCell _ _ _ _ (by simp; omega))).trans (Below.heap_setCell _ _ _ _ (by simp; omega))).trans (Below.heap_setCell _ _ _ _ (by simp; omega))).trans ((Hb7.out.block _ hsz).trans HT.out)), HBr.out.trans ((Hb7.out.mono HBr.out.size).trans (HR6.out.2.mono hw00)), Nat.lt_of_lt_of_le hsz (Nat.le_trans Hb7.out.size HR6.out.2.size)⟩
  ·have e : k = l.length := by omega
   subst e
   have hrow := HO.out
   rw [fillL_all] at hrow
   have HRow := hide hrow
   clear hrow HO
   have r1 := block_cell1 HR.out 0 _ rfl
   have f1 := frozen_of HR.out 0
   have t3 := block_cell1 HT.out 0 _ rfl
   go_wp2
   refine bodyPost_ret (v := tab (.slice (some ⟨W0.heap.size, 0, none⟩) l.length l.length)) (by simp [results, Tryz.results230, go_sem, r1]) rfl ⟨_, rfl, ?_, ?_⟩
   ·exact own_mono (ownsRow_setCell_below HRow.out (show w.heap.size + 1 < W0.heap.size from zcr0) _) hw00
   ·exact HBr.out.setCell (p := ⟨w.heap.size + 1, 0, none⟩) (by simp) _

end Go.Proofs.YtmmhgkkcpjhiiaaGreat

/- Hint, on both sides. -/
namespace Go.Proofs.YtmmhgkkcpjhiiaaGreat
open Go.ChangeShapes Go.WideShapes Go.ChangeAt Go.RowKit Go.Joins
set_option linter.unusedVariables false
set_option linter.unusedSimpArgs false


theorem balB_tab {m : Bm} (h : balB m = true) : tableOkB m.t = true := by
 rw [balB_spec] at h
 simp only [Bool.and_eq_true] at h
 exact h.2.1
theorem balB_pos {m : Bm} (h : balB m = true) : 0 < m.t.length := (tableOkB_iff.1 (balB_tab h)).1
theorem rdS_some {C : Nat} {w : World} {o : Option Addr} {l : List Sl} (h : RdS C w o l) (hn : 0 < l.length) : ∃ b off, o = some ⟨b, off, none⟩ ∧ b < C ∧ ∀ i, i < l.length → ∀ j, j < layS.k → w.cell? ⟨b, off + i * layS.k + j, none⟩ = (layS.cs (l.getD i layS.d))[j]? := by
 rcases h with h | ⟨b, off, e, hb, r⟩
 ·subst h; simp at hn
 ·exact ⟨b, off, e, hb, r⟩
theorem inBl_open {lo hi : Nat} {w : World} {xo : Option Addr} {xn xc : Nat} {kq : Int} {yo : Option Addr} {yn yc : Nat} {sq kr : Int} {uo : Option Addr} {un uc : Nat} {vo : Option Addr} {vn vc : Nat} {j : Jm} {p : Pm} {t : List Sl} (h : InBl lo hi w (balr (.slice xo xn xc) kq (.slice yo yn yc) sq kr (.slice uo un uc) (.slice vo vn vc)) j p t) (ht : 0 < t.length) :
  ∃ g a b, lo ≤ a ∧ a ≤ g ∧ g < b ∧ b ≤ hi ∧ kq = j.key ∧ sq = j.safe ∧ kr = p.key ∧ xo = some ⟨g, 0, none⟩ ∧ xn = t.length ∧ InPm lo a w (plv p.key (.slice uo un uc) (.slice vo vn vc)) p ∧ w.ownsRow a CellT 5 (.slice (some ⟨g, 0, none⟩) t.length xc) t.length (t.flatMap layS.cs) ∧ InJm b hi w (jrn j.key (.slice yo yn yc) j.safe) j := by
 obtain ⟨vt, vl, vb, vr, a, b, e, k1, k2, k3, i1, i2, i3⟩ := h
 simp only [Value.agg.injEq, Array.mk.injEq, List.cons.injEq, and_true, Value.int.injEq, true_and] at e
 obtain ⟨e1, e2, e3, e4, e5, e6, e7⟩ := e
 subst e1 e3 e6 e7
 have i2' := i2
 rcases i2'.1.2 with ⟨h1, h2⟩ | ⟨g, cap, cur, hv, hg, r⟩
 ·exact absurd h2 (by omega)
 ·injection hv with h4 h5 h6
  subst h4 h5 h6
  exact ⟨g, a, b, k1, hg, i2.2 g rfl, k3, e2, e4, e5, rfl, rfl, i1, i2.1, i3⟩

end Go.Proofs.YtmmhgkkcpjhiiaaGreat

/- A store into a box: what lies elsewhere is as it was. -/
namespace Go.Proofs.YtmmhgkkcpjhiiaaGreat
open Go.ChangeShapes Go.WideShapes Go.ChangeAt Go.RowKit Go.Joins
set_option linter.unusedVariables false
set_option linter.unusedSimpArgs false

theorem stp_setC (W : World) (B j : Nat) (v : Value) : Stp B (B + 1) W (W.setCell ⟨B, j, none⟩ v) := by
 have h := (Below.refl B W).setCell (p := ⟨B, j, none⟩) (Nat.le_refl _) v
 exact ⟨h.os, h.tape, h.output, h.size, fun k hk hn => Below.heap_setCell W ⟨B, j, none⟩ v k (by simp; omega)⟩
theorem InTb.opn {lo hi : Nat} {w : World} {v : Value} {m : List Sl} (h : InTb lo hi w v m) : ∃ (o : Option Addr) (c : Nat), v = tab (.slice o m.length c) := by
 obtain ⟨vl, rfl, o, c, rfl, _⟩ := h.rd
 exact ⟨o, c, rfl⟩
end Go.Proofs.YtmmhgkkcpjhiiaaGreat

/- Put, on both sides. -/
namespace Go.Proofs.YtmmhgkkcpjhiiaaGreat
open Go.ChangeShapes Go.WideShapes Go.ChangeAt Go.RowKit Go.Joins
set_option linter.unusedVariables false
set_option linter.unusedSimpArgs false

theorem appS : AppOk layS 30 160 := ⟨Tryz.underlying30, ⟨_, _, infoSlot, rfl, by decide⟩, by decide, fun a u hu => by
 simp [layS] at hu; rcases hu with rfl | rfl | rfl | rfl | rfl <;> rfl⟩
theorem Stp.cell {lo hi b j : Nat} {w w' : World} {u : Value} (s : Stp lo hi w w') (h : w.cell? ⟨b, j, none⟩ = some u) (hb : b < w.heap.size) (hd : b < lo ∨ hi ≤ b) : w'.cell? ⟨b, j, none⟩ = some u := by
 have := s.block b hb hd
 simp only [World.cell?, this] at h ⊢; exact h
theorem Stp.frozen {lo hi b j : Nat} {w w' : World} (s : Stp lo hi w w') (h : w.frozen? ⟨b, j, none⟩ = false) (hb : b < w.heap.size) (hd : b < lo ∨ hi ≤ b) : w'.frozen? ⟨b, j, none⟩ = false := by
 have := s.block b hb hd
 simp only [World.frozen?, this] at h ⊢; exact h
theorem stp_set5 (W : World) (B k : Nat) (s : Sl) : Stp B (B + 1) W (((((W.setCell ⟨B, k * 5, none⟩ (.bool s.u)).setCell ⟨B, k * 5 + 1, none⟩ (.int .i64 s.a)).setCell ⟨B, k * 5 + 2, none⟩ (.int .i64 s.p)).setCell ⟨B, k * 5 + 3, none⟩ (.int .i64 s.v)).setCell ⟨B, k * 5 + 4, none⟩ (.int .i64 s.t)) :=
 ((((stp_setC W B _ _).trans (stp_setC _ B _ _)).trans (stp_setC _ B _ _)).trans (stp_setC _ B _ _)).trans (stp_setC _ B _ _)

set_option maxHeartbeats 2000000 in
theorem l5own_any (b off c : Nat) (l : List Sl) (w : World) (hbl : b < w.heap.size) (hc : ∀ i, i < l.length → ∀ j, j < layS.k → w.cell? ⟨b, off + i * layS.k + j, none⟩ = (layS.cs (l.getD i layS.d))[j]?) (hl : l.length ≤ 1048576) :
  Calls Tryz.prog 251 #[tab (.slice (some ⟨b, off, none⟩) l.length c)] w fun e w' => ∃ o' c', e = .returned (tab (.slice o' l.length c')) ∧ ownS w' w.heap.size (.slice o' l.length c') l ∧ Below w.heap.size w w' := by
 have HC := hide hc
 clear hc
 obtain ⟨W0, hW0⟩ : ∃ W, ((w.alloc (.cells #[.slice (some ⟨b, off, none⟩) l.length c] 32)).alloc (.cells #[.slice none 0 0] 32)) = W := ⟨_, rfl⟩
 have hb_W0 : Below w.heap.size w W0 := by rw [← hW0]; exact (((Below.refl _ _).alloc (Nat.le_refl _) _).alloc (by simp <;> omega) _)
 have HB := hide hb_W0
 clear hb_W0
 have zct : w.heap.size < W0.heap.size := by rw [← hW0]; simp <;> omega
 have ct0 : W0.cell? ⟨w.heap.size, 0, none⟩ = some (.slice (some ⟨b, off, none⟩) l.length c) := by rw [← hW0]; simp [go_sem]
 have zcr : w.heap.size + 1 < W0.heap.size := by rw [← hW0]; simp
 have cr0 : W0.cell? ⟨w.heap.size + 1, 0, none⟩ = some (.slice none 0 0) := by rw [← hW0]; simp [go_sem]
 have fcr0 : W0.frozen? ⟨w.heap.size + 1, 0, none⟩ = false := by rw [← hW0]; simp [go_sem]
 have HZ := hide zcr
 have hw00 := HB.out.size
 obtain ⟨W1, hW1⟩ : ∃ W, W0.alloc (.cells #[] 160) = W := ⟨_, rfl⟩
 have F1 : Hid (ownL layS 160 W1 W0.heap.size (.slice (some ⟨W0.heap.size, 0, none⟩) 0 0) []) := by rw [← hW1]; exact own_none0 (L := layS) W0 _
 have hb_W1 : Below W0.heap.size W0 W1 := by rw [← hW1]; exact (Below.refl _ _).alloc (Nat.le_refl _) _
 replace ct0 : W1.cell? ⟨w.heap.size, 0, none⟩ = some (.slice (some ⟨b, off, none⟩) l.length c) := (hb_W1.cell (p := ⟨w.heap.size, 0, none⟩) zct).trans ct0
 replace zct : w.heap.size < W1.heap.size := Nat.lt_of_lt_of_le zct hb_W1.size
 replace cr0 : W1.cell? ⟨w.heap.size + 1, 0, none⟩ = some (.slice none 0 0) := (hb_W1.cell (p := ⟨w.heap.size + 1, 0, none⟩) zcr).trans cr0
 replace fcr0 : W1.frozen? ⟨w.heap.size + 1, 0, none⟩ = false := (hb_W1.frozen (p := ⟨w.heap.size + 1, 0, none⟩) zcr).trans fcr0
 replace zcr : w.heap.size + 1 < W1.heap.size := Nat.lt_of_lt_of_le zcr hb_W1.size
 replace HB := hide (HB.out.trans (hb_W1.mono HB.out.size))
 clear hb_W1
 have hsz1 : W0.heap.size ≤ W1.heap.size := by rw [← hW1]; simp
 have rdl : Hid (RdL layS w.heap.size W1 (some ⟨b, off, none⟩) l) := .inr ⟨b, off, rfl, hbl, fun i hi j hj => (HB.out.cell (p := ⟨b, off + i * layS.k + j, none⟩) hbl).trans (HC.out i hi j hj)⟩
 go_enter Tryz.func251, Tryz.ntmps251
 go_wp2_with (at_builtin; refine wpList_append_lay appS rfl _ _ rfl W0.heap.size _ [] rfl F1.out (some ⟨b, off, none⟩) c w.heap.size l l.length rfl rfl (fun h => by cases h) rdl.out ?c1 ?c2 ?_)
 case c1 => simp; omega
 case c2 => exact hsz1
 intro v2 w2 hv2 hg2 _
 (try rw [List.nil_append] at hv2)
 have hb : Below W0.heap.size W1 w2 := (Below.refl _ _).grown hg2 hsz1 (fun q h => (F1.out.lt q h).1)
 have HO := hide hv2
 obtain ⟨o2, c2, hve, _⟩ := ownL.open (L := layS) hv2
 subst hve
 have cr02 : w2.cell? ⟨w.heap.size + 1, 0, none⟩ = some (.slice none 0 0) := (hb.cell (p := ⟨w.heap.size + 1, 0, none⟩) HZ.out).trans cr0
 have fcr02 : w2.frozen? ⟨w.heap.size + 1, 0, none⟩ = false := (hb.frozen (p := ⟨w.heap.size + 1, 0, none⟩) HZ.out).trans fcr0
 have HB2 := hide (HB.out.trans (hb.mono hw00))
 clear hv2 hg2 hb F1 cr0 fcr0
 go_wp2
 refine bodyPost_ret (v := tab (.slice o2 l.length c2)) (by simp [results, Tryz.results251, go_sem, cr02]) rfl ⟨_, _, rfl, ?_, ?_⟩
 ·exact own_mono (ownsRow_setCell_below HO.out (show w.heap.size + 1 < W0.heap.size from HZ.out) _) hw00
 ·exact HB2.out.setCell (p := ⟨w.heap.size + 1, 0, none⟩) (by simp) _

end Go.Proofs.YtmmhgkkcpjhiiaaGreat

