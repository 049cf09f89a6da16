/- The program's FlowsOf; both sides' in the laws' words. -/
import Derived.Shelf.SlSortCmp.NoneTotal
import Derived.Test.YtljogkoaaidlcaaDoorQAgentText21
import Derived.Test.YtljogkoaaidlcaaDoorQAgentText10
import Derived.Test.YtljogkoaaidlcaaDoorQAgentText12
import Derived.Test.YtljogkoaaidlcaaDoorQAgentText14
import Derived.Test.YtljogkoaaidlcaaDoorQAgentText11
import Derived.Test.YtljogkoaaidlcaaDoorQAgentText05
import Derived.Test.YtljogkoaaidlcaaDoorQAgentText01
import Derived.Test.YtljogkoaaidlcaaDoorQAgentText13
namespace Go.Proofs.YtljogkoaaidlcaaDoor
open Go.ChangeShapes Go.WideShapes Go.ChangeAt Go.RowKit Go.Joins
set_option linter.unusedVariables false
set_option linter.unusedSimpArgs false

theorem flowsTo_ok {l : List Sl} (h : tableOkB l = true) : ∀ x ∈ flowsTo l l.length, flowOkB x.1 x.2 = true := by
 intro x hx
 unfold flowsTo at hx
 rw [List.take_length] at hx
 obtain ⟨s, hs, rfl⟩ := List.mem_map.1 hx
 obtain ⟨h1, h2⟩ := List.mem_filter.1 hs
 obtain ⟨i, hi, e⟩ := List.getElem_of_mem h1
 have h3 := flowsOk_of h i hi
 rw [List.getD_eq_getElem?_getD, List.getElem?_eq_getElem hi, e] at h3
 exact h3 h2
theorem sortNone (c : Nat) (fv : Value) (w : World) : Calls Tryd.prog 33 #[.slice none 0 c, fv] w fun e w' => e = .returned (.tuple #[]) ∧ w' = w :=
 Go.Proofs.AnyF.slices_SortFunc_none sortFlow none c fv w

set_option maxHeartbeats 4000000 in
theorem implFlowsOf_any (o : Option Addr) (c : Nat) (l : List Sl) (w : World) (hR : RdS w.heap.size w o l) (hl : l.length ≤ 1048576) :
  Calls Tryd.prog 21 #[tab (.slice o l.length c)] w fun e w' => ∃ v, e = .returned v ∧ ownL layF 48 w' w.heap.size v (flowsM l) ∧ Below w.heap.size w w' := by
 obtain ⟨W0, hW0⟩ : ∃ W, (w.alloc (.cells #[.slice o l.length c] 32)) = W := ⟨_, rfl⟩
 have hb_W0 : Below w.heap.size w W0 := by rw [← hW0]; exact ((Below.refl _ _).alloc (Nat.le_refl _) _)
 have HB := hide hb_W0
 clear hb_W0
 have zct : w.heap.size < W0.heap.size := by rw [← hW0]; simp
 have ct0 : W0.cell? ⟨w.heap.size, 0, none⟩ = some (.slice o l.length c) := by rw [← hW0]; simp [go_sem]
 have hw00 := HB.out.size
 have hc := tableFrom_any o c l W0 ((hR.kept HB.out (Nat.le_refl _)).le HB.out.size) hl
 cases hT : tableOkB l with
 | false =>
  have HM := hide (show flowsM l = [] by unfold flowsM; rw [hT]; rfl)
  rw [hT] at hc
  go_enter Tryd.func21, Tryd.ntmps21
  go_wp2_with fail
  refine (hc).mono ?_
  rintro e v1 ⟨o', n', c', rfl, hv, hb⟩
  replace ct0 : v1.cell? ⟨w.heap.size, 0, none⟩ = some (.slice o l.length c) := (hb.cell (p := ⟨w.heap.size, 0, none⟩) zct).trans ct0
  replace zct : w.heap.size < v1.heap.size := Nat.lt_of_lt_of_le zct hb.size
  replace HB := hide (HB.out.trans (hb.mono HB.out.size))
  clear hb
  obtain ⟨W2, hW2⟩ : ∃ W, (v1.alloc (.cells #[.slice o' n' c'] 61)) = W := ⟨_, rfl⟩
  have hb_W2 : Below v1.heap.size v1 W2 := by rw [← hW2]; exact ((Below.refl _ _).alloc (Nat.le_refl _) _)
  replace ct0 : W2.cell? ⟨w.heap.size, 0, none⟩ = some (.slice o l.length c) := (hb_W2.cell (p := ⟨w.heap.size, 0, none⟩) zct).trans ct0
  replace zct : w.heap.size < W2.heap.size := Nat.lt_of_lt_of_le zct hb_W2.size
  replace HB := hide (HB.out.trans (hb_W2.mono HB.out.size))
  clear hb_W2
  have zck : v1.heap.size < W2.heap.size := by rw [← hW2]; simp
  have ck0 : W2.cell? ⟨v1.heap.size, 0, none⟩ = some (.slice o' n' c') := by rw [← hW2]; simp [go_sem]
  clear hc hv hT
  go_wp2
  go_ret
  exact ⟨_, rfl, by rw [HM.out]; exact World.ownsRow_nil _ _ _ _, HB.out⟩
 | true =>
  rw [hT] at hc
  have hn := (tableOkB_iff.1 hT).1
  have h16 := (tableOkB_iff.1 hT).2.1
  have HM := hide (show flowsM l = sortF (flowsTo l l.length) by unfold flowsM; rw [hT]; rfl)
  have HOK := hide (flowsTo_ok hT)
  have hfl : (flowsTo l l.length).length ≤ 1048576 := by rw [flowsTo_len]; have := countTo_le l l.length; omega
  go_enter Tryd.func21, Tryd.ntmps21
  go_wp2_with fail
  refine (hc).mono ?_
  rintro e v1 ⟨o', n', c', rfl, hv, hb⟩
  have hz0 : W0.heap.size ≤ v1.heap.size := hb.size
  obtain ⟨g, rfl, rfl, rfl, hown⟩ := hv (by simp)
  have HO := hide hown
  clear hown hv
  replace ct0 : v1.cell? ⟨w.heap.size, 0, none⟩ = some (.slice o l.length c) := (hb.cell (p := ⟨w.heap.size, 0, none⟩) zct).trans ct0
  replace zct : w.heap.size < v1.heap.size := Nat.lt_of_lt_of_le zct hb.size
  replace HB := hide (HB.out.trans (hb.mono HB.out.size))
  clear hb
  obtain ⟨W2, hW2⟩ : ∃ W, (v1.alloc (.cells #[.slice (some ⟨g, 0, none⟩) l.length l.length] 61)) = W := ⟨_, rfl⟩
  have hb_W2 : Below v1.heap.size v1 W2 := by rw [← hW2]; exact ((Below.refl _ _).alloc (Nat.le_refl _) _)
  replace ct0 : W2.cell? ⟨w.heap.size, 0, none⟩ = some (.slice o l.length c) := (hb_W2.cell (p := ⟨w.heap.size, 0, none⟩) zct).trans ct0
  replace zct : w.heap.size < W2.heap.size := Nat.lt_of_lt_of_le zct hb_W2.size
  replace HO := hide (own_kept HO.out hb_W2)
  replace HB := hide (HB.out.trans (hb_W2.mono HB.out.size))
  clear hb_W2
  have zck : v1.heap.size < W2.heap.size := by rw [← hW2]; simp
  have ck0 : W2.cell? ⟨v1.heap.size, 0, none⟩ = some (.slice (some ⟨g, 0, none⟩) l.length l.length) := by rw [← hW2]; simp [go_sem]
  have hz1 : v1.heap.size ≤ W2.heap.size := by rw [← hW2]; simp
  have hfw := flows_any g 0 l.length l W2 (HO.out.lt g rfl).2 (rd_of_own HO.out rfl) hl
  go_wp2_with fail
  refine (hfw).mono ?_
  rintro e v2 ⟨vf, rfl, hown, hb⟩
  have HF := hide hown
  clear hown
  replace ct0 : v2.cell? ⟨w.heap.size, 0, none⟩ = some (.slice o l.length c) := (hb.cell (p := ⟨w.heap.size, 0, none⟩) zct).trans ct0
  replace zct : w.heap.size < v2.heap.size := Nat.lt_of_lt_of_le zct hb.size
  replace ck0 : v2.cell? ⟨v1.heap.size, 0, none⟩ = some (.slice (some ⟨g, 0, none⟩) l.length l.length) := (hb.cell (p := ⟨v1.heap.size, 0, none⟩) zck).trans ck0
  replace zck : v1.heap.size < v2.heap.size := Nat.lt_of_lt_of_le zck hb.size
  replace HO := hide (own_kept HO.out hb)
  replace HB := hide (HB.out.trans (hb.mono HB.out.size))
  clear hb
  clear hfw hc hT HO
  have hW2s := HB.out.size
  obtain ⟨fs, hfs⟩ : ∃ fs, flowsTo l l.length = fs := ⟨_, rfl⟩
  rw [hfs] at HM HOK HF hfl
  clear hfs
  obtain ⟨o2, c2, hve, _⟩ := ownL.open (L := layF) HF.out
  subst hve
  rcases own_some HF.out with ⟨rfl, rfl, rfl⟩ | ⟨g2, rfl, hcc, hgw⟩
  ·skip
   have hsn := fun fv => sortNone 0 fv v2
   go_wp2_with fail
   refine (hsn _).mono ?_
   rintro e W5 ⟨rfl, rfl⟩
   clear hsn
   go_wp2
   go_ret
   exact ⟨_, rfl, by rw [HM.out]; exact World.ownsRow_nil _ _ _ _, HB.out⟩
  ·skip
   have hso := sortFlow_any g2 c2 W2.heap.size fs v2 hfl HOK.out HF.out
   have hgl := (HF.out.lt g2 rfl).1
   obtain ⟨nf, hnf⟩ : ∃ nf, fs.length = nf := ⟨_, rfl⟩
   rw [hnf] at hso
   simp only [hnf]
   clear hnf
   go_wp2_with fail
   refine hso.mono ?_
   rintro e W5 ⟨rfl, ho5, hst⟩
   have HR := hide (And.intro (own_mono ho5 (Nat.le_trans hw00 (Nat.le_trans hz0 hz1))) (HB.out.trans (hst.below (Nat.le_trans (Nat.le_trans hw00 (Nat.le_trans hz0 hz1)) hgl) HB.out.size)))
   clear ho5 hst hso
   go_wp2
   go_ret
   exact ⟨_, rfl, by rw [HM.out]; exact HR.out.1, HR.out.2⟩

abbrev RdFs (C : Nat) (w : World) (v : Value) (l : List (Int × Int)) : Prop := RdV layF C w v l
def InFs (lo hi : Nat) (w : World) (v : Value) (l : List (Int × Int)) : Prop := InL layF 48 lo hi w v l
theorem InFs.rd {lo hi : Nat} {w : World} {v : Value} {l : List (Int × Int)} (h : InFs lo hi w v l) : RdFs hi w v l := InL.rd (L := layF) h
theorem InFs.step {a b lo hi : Nat} {w w' : World} {v : Value} {l : List (Int × Int)} (h : InFs a b w v l) (s : Stp lo hi w w') (hd : hi ≤ a ∨ b ≤ lo) : InFs a b w' v l := InRow.step h s hd

end Go.Proofs.YtljogkoaaidlcaaDoor

