/- Drop, the model's and the program's. -/
import Derived.Test.YtncdjmniphnpgaaSDropS
namespace Go.Proofs.Ytncdjmniphnpgaa
open Go.ChangeShapes Go.WideShapes Go.ChangeAt Go.RowKit Go.Joins
set_option linter.unusedVariables false
set_option linter.unusedSimpArgs false

def dropM (l : List Sl) (a p : Int) : List Sl := if (tableOkB l && flowOkB a p) = true then dropL l a p else []
theorem dropM_len (l : List Sl) (a p : Int) : (dropM l a p).length ≤ 16 := by
  unfold dropM
  split
  · next h =>
    rw [dropL_length]
    exact (tableOkB_iff.1 ((Bool.and_eq_true _ _).mp h).1).2.1
  · exact Nat.zero_le _
set_option maxHeartbeats 4000000 in
theorem specDrop_any (o : Option Addr) (c : Nat) (l : List Sl) (a p : Int) (w : World) (hR : RdS w.heap.size w o l) (hl : l.length ≤ 1048576) :
    Calls Try.prog 48 #[tab (.slice o l.length c), flow a p] w fun e w' => ∃ v', e = .returned (.tuple #[v', .bool (gotB l a p)]) ∧ InT w.heap.size w'.heap.size w' v' (dropM l a p) ∧ Below w.heap.size w w' := by
  obtain ⟨W0, hW0⟩ : ∃ W, (((w.alloc (.cells #[.slice o l.length c] 25)).alloc (.cells #[.int .i64 a, .int .i64 p] 27)).alloc (.cells #[.slice none 0 0] 25)) = W := ⟨_, rfl⟩
  have hb_W0 : Below w.heap.size w W0 := by rw [← hW0]; exact ((((Below.refl _ _).alloc (Nat.le_refl _) _).alloc (by simp <;> omega) _).alloc (by simp <;> omega) _)
  have HB := hide hb_W0
  clear hb_W0
  have zct : w.heap.size < W0.heap.size := by rw [← hW0]; simp <;> omega
  have ct0 : W0.cell? ⟨w.heap.size, 0, none⟩ = some (.slice o l.length c) := by rw [← hW0]; simp [go_sem]
  have zcf : w.heap.size + 1 < W0.heap.size := by rw [← hW0]; simp <;> omega
  have cf0 : W0.cell? ⟨w.heap.size + 1, 0, none⟩ = some (.int .i64 a) := by rw [← hW0]; simp [go_sem]
  have cf1 : W0.cell? ⟨w.heap.size + 1, 1, none⟩ = some (.int .i64 p) := by rw [← hW0]; simp [go_sem]
  have zcr : w.heap.size + 1 + 1 < W0.heap.size := by rw [← hW0]; simp
  have cr0 : W0.cell? ⟨w.heap.size + 1 + 1, 0, none⟩ = some (.slice none 0 0) := by rw [← hW0]; simp [go_sem]
  have fcr0 : W0.frozen? ⟨w.heap.size + 1 + 1, 0, none⟩ = false := by rw [← hW0]; simp [go_sem]
  have HZ := hide zcr
  have hok := specTableOk_any o c l W0 ((hR.kept HB.out (Nat.le_refl _)).le HB.out.size) hl
  cases hT : tableOkB l with
  | false =>
    have HM := hide (show dropM l a p = [] by unfold dropM; rw [hT]; rfl)
    have HG := hide (show gotB l a p = false by unfold gotB; rw [hT]; rfl)
    rw [hT] at hok
    go_enter Try.func48, Try.ntmps48
    go_wp2_with fail
    refine (hok).mono ?_
    rintro e v1 ⟨rfl, hb⟩
    replace ct0 : v1.cell? ⟨w.heap.size, 0, none⟩ = some (.slice o l.length c) := (hb.cell (p := ⟨w.heap.size, 0, none⟩) zct).trans ct0
    replace zct : w.heap.size < v1.heap.size := Nat.lt_of_lt_of_le zct hb.size
    replace cf0 : v1.cell? ⟨w.heap.size + 1, 0, none⟩ = some (.int .i64 a) := (hb.cell (p := ⟨w.heap.size + 1, 0, none⟩) zcf).trans cf0
    replace cf1 : v1.cell? ⟨w.heap.size + 1, 1, none⟩ = some (.int .i64 p) := (hb.cell (p := ⟨w.heap.size + 1, 1, none⟩) zcf).trans cf1
    replace zcf : w.heap.size + 1 < v1.heap.size := Nat.lt_of_lt_of_le zcf hb.size
    replace cr0 : v1.cell? ⟨w.heap.size + 1 + 1, 0, none⟩ = some (.slice none 0 0) := (hb.cell (p := ⟨w.heap.size + 1 + 1, 0, none⟩) zcr).trans cr0
    replace fcr0 : v1.frozen? ⟨w.heap.size + 1 + 1, 0, none⟩ = false := (hb.frozen (p := ⟨w.heap.size + 1 + 1, 0, none⟩) zcr).trans fcr0
    replace zcr : w.heap.size + 1 + 1 < v1.heap.size := Nat.lt_of_lt_of_le zcr hb.size
    replace HB := hide (HB.out.trans (hb.mono HB.out.size))
    clear hb
    clear hok hT
    go_wp2
    refine bodyPost_ret (v := .tuple #[tab (.slice none 0 0), .bool false]) (by simp [results, Try.results48, go_sem, cr0]) rfl ⟨_, by rw [HG.out], ⟨_, rfl, ?_⟩, ?_⟩
    · rw [HM.out]; exact InRow.of (World.ownsRow_nil _ _ _ _)
    · exact HB.out.setCell (p := ⟨w.heap.size + 1 + 1, 0, none⟩) (by simp <;> omega) _
  | true =>
    rw [hT] at hok
    have hn := (tableOkB_iff.1 hT).1
    have h16 := (tableOkB_iff.1 hT).2.1
    have HF0 := hide (flowsOk_of hT)
    cases hF : flowOkB a p with
    | false =>
      have HM := hide (show dropM l a p = [] by unfold dropM; rw [hT, hF]; rfl)
      have HG := hide (show gotB l a p = false by unfold gotB; rw [hT, hF]; rfl)
      go_enter Try.func48, Try.ntmps48
      go_wp2_with fail
      refine (hok).mono ?_
      rintro e v1 ⟨rfl, hb⟩
      replace ct0 : v1.cell? ⟨w.heap.size, 0, none⟩ = some (.slice o l.length c) := (hb.cell (p := ⟨w.heap.size, 0, none⟩) zct).trans ct0
      replace zct : w.heap.size < v1.heap.size := Nat.lt_of_lt_of_le zct hb.size
      replace cf0 : v1.cell? ⟨w.heap.size + 1, 0, none⟩ = some (.int .i64 a) := (hb.cell (p := ⟨w.heap.size + 1, 0, none⟩) zcf).trans cf0
      replace cf1 : v1.cell? ⟨w.heap.size + 1, 1, none⟩ = some (.int .i64 p) := (hb.cell (p := ⟨w.heap.size + 1, 1, none⟩) zcf).trans cf1
      replace zcf : w.heap.size + 1 < v1.heap.size := Nat.lt_of_lt_of_le zcf hb.size
      replace cr0 : v1.cell? ⟨w.heap.size + 1 + 1, 0, none⟩ = some (.slice none 0 0) := (hb.cell (p := ⟨w.heap.size + 1 + 1, 0, none⟩) zcr).trans cr0
      replace fcr0 : v1.frozen? ⟨w.heap.size + 1 + 1, 0, none⟩ = false := (hb.frozen (p := ⟨w.heap.size + 1 + 1, 0, none⟩) zcr).trans fcr0
      replace zcr : w.heap.size + 1 + 1 < v1.heap.size := Nat.lt_of_lt_of_le zcr hb.size
      replace HB := hide (HB.out.trans (hb.mono HB.out.size))
      clear hb
      have hfl := specFlowOk_any a p v1
      rw [hF] at hfl
      go_wp2_with fail
      refine (hfl).mono ?_
      rintro e v2 ⟨rfl, hb⟩
      replace ct0 : v2.cell? ⟨w.heap.size, 0, none⟩ = some (.slice o l.length c) := (hb.cell (p := ⟨w.heap.size, 0, none⟩) zct).trans ct0
      replace zct : w.heap.size < v2.heap.size := Nat.lt_of_lt_of_le zct hb.size
      replace cf0 : v2.cell? ⟨w.heap.size + 1, 0, none⟩ = some (.int .i64 a) := (hb.cell (p := ⟨w.heap.size + 1, 0, none⟩) zcf).trans cf0
      replace cf1 : v2.cell? ⟨w.heap.size + 1, 1, none⟩ = some (.int .i64 p) := (hb.cell (p := ⟨w.heap.size + 1, 1, none⟩) zcf).trans cf1
      replace zcf : w.heap.size + 1 < v2.heap.size := Nat.lt_of_lt_of_le zcf hb.size
      replace cr0 : v2.cell? ⟨w.heap.size + 1 + 1, 0, none⟩ = some (.slice none 0 0) := (hb.cell (p := ⟨w.heap.size + 1 + 1, 0, none⟩) zcr).trans cr0
      replace fcr0 : v2.frozen? ⟨w.heap.size + 1 + 1, 0, none⟩ = false := (hb.frozen (p := ⟨w.heap.size + 1 + 1, 0, none⟩) zcr).trans fcr0
      replace zcr : w.heap.size + 1 + 1 < v2.heap.size := Nat.lt_of_lt_of_le zcr hb.size
      replace HB := hide (HB.out.trans (hb.mono HB.out.size))
      clear hb
      clear hok hfl hT hF
      go_wp2
      refine bodyPost_ret (v := .tuple #[tab (.slice none 0 0), .bool false]) (by simp [results, Try.results48, go_sem, cr0]) rfl ⟨_, by rw [HG.out], ⟨_, rfl, ?_⟩, ?_⟩
      · rw [HM.out]; exact InRow.of (World.ownsRow_nil _ _ _ _)
      · exact HB.out.setCell (p := ⟨w.heap.size + 1 + 1, 0, none⟩) (by simp <;> omega) _
    | true =>
      have HM := hide (show dropM l a p = dropL l a p by unfold dropM; rw [hT, hF]; rfl)
      have HG := hide (show gotB l a p = (endL l a p).2 by unfold gotB; rw [hT, hF]; rfl)
      have hfl := fun W => specFlowOk_any a p W
      rw [hF] at hfl
      clear hT
      rcases hR with hR | ⟨b, off, rfl, hbl, hcell⟩
      · subst hR; simp at hn
      have HC := hide hcell
      clear hcell
      go_enter Try.func48, Try.ntmps48
      go_wp2_with fail
      refine (hok).mono ?_
      rintro e v1 ⟨rfl, hb⟩
      replace ct0 : v1.cell? ⟨w.heap.size, 0, none⟩ = some (.slice (some ⟨b, off, none⟩) l.length c) := (hb.cell (p := ⟨w.heap.size, 0, none⟩) zct).trans ct0
      replace zct : w.heap.size < v1.heap.size := Nat.lt_of_lt_of_le zct hb.size
      replace cf0 : v1.cell? ⟨w.heap.size + 1, 0, none⟩ = some (.int .i64 a) := (hb.cell (p := ⟨w.heap.size + 1, 0, none⟩) zcf).trans cf0
      replace cf1 : v1.cell? ⟨w.heap.size + 1, 1, none⟩ = some (.int .i64 p) := (hb.cell (p := ⟨w.heap.size + 1, 1, none⟩) zcf).trans cf1
      replace zcf : w.heap.size + 1 < v1.heap.size := Nat.lt_of_lt_of_le zcf hb.size
      replace cr0 : v1.cell? ⟨w.heap.size + 1 + 1, 0, none⟩ = some (.slice none 0 0) := (hb.cell (p := ⟨w.heap.size + 1 + 1, 0, none⟩) zcr).trans cr0
      replace fcr0 : v1.frozen? ⟨w.heap.size + 1 + 1, 0, none⟩ = false := (hb.frozen (p := ⟨w.heap.size + 1 + 1, 0, none⟩) zcr).trans fcr0
      replace zcr : w.heap.size + 1 + 1 < v1.heap.size := Nat.lt_of_lt_of_le zcr hb.size
      replace HB := hide (HB.out.trans (hb.mono HB.out.size))
      clear hb
      go_wp2_with fail
      refine (hfl v1).mono ?_
      rintro e v2 ⟨rfl, hb⟩
      replace ct0 : v2.cell? ⟨w.heap.size, 0, none⟩ = some (.slice (some ⟨b, off, none⟩) l.length c) := (hb.cell (p := ⟨w.heap.size, 0, none⟩) zct).trans ct0
      replace zct : w.heap.size < v2.heap.size := Nat.lt_of_lt_of_le zct hb.size
      replace cf0 : v2.cell? ⟨w.heap.size + 1, 0, none⟩ = some (.int .i64 a) := (hb.cell (p := ⟨w.heap.size + 1, 0, none⟩) zcf).trans cf0
      replace cf1 : v2.cell? ⟨w.heap.size + 1, 1, none⟩ = some (.int .i64 p) := (hb.cell (p := ⟨w.heap.size + 1, 1, none⟩) zcf).trans cf1
      replace zcf : w.heap.size + 1 < v2.heap.size := Nat.lt_of_lt_of_le zcf hb.size
      replace cr0 : v2.cell? ⟨w.heap.size + 1 + 1, 0, none⟩ = some (.slice none 0 0) := (hb.cell (p := ⟨w.heap.size + 1 + 1, 0, none⟩) zcr).trans cr0
      replace fcr0 : v2.frozen? ⟨w.heap.size + 1 + 1, 0, none⟩ = false := (hb.frozen (p := ⟨w.heap.size + 1 + 1, 0, none⟩) zcr).trans fcr0
      replace zcr : w.heap.size + 1 + 1 < v2.heap.size := Nat.lt_of_lt_of_le zcr hb.size
      replace HB := hide (HB.out.trans (hb.mono HB.out.size))
      clear hb
      go_wp2_with fail
      refine (l5drop_any b off c l a p v2 (by omega) h16 hF HF0.out (Nat.lt_of_lt_of_le hbl HB.out.size) (fun i hi j hj => (HB.out.cell (p := ⟨b, off + i * layS.k + j, none⟩) hbl).trans (HC.out i hi j hj))).mono ?_
      rintro e v3 ⟨b', off', c', rfl, hb1, hrd, hb⟩
      have HRd := hide hrd
      clear hrd
      replace ct0 : v3.cell? ⟨w.heap.size, 0, none⟩ = some (.slice (some ⟨b, off, none⟩) l.length c) := (hb.cell (p := ⟨w.heap.size, 0, none⟩) zct).trans ct0
      replace zct : w.heap.size < v3.heap.size := Nat.lt_of_lt_of_le zct hb.size
      replace cf0 : v3.cell? ⟨w.heap.size + 1, 0, none⟩ = some (.int .i64 a) := (hb.cell (p := ⟨w.heap.size + 1, 0, none⟩) zcf).trans cf0
      replace cf1 : v3.cell? ⟨w.heap.size + 1, 1, none⟩ = some (.int .i64 p) := (hb.cell (p := ⟨w.heap.size + 1, 1, none⟩) zcf).trans cf1
      replace zcf : w.heap.size + 1 < v3.heap.size := Nat.lt_of_lt_of_le zcf hb.size
      replace cr0 : v3.cell? ⟨w.heap.size + 1 + 1, 0, none⟩ = some (.slice none 0 0) := (hb.cell (p := ⟨w.heap.size + 1 + 1, 0, none⟩) zcr).trans cr0
      replace fcr0 : v3.frozen? ⟨w.heap.size + 1 + 1, 0, none⟩ = false := (hb.frozen (p := ⟨w.heap.size + 1 + 1, 0, none⟩) zcr).trans fcr0
      replace zcr : w.heap.size + 1 + 1 < v3.heap.size := Nat.lt_of_lt_of_le zcr hb.size
      replace HB := hide (HB.out.trans (hb.mono HB.out.size))
      clear hb
      clear hok hfl hF
      obtain ⟨f, hf⟩ : ∃ f, (endL l a p).2 = f := ⟨_, rfl⟩
      rw [hf] at HG
      simp only [hf]
      clear hf
      obtain ⟨W3, hW3⟩ : ∃ W, (v3.alloc (.cells #[.slice (some ⟨b', off', none⟩) l.length c'] 25)) = W := ⟨_, rfl⟩
      have hb_W3 : Below v3.heap.size v3 W3 := by rw [← hW3]; exact ((Below.refl _ _).alloc (Nat.le_refl _) _)
      replace ct0 : W3.cell? ⟨w.heap.size, 0, none⟩ = some (.slice (some ⟨b, off, none⟩) l.length c) := (hb_W3.cell (p := ⟨w.heap.size, 0, none⟩) zct).trans ct0
      replace zct : w.heap.size < W3.heap.size := Nat.lt_of_lt_of_le zct hb_W3.size
      replace cf0 : W3.cell? ⟨w.heap.size + 1, 0, none⟩ = some (.int .i64 a) := (hb_W3.cell (p := ⟨w.heap.size + 1, 0, none⟩) zcf).trans cf0
      replace cf1 : W3.cell? ⟨w.heap.size + 1, 1, none⟩ = some (.int .i64 p) := (hb_W3.cell (p := ⟨w.heap.size + 1, 1, none⟩) zcf).trans cf1
      replace zcf : w.heap.size + 1 < W3.heap.size := Nat.lt_of_lt_of_le zcf hb_W3.size
      replace cr0 : W3.cell? ⟨w.heap.size + 1 + 1, 0, none⟩ = some (.slice none 0 0) := (hb_W3.cell (p := ⟨w.heap.size + 1 + 1, 0, none⟩) zcr).trans cr0
      replace fcr0 : W3.frozen? ⟨w.heap.size + 1 + 1, 0, none⟩ = false := (hb_W3.frozen (p := ⟨w.heap.size + 1 + 1, 0, none⟩) zcr).trans fcr0
      replace zcr : w.heap.size + 1 + 1 < W3.heap.size := Nat.lt_of_lt_of_le zcr hb_W3.size
      replace HB := hide (HB.out.trans (hb_W3.mono HB.out.size))
      clear hb_W3
      have zcx : v3.heap.size < W3.heap.size := by rw [← hW3]; simp
      have cx0 : W3.cell? ⟨v3.heap.size, 0, none⟩ = some (.slice (some ⟨b', off', none⟩) l.length c') := by rw [← hW3]; simp [go_sem]
      have hpl := dropL_length l a p
      obtain ⟨m, hm⟩ : ∃ m, dropL l a p = m := ⟨_, rfl⟩
      rw [hm] at HM HRd hpl
      have ho := l5own_any b' off' c' m W3 (Nat.lt_of_lt_of_le hb1 (by rw [← hW3]; simp)) (fun i hi j hj => (by rw [← hW3]; exact ((Below.refl _ v3).alloc (Nat.le_refl _) _).cell (p := ⟨b', off' + i * layS.k + j, none⟩) hb1 : W3.cell? ⟨b', off' + i * layS.k + j, none⟩ = v3.cell? ⟨b', off' + i * layS.k + j, none⟩).trans (HRd.out i hi j hj)) (by omega)
      rw [hpl] at ho
      have hsz3 : w.heap.size + 1 + 1 < W3.heap.size := zcr
      clear hm
      go_wp2_with fail
      refine (ho).mono ?_
      rintro e v4 ⟨o2, c2, rfl, hown, hb⟩
      have HO := hide hown
      clear hown
      replace ct0 : v4.cell? ⟨w.heap.size, 0, none⟩ = some (.slice (some ⟨b, off, none⟩) l.length c) := (hb.cell (p := ⟨w.heap.size, 0, none⟩) zct).trans ct0
      replace zct : w.heap.size < v4.heap.size := Nat.lt_of_lt_of_le zct hb.size
      replace cf0 : v4.cell? ⟨w.heap.size + 1, 0, none⟩ = some (.int .i64 a) := (hb.cell (p := ⟨w.heap.size + 1, 0, none⟩) zcf).trans cf0
      replace cf1 : v4.cell? ⟨w.heap.size + 1, 1, none⟩ = some (.int .i64 p) := (hb.cell (p := ⟨w.heap.size + 1, 1, none⟩) zcf).trans cf1
      replace zcf : w.heap.size + 1 < v4.heap.size := Nat.lt_of_lt_of_le zcf hb.size
      replace cr0 : v4.cell? ⟨w.heap.size + 1 + 1, 0, none⟩ = some (.slice none 0 0) := (hb.cell (p := ⟨w.heap.size + 1 + 1, 0, none⟩) zcr).trans cr0
      replace fcr0 : v4.frozen? ⟨w.heap.size + 1 + 1, 0, none⟩ = false := (hb.frozen (p := ⟨w.heap.size + 1 + 1, 0, none⟩) zcr).trans fcr0
      replace zcr : w.heap.size + 1 + 1 < v4.heap.size := Nat.lt_of_lt_of_le zcr hb.size
      replace cx0 : v4.cell? ⟨v3.heap.size, 0, none⟩ = some (.slice (some ⟨b', off', none⟩) l.length c') := (hb.cell (p := ⟨v3.heap.size, 0, none⟩) zcx).trans cx0
      replace zcx : v3.heap.size < v4.heap.size := Nat.lt_of_lt_of_le zcx hb.size
      replace HB := hide (HB.out.trans (hb.mono HB.out.size))
      clear hb
      clear ho
      go_wp2
      refine bodyPost_ret (v := .tuple #[tab (.slice o2 l.length c2), .bool f]) (by simp [results, Try.results48, go_sem, cr0]) rfl ⟨_, by rw [HG.out], ⟨_, rfl, ?_⟩, ?_⟩
      · rw [HM.out]
        have h := ownsRow_setCell_below HO.out (a := ⟨w.heap.size + 1 + 1, 0, none⟩) hsz3 (.slice o2 l.length c2)
        exact InRow.of (own_mono h (by omega))
      · exact HB.out.setCell (p := ⟨w.heap.size + 1 + 1, 0, none⟩) (by simp <;> omega) _

set_option maxHeartbeats 2000000 in
theorem drop_any (g c base : Nat) (l : List Sl) (a p : Int) (w : World) (hn : 0 < l.length) (h16 : l.length ≤ 16) (hf : flowOkB a p = true) (hok : flowsOk l) (ho : w.ownsRow base CellT 5 (.slice (some ⟨g, 0, none⟩) l.length c) l.length (l.flatMap layS.cs)) :
    Calls Try.prog 67 #[tab (.slice (some ⟨g, 0, none⟩) l.length c), flow a p] w fun e w' => e = .returned (.bool (endL l a p).2) ∧ w'.ownsRow base CellT 5 (.slice (some ⟨g, 0, none⟩) l.length c) l.length ((dropL l a p).flatMap layS.cs) ∧ Stp g (g + 1) w w' := by
  have HO := hide ho
  have hl : l.length ≤ 1048576 := by omega
  clear ho
  obtain ⟨W0, hW0⟩ : ∃ W, ((w.alloc (.cells #[.slice (some ⟨g, 0, none⟩) l.length c] 78)).alloc (.cells #[.int .i64 a, .int .i64 p] 27)) = W := ⟨_, rfl⟩
  have hb_W0 : Below w.heap.size w W0 := by rw [← hW0]; exact (((Below.refl _ _).alloc (Nat.le_refl _) _).alloc (by simp <;> omega) _)
  replace HO := hide (own_kept HO.out hb_W0)
  have HB := hide hb_W0
  clear hb_W0
  have zct : w.heap.size < W0.heap.size := by rw [← hW0]; simp <;> omega
  have ct0 : W0.cell? ⟨w.heap.size, 0, none⟩ = some (.slice (some ⟨g, 0, none⟩) l.length c) := by rw [← hW0]; simp [go_sem]
  have zcf : w.heap.size + 1 < W0.heap.size := by rw [← hW0]; simp
  have cf0 : W0.cell? ⟨w.heap.size + 1, 0, none⟩ = some (.int .i64 a) := by rw [← hW0]; simp [go_sem]
  have cf1 : W0.cell? ⟨w.heap.size + 1, 1, none⟩ = some (.int .i64 p) := by rw [← hW0]; simp [go_sem]
  have hat := endOfWay_any g 0 c l a p W0 hn hl hf (HO.out.lt g rfl).2 (rd_of_own HO.out rfl)
  rcases endL_cases l hn a p with hE | ⟨i0, hi0, ⟨hE, _⟩ | ⟨hE, _⟩⟩
  · skip
    have HP := hide (dropL_no (l := l) (a := a) (p := p) (by rw [hE]))
    have HD := hide (show (endL l a p).2 = false by rw [hE])
    rw [hE] at hat
    clear hE
    go_enter Try.func67, Try.ntmps67
    go_wp2_with fail
    refine (hat).mono ?_
    rintro e v1 ⟨rfl, hb⟩
    replace ct0 : v1.cell? ⟨w.heap.size, 0, none⟩ = some (.slice (some ⟨g, 0, none⟩) l.length c) := (hb.cell (p := ⟨w.heap.size, 0, none⟩) zct).trans ct0
    replace zct : w.heap.size < v1.heap.size := Nat.lt_of_lt_of_le zct hb.size
    replace cf0 : v1.cell? ⟨w.heap.size + 1, 0, none⟩ = some (.int .i64 a) := (hb.cell (p := ⟨w.heap.size + 1, 0, none⟩) zcf).trans cf0
    replace cf1 : v1.cell? ⟨w.heap.size + 1, 1, none⟩ = some (.int .i64 p) := (hb.cell (p := ⟨w.heap.size + 1, 1, none⟩) zcf).trans cf1
    replace zcf : w.heap.size + 1 < v1.heap.size := Nat.lt_of_lt_of_le zcf hb.size
    replace HO := hide (own_kept HO.out hb)
    replace HB := hide (HB.out.trans (hb.mono HB.out.size))
    clear hb
    clear hat
    go_wp2
    go_ret
    exact ⟨by rw [HD.out]; rfl, by rw [HP.out]; exact HO.out, Stp.of HB.out⟩
  · skip
    have HP := hide (dropL_no (l := l) (a := a) (p := p) (by rw [hE]))
    have HD := hide (show (endL l a p).2 = false by rw [hE])
    rw [hE] at hat
    clear hE
    go_enter Try.func67, Try.ntmps67
    go_wp2_with fail
    refine (hat).mono ?_
    rintro e v1 ⟨rfl, hb⟩
    replace ct0 : v1.cell? ⟨w.heap.size, 0, none⟩ = some (.slice (some ⟨g, 0, none⟩) l.length c) := (hb.cell (p := ⟨w.heap.size, 0, none⟩) zct).trans ct0
    replace zct : w.heap.size < v1.heap.size := Nat.lt_of_lt_of_le zct hb.size
    replace cf0 : v1.cell? ⟨w.heap.size + 1, 0, none⟩ = some (.int .i64 a) := (hb.cell (p := ⟨w.heap.size + 1, 0, none⟩) zcf).trans cf0
    replace cf1 : v1.cell? ⟨w.heap.size + 1, 1, none⟩ = some (.int .i64 p) := (hb.cell (p := ⟨w.heap.size + 1, 1, none⟩) zcf).trans cf1
    replace zcf : w.heap.size + 1 < v1.heap.size := Nat.lt_of_lt_of_le zcf hb.size
    replace HO := hide (own_kept HO.out hb)
    replace HB := hide (HB.out.trans (hb.mono HB.out.size))
    clear hb
    clear hat
    go_wp2
    go_ret
    exact ⟨by rw [HD.out]; rfl, by rw [HP.out]; exact HO.out, Stp.of HB.out⟩
  · skip
    have HP := hide (dropL_yes hE)
    have HD := hide (show (endL l a p).2 = true by rw [hE])
    rw [hE] at hat
    clear hE
    go_enter Try.func67, Try.ntmps67
    go_wp2_with fail
    refine (hat).mono ?_
    rintro e v1 ⟨rfl, hb⟩
    replace ct0 : v1.cell? ⟨w.heap.size, 0, none⟩ = some (.slice (some ⟨g, 0, none⟩) l.length c) := (hb.cell (p := ⟨w.heap.size, 0, none⟩) zct).trans ct0
    replace zct : w.heap.size < v1.heap.size := Nat.lt_of_lt_of_le zct hb.size
    replace cf0 : v1.cell? ⟨w.heap.size + 1, 0, none⟩ = some (.int .i64 a) := (hb.cell (p := ⟨w.heap.size + 1, 0, none⟩) zcf).trans cf0
    replace cf1 : v1.cell? ⟨w.heap.size + 1, 1, none⟩ = some (.int .i64 p) := (hb.cell (p := ⟨w.heap.size + 1, 1, none⟩) zcf).trans cf1
    replace zcf : w.heap.size + 1 < v1.heap.size := Nat.lt_of_lt_of_le zcf hb.size
    replace HO := hide (own_kept HO.out hb)
    replace HB := hide (HB.out.trans (hb.mono HB.out.size))
    clear hb
    go_wp2_with fail
    refine (dropAt_any g c base l.length i0 l v1 rfl h16 hi0 hok HO.out).mono ?_
    rintro e W2 ⟨⟨v, rfl⟩, ho2, hst⟩
    have HO2 := hide ho2
    have HSt := hide ((Stp.of (lo := g) (hi := g + 1) HB.out).trans hst)
    clear ho2 hst hat
    go_wp2
    go_ret
    exact ⟨by rw [HD.out]; rfl, by rw [HP.out]; exact HO2.out, HSt.out⟩

set_option maxHeartbeats 4000000 in
theorem implDrop_any (o : Option Addr) (c : Nat) (l : List Sl) (a p : Int) (w : World) (hR : RdS w.heap.size w o l) (hl : l.length ≤ 1048576) :
    Calls Try.prog 26 #[tab (.slice o l.length c), flow a p] w fun e w' => ∃ v', e = .returned (.tuple #[v', .bool (gotB l a p)]) ∧ InT w.heap.size w'.heap.size w' v' (dropM l a p) ∧ Below w.heap.size w w' := by
  obtain ⟨W0, hW0⟩ : ∃ W, (((w.alloc (.cells #[.slice o l.length c] 25)).alloc (.cells #[.int .i64 a, .int .i64 p] 27)).alloc (.cells #[.slice none 0 0] 25)) = W := ⟨_, rfl⟩
  have hb_W0 : Below w.heap.size w W0 := by rw [← hW0]; exact ((((Below.refl _ _).alloc (Nat.le_refl _) _).alloc (by simp <;> omega) _).alloc (by simp <;> omega) _)
  have HB := hide hb_W0
  clear hb_W0
  have zct : w.heap.size < W0.heap.size := by rw [← hW0]; simp <;> omega
  have ct0 : W0.cell? ⟨w.heap.size, 0, none⟩ = some (.slice o l.length c) := by rw [← hW0]; simp [go_sem]
  have zcf : w.heap.size + 1 < W0.heap.size := by rw [← hW0]; simp <;> omega
  have cf0 : W0.cell? ⟨w.heap.size + 1, 0, none⟩ = some (.int .i64 a) := by rw [← hW0]; simp [go_sem]
  have cf1 : W0.cell? ⟨w.heap.size + 1, 1, none⟩ = some (.int .i64 p) := by rw [← hW0]; simp [go_sem]
  have zcr : w.heap.size + 1 + 1 < W0.heap.size := by rw [← hW0]; simp
  have cr0 : W0.cell? ⟨w.heap.size + 1 + 1, 0, none⟩ = some (.slice none 0 0) := by rw [← hW0]; simp [go_sem]
  have fcr0 : W0.frozen? ⟨w.heap.size + 1 + 1, 0, none⟩ = false := by rw [← hW0]; simp [go_sem]
  have HZ := hide zcr
  have hw00 := HB.out.size
  have hc := tableFor_any o c l a p W0 ((hR.kept HB.out (Nat.le_refl _)).le HB.out.size) hl
  cases hT : (tableOkB l && flowOkB a p) with
  | false =>
    have HM := hide (show dropM l a p = [] by unfold dropM; rw [hT]; rfl)
    have HG := hide (show gotB l a p = false by unfold gotB; rw [hT]; rfl)
    rw [hT] at hc
    go_enter Try.func26, Try.ntmps26
    go_wp2_with fail
    refine (hc).mono ?_
    rintro e v1 ⟨o', n', c', rfl, hv, hb⟩
    replace ct0 : v1.cell? ⟨w.heap.size, 0, none⟩ = some (.slice o l.length c) := (hb.cell (p := ⟨w.heap.size, 0, none⟩) zct).trans ct0
    replace zct : w.heap.size < v1.heap.size := Nat.lt_of_lt_of_le zct hb.size
    replace cf0 : v1.cell? ⟨w.heap.size + 1, 0, none⟩ = some (.int .i64 a) := (hb.cell (p := ⟨w.heap.size + 1, 0, none⟩) zcf).trans cf0
    replace cf1 : v1.cell? ⟨w.heap.size + 1, 1, none⟩ = some (.int .i64 p) := (hb.cell (p := ⟨w.heap.size + 1, 1, none⟩) zcf).trans cf1
    replace zcf : w.heap.size + 1 < v1.heap.size := Nat.lt_of_lt_of_le zcf hb.size
    replace cr0 : v1.cell? ⟨w.heap.size + 1 + 1, 0, none⟩ = some (.slice none 0 0) := (hb.cell (p := ⟨w.heap.size + 1 + 1, 0, none⟩) zcr).trans cr0
    replace fcr0 : v1.frozen? ⟨w.heap.size + 1 + 1, 0, none⟩ = false := (hb.frozen (p := ⟨w.heap.size + 1 + 1, 0, none⟩) zcr).trans fcr0
    replace zcr : w.heap.size + 1 + 1 < v1.heap.size := Nat.lt_of_lt_of_le zcr hb.size
    replace HB := hide (HB.out.trans (hb.mono HB.out.size))
    clear hb
    obtain ⟨W2, hW2⟩ : ∃ W, (v1.alloc (.cells #[.slice o' n' c'] 78)) = W := ⟨_, rfl⟩
    have hb_W2 : Below v1.heap.size v1 W2 := by rw [← hW2]; exact ((Below.refl _ _).alloc (Nat.le_refl _) _)
    replace ct0 : W2.cell? ⟨w.heap.size, 0, none⟩ = some (.slice o l.length c) := (hb_W2.cell (p := ⟨w.heap.size, 0, none⟩) zct).trans ct0
    replace zct : w.heap.size < W2.heap.size := Nat.lt_of_lt_of_le zct hb_W2.size
    replace cf0 : W2.cell? ⟨w.heap.size + 1, 0, none⟩ = some (.int .i64 a) := (hb_W2.cell (p := ⟨w.heap.size + 1, 0, none⟩) zcf).trans cf0
    replace cf1 : W2.cell? ⟨w.heap.size + 1, 1, none⟩ = some (.int .i64 p) := (hb_W2.cell (p := ⟨w.heap.size + 1, 1, none⟩) zcf).trans cf1
    replace zcf : w.heap.size + 1 < W2.heap.size := Nat.lt_of_lt_of_le zcf hb_W2.size
    replace cr0 : W2.cell? ⟨w.heap.size + 1 + 1, 0, none⟩ = some (.slice none 0 0) := (hb_W2.cell (p := ⟨w.heap.size + 1 + 1, 0, none⟩) zcr).trans cr0
    replace fcr0 : W2.frozen? ⟨w.heap.size + 1 + 1, 0, none⟩ = false := (hb_W2.frozen (p := ⟨w.heap.size + 1 + 1, 0, none⟩) zcr).trans fcr0
    replace zcr : w.heap.size + 1 + 1 < W2.heap.size := Nat.lt_of_lt_of_le zcr hb_W2.size
    replace HB := hide (HB.out.trans (hb_W2.mono HB.out.size))
    clear hb_W2
    have zck : v1.heap.size < W2.heap.size := by rw [← hW2]; simp
    have ck0 : W2.cell? ⟨v1.heap.size, 0, none⟩ = some (.slice o' n' c') := by rw [← hW2]; simp [go_sem]
    clear hc hv hT
    go_wp2
    refine bodyPost_ret (v := .tuple #[tab (.slice none 0 0), .bool false]) (by simp [results, Try.results26, go_sem, cr0]) rfl ⟨_, by rw [HG.out], ⟨_, rfl, ?_⟩, ?_⟩
    · rw [HM.out]; exact InRow.of (World.ownsRow_nil _ _ _ _)
    · exact HB.out.setCell (p := ⟨w.heap.size + 1 + 1, 0, none⟩) (by simp <;> omega) _
  | true =>
    rw [hT] at hc
    obtain ⟨hT1, hT2⟩ := (Bool.and_eq_true _ _).mp hT
    have hn := (tableOkB_iff.1 hT1).1
    have h16 := (tableOkB_iff.1 hT1).2.1
    have HF0 := hide (flowsOk_of hT1)
    have HM := hide (show dropM l a p = dropL l a p by unfold dropM; rw [hT]; rfl)
    have HG := hide (show gotB l a p = (endL l a p).2 by unfold gotB; rw [hT]; rfl)
    go_enter Try.func26, Try.ntmps26
    go_wp2_with fail
    refine (hc).mono ?_
    rintro e v1 ⟨o', n', c', rfl, hv, hb⟩
    obtain ⟨g, rfl, rfl, rfl, hown⟩ := hv (by simp)
    have HO := hide hown
    have hg0 := (hown.lt g rfl).1
    have hg1 := (hown.lt g rfl).2
    clear hown hv
    replace ct0 : v1.cell? ⟨w.heap.size, 0, none⟩ = some (.slice o l.length c) := (hb.cell (p := ⟨w.heap.size, 0, none⟩) zct).trans ct0
    replace zct : w.heap.size < v1.heap.size := Nat.lt_of_lt_of_le zct hb.size
    replace cf0 : v1.cell? ⟨w.heap.size + 1, 0, none⟩ = some (.int .i64 a) := (hb.cell (p := ⟨w.heap.size + 1, 0, none⟩) zcf).trans cf0
    replace cf1 : v1.cell? ⟨w.heap.size + 1, 1, none⟩ = some (.int .i64 p) := (hb.cell (p := ⟨w.heap.size + 1, 1, none⟩) zcf).trans cf1
    replace zcf : w.heap.size + 1 < v1.heap.size := Nat.lt_of_lt_of_le zcf hb.size
    replace cr0 : v1.cell? ⟨w.heap.size + 1 + 1, 0, none⟩ = some (.slice none 0 0) := (hb.cell (p := ⟨w.heap.size + 1 + 1, 0, none⟩) zcr).trans cr0
    replace fcr0 : v1.frozen? ⟨w.heap.size + 1 + 1, 0, none⟩ = false := (hb.frozen (p := ⟨w.heap.size + 1 + 1, 0, none⟩) zcr).trans fcr0
    replace zcr : w.heap.size + 1 + 1 < v1.heap.size := Nat.lt_of_lt_of_le zcr hb.size
    replace HB := hide (HB.out.trans (hb.mono HB.out.size))
    clear hb
    obtain ⟨W2, hW2⟩ : ∃ W, (v1.alloc (.cells #[.slice (some ⟨g, 0, none⟩) l.length l.length] 78)) = W := ⟨_, rfl⟩
    have hb_W2 : Below v1.heap.size v1 W2 := by rw [← hW2]; exact ((Below.refl _ _).alloc (Nat.le_refl _) _)
    replace ct0 : W2.cell? ⟨w.heap.size, 0, none⟩ = some (.slice o l.length c) := (hb_W2.cell (p := ⟨w.heap.size, 0, none⟩) zct).trans ct0
    replace zct : w.heap.size < W2.heap.size := Nat.lt_of_lt_of_le zct hb_W2.size
    replace cf0 : W2.cell? ⟨w.heap.size + 1, 0, none⟩ = some (.int .i64 a) := (hb_W2.cell (p := ⟨w.heap.size + 1, 0, none⟩) zcf).trans cf0
    replace cf1 : W2.cell? ⟨w.heap.size + 1, 1, none⟩ = some (.int .i64 p) := (hb_W2.cell (p := ⟨w.heap.size + 1, 1, none⟩) zcf).trans cf1
    replace zcf : w.heap.size + 1 < W2.heap.size := Nat.lt_of_lt_of_le zcf hb_W2.size
    replace cr0 : W2.cell? ⟨w.heap.size + 1 + 1, 0, none⟩ = some (.slice none 0 0) := (hb_W2.cell (p := ⟨w.heap.size + 1 + 1, 0, none⟩) zcr).trans cr0
    replace fcr0 : W2.frozen? ⟨w.heap.size + 1 + 1, 0, none⟩ = false := (hb_W2.frozen (p := ⟨w.heap.size + 1 + 1, 0, none⟩) zcr).trans fcr0
    replace zcr : w.heap.size + 1 + 1 < W2.heap.size := Nat.lt_of_lt_of_le zcr hb_W2.size
    replace HO := hide (own_kept HO.out hb_W2)
    replace HB := hide (HB.out.trans (hb_W2.mono HB.out.size))
    clear hb_W2
    have zck : v1.heap.size < W2.heap.size := by rw [← hW2]; simp
    have ck0 : W2.cell? ⟨v1.heap.size, 0, none⟩ = some (.slice (some ⟨g, 0, none⟩) l.length l.length) := by rw [← hW2]; simp [go_sem]
    go_wp2_with fail
    refine (drop_any g l.length W0.heap.size l a p W2 (by omega) h16 hT2 HF0.out HO.out).mono ?_
    rintro e v2 ⟨rfl, ho2, hst⟩
    have HO2 := hide ho2
    have HSt := hide hst
    clear ho2 hst HO
    have cr0' : v2.cell? ⟨w.heap.size + 1 + 1, 0, none⟩ = some (.slice none 0 0) := HSt.out.cell cr0 zcr (.inl (by have := HZ.out; omega))
    have fcr0' : v2.frozen? ⟨w.heap.size + 1 + 1, 0, none⟩ = false := HSt.out.frozen fcr0 zcr (.inl (by have := HZ.out; omega))
    have zcr' : w.heap.size + 1 + 1 < v2.heap.size := Nat.lt_of_lt_of_le zcr HSt.out.size
    have ck0' : v2.cell? ⟨v1.heap.size, 0, none⟩ = some (.slice (some ⟨g, 0, none⟩) l.length l.length) := HSt.out.cell ck0 zck (.inr (by omega))
    have zck' : v1.heap.size < v2.heap.size := Nat.lt_of_lt_of_le zck HSt.out.size
    have HB' := hide (HB.out.trans (HSt.out.below (by omega) HB.out.size))
    clear HB hc hT hT1 hT2 HSt ct0 cf0 cf1 cr0 ck0 fcr0 zct zcf zcr zck
    have HB := HB'
    clear HB'
    have cr0 := cr0'
    have fcr0 := fcr0'
    have zcr := zcr'
    have ck0 := ck0'
    have zck := zck'
    clear cr0' fcr0' zcr' ck0' zck'
    have hpl := dropL_length l a p
    obtain ⟨m, hm⟩ : ∃ m, dropL l a p = m := ⟨_, rfl⟩
    rw [hm] at HM HO2 hpl
    have hpt := plainTable_any g 0 l.length m v2 (HO2.out.lt g rfl).2 (rd_of_own HO2.out hpl.symm) (by omega)
    rw [hpl] at hpt
    have hszn : w.heap.size + 1 + 1 < v2.heap.size := zcr
    clear hm
    obtain ⟨f, hf⟩ : ∃ f, (endL l a p).2 = f := ⟨_, rfl⟩
    rw [hf] at HG
    simp only [hf]
    clear hf
    go_wp2_with fail
    refine (hpt).mono ?_
    rintro e v3 ⟨g2, rfl, hown, hb⟩
    have HO3 := hide hown
    clear hown
    replace cr0 : v3.cell? ⟨w.heap.size + 1 + 1, 0, none⟩ = some (.slice none 0 0) := (hb.cell (p := ⟨w.heap.size + 1 + 1, 0, none⟩) zcr).trans cr0
    replace fcr0 : v3.frozen? ⟨w.heap.size + 1 + 1, 0, none⟩ = false := (hb.frozen (p := ⟨w.heap.size + 1 + 1, 0, none⟩) zcr).trans fcr0
    replace zcr : w.heap.size + 1 + 1 < v3.heap.size := Nat.lt_of_lt_of_le zcr hb.size
    replace ck0 : v3.cell? ⟨v1.heap.size, 0, none⟩ = some (.slice (some ⟨g, 0, none⟩) l.length l.length) := (hb.cell (p := ⟨v1.heap.size, 0, none⟩) zck).trans ck0
    replace zck : v1.heap.size < v3.heap.size := Nat.lt_of_lt_of_le zck hb.size
    replace HB := hide (HB.out.trans (hb.mono HB.out.size))
    clear hb
    clear hpt
    go_wp2
    refine bodyPost_ret (v := .tuple #[tab (.slice (some ⟨g2, 0, none⟩) l.length l.length), .bool f]) (by simp [results, Try.results26, go_sem, cr0]) rfl ⟨_, by rw [HG.out], ⟨_, rfl, ?_⟩, ?_⟩
    · rw [HM.out]
      have h := ownsRow_setCell_below HO3.out (a := ⟨w.heap.size + 1 + 1, 0, none⟩) hszn (.slice (some ⟨g2, 0, none⟩) l.length l.length)
      exact InRow.of (own_mono h (by omega))
    · exact HB.out.setCell (p := ⟨w.heap.size + 1 + 1, 0, none⟩) (by simp <;> omega) _

theorem specDrop_sh (v0 : Value) (m : List Sl) (a p : Int) (w : World) (hR : RdT w.heap.size w v0 m) (hf : m.length ≤ 1048576) :
    Calls Try.prog 48 #[v0, flow a p] w fun e w' => ∃ v', e = .returned (.tuple #[v', .bool (gotB m a p)]) ∧ InT w.heap.size w'.heap.size w' v' (dropM m a p) ∧ Below w.heap.size w w' := by
  obtain ⟨vl, rfl, o, c, rfl, r⟩ := hR
  exact specDrop_any o c m a p w r hf

theorem implDrop_sh (v0 : Value) (m : List Sl) (a p : Int) (w : World) (hR : RdT w.heap.size w v0 m) (hf : m.length ≤ 1048576) :
    Calls Try.prog 26 #[v0, flow a p] w fun e w' => ∃ v', e = .returned (.tuple #[v', .bool (gotB m a p)]) ∧ InT w.heap.size w'.heap.size w' v' (dropM m a p) ∧ Below w.heap.size w w' := by
  obtain ⟨vl, rfl, o, c, rfl, r⟩ := hR
  exact implDrop_any o c m a p w r hf

end Go.Proofs.Ytncdjmniphnpgaa
