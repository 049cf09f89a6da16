/- Several texts in one: SExp2, DropElse. -/
import Derived.Test.YtiijecnhbioehaaGrSExp
import Derived.Test.YtiijecnhbioehaaGrPutMath
/- Expire, the model's and the program's. -/
namespace Go.Proofs.Ytiijecnhbioehaa
open Go.ChangeShapes Go.WideShapes Go.ChangeAt Go.RowKit Go.Joins
set_option linter.unusedVariables false
set_option linter.unusedSimpArgs false

/-- A row of slots is no box that holds a slice. -/
theorem row_ne_box {W : World} {B b off n c : Nat} {o : Option Addr} {T : TypeId} {m : List Sl} (hm : 0 < m.length) (hB : W.heap[B]? = some (.cells #[.slice o n c] T (0, 0))) (hr : (∀ i, i < m.length → ∀ j, j < layS.k → W.cell? ⟨b, off + i * layS.k + j, none⟩ = (layS.cs (m.getD i layS.d))[j]?)) : b ≠ B := by
  rintro rfl
  have h : W.cell? ⟨b, off + 0 * layS.k + 0, none⟩ = some (.bool (m.getD 0 layS.d).u) := hr 0 hm 0 (by decide)
  simp only [World.cell?, hB, Nat.zero_mul, Nat.add_zero] at h
  rcases off with _ | off <;> simp at h

set_option maxHeartbeats 4000000 in
theorem l5expireW_any (b off c : Nat) (l : List Sl) (now : Int) (w : World) (hok : tableOkB l = true) (hbl : b < w.heap.size) (hc : ∀ i, i < l.length → ∀ j, j < layS.k → w.cell? ⟨b, off + i * layS.k + j, none⟩ = (layS.cs (l.getD i layS.d))[j]?) :
    Calls Try.prog 90 #[tab (.slice (some ⟨b, off, none⟩) l.length c), .int .i64 now] w fun e w' => ∃ b' off' c', e = .returned (.tuple #[tab (.slice (some ⟨b', off', none⟩) l.length c'), .int .i64 ((expL l now).2 : Nat)]) ∧ b' < w'.heap.size ∧ (∀ i, i < (expL l now).1.length → ∀ j, j < layS.k → w'.cell? ⟨b', off' + i * layS.k + j, none⟩ = (layS.cs ((expL l now).1.getD i layS.d))[j]?) ∧ Below w.heap.size w w' ∧ (b' = b ∨ w.heap.size ≤ b') := by
  have hn := (tableOkB_iff.1 hok).1
  have h16 := (tableOkB_iff.1 hok).2.1
  have HInv0 := hide (ExpInv.start (now := now) hok)
  have HC := hide hc
  clear hc hok
  obtain ⟨W0, hW0⟩ : ∃ W, ((w.alloc (.cells #[.slice (some ⟨b, off, none⟩) l.length c] 25)).alloc (.cells #[.slice none 0 0] 25)) = W := ⟨_, rfl⟩
  have hb_W0 : Below w.heap.size w W0 := by rw [← hW0]; exact (((Below.refl _ _).alloc (Nat.le_refl _) _).alloc (by simp <;> omega) _)
  have HB := hide hb_W0
  clear hb_W0
  have zct : w.heap.size < W0.heap.size := by rw [← hW0]; simp <;> omega
  have ct0 : W0.cell? ⟨w.heap.size, 0, none⟩ = some (.slice (some ⟨b, off, none⟩) l.length c) := by rw [← hW0]; simp [go_sem]
  have fct0 : W0.frozen? ⟨w.heap.size, 0, none⟩ = false := by rw [← hW0]; simp [go_sem]
  have zcr : w.heap.size + 1 < W0.heap.size := by rw [← hW0]; simp
  have cr0 : W0.cell? ⟨w.heap.size + 1, 0, none⟩ = some (.slice none 0 0) := by rw [← hW0]; simp [go_sem]
  have fcr0 : W0.frozen? ⟨w.heap.size + 1, 0, none⟩ = false := by rw [← hW0]; simp [go_sem]
  have HX0 : Hid (W0.heap[w.heap.size]? = some (.cells #[.slice (some ⟨b, off, none⟩) l.length c] 25 (0, 0))) := by rw [← hW0]; exact (Below.heap_alloc _ _ _ (by simp)).trans (World.alloc_heap_new w _)
  have HX1 : Hid (W0.heap[w.heap.size + 1]? = some (.cells #[.slice none 0 0] 25 (0, 0))) := by
    have h := World.alloc_heap_new (w.alloc (.cells #[.slice (some ⟨b, off, none⟩) l.length c] 25)) (.cells #[.slice none 0 0] 25)
    rw [World.size_alloc] at h
    rw [← hW0]; exact h
  have HRd0 : Hid (∀ i, i < l.length → ∀ j, j < layS.k → W0.cell? ⟨b, off + i * layS.k + j, none⟩ = (layS.cs (l.getD i layS.d))[j]?) := (fun i hi j hj => (HB.out.cell (p := ⟨b, off + i * layS.k + j, none⟩) hbl).trans (HC.out i hi j hj))
  have hbl0 : b < W0.heap.size := Nat.lt_of_lt_of_le hbl HB.out.size
  go_enter Try.func90, Try.ntmps90
  go_wp2
  go_loopg [6] (cnt l) (fun gk nv wr => ∃ (m : List Sl) (d b' off' c' : Nat), nv = .int .i64 d ∧ Hid (ExpInv l.length now (expL l now) gk m d) ∧ b' < wr.heap.size ∧ Hid (∀ i, i < m.length → ∀ j, j < layS.k → wr.cell? ⟨b', off' + i * layS.k + j, none⟩ = (layS.cs (m.getD i layS.d))[j]?) ∧ Hid (wr.heap[w.heap.size]? = some (.cells #[.slice (some ⟨b', off', none⟩) l.length c'] 25 (0, 0))) ∧ Hid (wr.heap[w.heap.size + 1]? = some (.cells #[.slice none 0 0] 25 (0, 0))) ∧ Hid (Below w.heap.size w wr) ∧ (b' = b ∨ w.heap.size ≤ b'))
  case atStart => exact ⟨l, 0, b, off, c, rfl, HInv0, hbl0, HRd0, HX0, HX1, HB, .inl rfl⟩
  case round =>
    clear HInv0 HRd0 HX0 HX1 HB ct0 cr0 fct0 fcr0 zct zcr HC hbl0 hbl hW0
    obtain ⟨m, d, b', off', c', rfl, HI, hb', HRd, HX0, HX1, HBr, hwh⟩ := hrel
    have hml := hide HI.out.len
    have hm0 : 0 < m.length := by rw [hml.out]; exact hn
    have z0 : w.heap.size < wr.heap.size := (Array.getElem?_eq_some_iff.1 HX0.out).1
    have z1 : w.heap.size + 1 < wr.heap.size := (Array.getElem?_eq_some_iff.1 HX1.out).1
    have ct0 := block_cell1 HX0.out 0 _ rfl
    have hdu := l5due_any b' off' c' m now wr (by rw [hml.out]; omega) hb' HRd.out
    rw [hml.out] at hdu
    go_wp2_with fail
    refine hdu.mono ?_
    rintro e W1 ⟨fa, fp, fb, rfl, hcase, hb1⟩
    clear hdu ct0
    obtain ⟨W2, hW2⟩ : ∃ W, W1.alloc (.cells #[.int .i64 fa, .int .i64 fp] 27) = W := ⟨_, rfl⟩
    have hb2 : Below wr.heap.size wr W2 := by rw [← hW2]; exact hb1.alloc hb1.size _
    have cf0 : W2.cell? ⟨W1.heap.size, 0, none⟩ = some (.int .i64 fa) := by rw [← hW2]; simp [go_sem]
    have cf1 : W2.cell? ⟨W1.heap.size, 1, none⟩ = some (.int .i64 fp) := by rw [← hW2]; simp [go_sem]
    have HY0 : Hid (W2.heap[w.heap.size]? = some (.cells #[.slice (some ⟨b', off', none⟩) l.length c'] 25 (0, 0))) := (hb2.block _ z0).trans HX0.out
    have HY1 : Hid (W2.heap[w.heap.size + 1]? = some (.cells #[.slice none 0 0] 25 (0, 0))) := (hb2.block _ z1).trans HX1.out
    have HRd2 : Hid (∀ i, i < m.length → ∀ j, j < layS.k → W2.cell? ⟨b', off' + i * layS.k + j, none⟩ = (layS.cs (m.getD i layS.d))[j]?) := fun i hi j hj => (hb2.cell (p := ⟨b', off' + i * layS.k + j, none⟩) hb').trans (HRd.out i hi j hj)
    have HB2 := hide (HBr.out.trans (hb2.mono HBr.out.size))
    have hs2 := hb2.size
    have hb'2 : b' < W2.heap.size := by omega
    have ct0 := block_cell1 HY0.out 0 _ rfl
    have cr0 := block_cell1 HY1.out 0 _ rfl
    have fct0 := frozen_of HY0.out 0
    have fcr0 := frozen_of HY1.out 0
    clear hb1 hb2 HX0 HX1 HRd HBr
    rcases hcase with ⟨hd, rfl⟩ | ⟨i, hd, rfl, hfa, hfp⟩
    · have HD := hide (HI.out.done hd)
      have hne := row_ne_box hm0 HY1.out HRd2.out
      clear hd
      go_wp2
      refine bodyPost_ret (v := .tuple #[tab (.slice (some ⟨b', off', none⟩) l.length c'), .int .i64 d]) (by simp [results, Try.results90, go_sem, cr0]) rfl ⟨b', off', c', by rw [HD.out], ?_, ?_, ?_, hwh⟩
      · simpa using hb'2
      · rw [HD.out]
        exact fun i hi j hj => (World.cell?_setCell_far _ _ _ _ (fun e => hne e.symm)).trans (HRd2.out i hi j hj)
      · exact HB2.out.setCell (p := ⟨w.heap.size + 1, 0, none⟩) (by simp) _
    · obtain ⟨hg, hin, hu, hc16, hN⟩ := HI.out.step hd
      have HN := hide hN
      have him : i < m.length := by rw [hml.out]; exact hin
      have hway := way_at HI.out.ok him hu
      have hE : (endL m fa fp).2 = true := by rw [hfa, hfp, hway]
      have hP : dropL m fa fp = dropAtL m i := by rw [hfa, hfp]; exact dropL_yes hway
      have hF : flowOkB fa fp = true := by rw [hfa, hfp]; exact flowsOk_of HI.out.ok i him hu
      have hdr := l5dropW_any b' off' c' m fa fp W2 hm0 (by rw [hml.out]; exact h16) hF (flowsOk_of HI.out.ok) hb'2 HRd2.out
      rw [hE, hP, hml.out] at hdr
      have hdl : 0 < (dropAtL m i).length := by rw [dropAtL_length]; exact hm0
      clear hd hN hway hE hP hF hfa hfp hu
      go_wp2_with fail
      refine hdr.mono ?_
      rintro e W3 ⟨b2, off2, c2, rfl, hb3, hrd3, hB3, hw3⟩
      have hwh2 : b2 = b ∨ w.heap.size ≤ b2 := by have := HB2.out.size; omega
      have HRd3 := hide hrd3
      have hs3 := hB3.size
      have HZ0 : Hid (W3.heap[w.heap.size]? = some (.cells #[.slice (some ⟨b', off', none⟩) l.length c'] 25 (0, 0))) := (hB3.block _ (by omega)).trans HY0.out
      have HZ1 : Hid (W3.heap[w.heap.size + 1]? = some (.cells #[.slice none 0 0] 25 (0, 0))) := (hB3.block _ (by omega)).trans HY1.out
      have hne := row_ne_box hdl HZ0.out hrd3
      have HB3 := hide (HB2.out.trans (hB3.mono HB2.out.size))
      clear ct0 cr0 fct0 fcr0 cf0 cf1 hdr hrd3 hB3 HY0 HY1 HRd2 HB2
      have ct0 := block_cell1 HZ0.out 0 _ rfl
      have fct0 := frozen_of HZ0.out 0
      go_wp2
      go_roundg (gk - 1)
      case measure => omega
      case rel =>
        refine ⟨dropAtL m i, d + 1, b2, off2, c2, by simp, HN, by simpa using hb3, ?_, ?_, ?_, ?_, hwh2⟩
        · exact fun i hi j hj => (World.cell?_setCell_far _ _ _ _ (fun e => hne e.symm)).trans (HRd3.out i hi j hj)
        · exact box_set1 W3 w.heap.size 0 _ _ _ HZ0.out
        · exact (Below.heap_setCell W3 ⟨w.heap.size, 0, none⟩ _ (w.heap.size + 1) (by simp)).trans HZ1.out
        · exact HB3.out.setCell (p := ⟨w.heap.size, 0, none⟩) (Nat.le_refl _) _
theorem l5expire_any (b off c : Nat) (l : List Sl) (now : Int) (w : World) (hok : tableOkB l = true) (hbl : b < w.heap.size) (hc : ∀ i, i < l.length → ∀ j, j < layS.k → w.cell? ⟨b, off + i * layS.k + j, none⟩ = (layS.cs (l.getD i layS.d))[j]?) :
    Calls Try.prog 90 #[tab (.slice (some ⟨b, off, none⟩) l.length c), .int .i64 now] w fun e w' => ∃ b' off' c', e = .returned (.tuple #[tab (.slice (some ⟨b', off', none⟩) l.length c'), .int .i64 ((expL l now).2 : Nat)]) ∧ b' < w'.heap.size ∧ (∀ i, i < (expL l now).1.length → ∀ j, j < layS.k → w'.cell? ⟨b', off' + i * layS.k + j, none⟩ = (layS.cs ((expL l now).1.getD i layS.d))[j]?) ∧ Below w.heap.size w w' := by
  refine (l5expireW_any b off c l now w hok hbl hc).mono ?_
  rintro e w' ⟨b', off', c', h1, h2, h3, h4, _⟩
  exact ⟨b', off', c', h1, h2, h3, h4⟩

set_option maxHeartbeats 4000000 in
theorem specExpire_any (o : Option Addr) (c : Nat) (l : List Sl) (now : Int) (w : World) (hR : RdS w.heap.size w o l) (hl : l.length ≤ 1048576) :
    Calls Try.prog 49 #[tab (.slice o l.length c), .int .i64 now] w fun e w' => ∃ v', e = .returned (.tuple #[v', .int .i64 (expN l now)]) ∧ InT w.heap.size w'.heap.size w' v' (expM l now) ∧ Below w.heap.size w w' := by
  obtain ⟨W0, hW0⟩ : ∃ W, ((w.alloc (.cells #[.slice o l.length c] 25)).alloc (.cells #[.slice none 0 0] 25)) = W := ⟨_, rfl⟩
  have hb_W0 : Below w.heap.size w W0 := by rw [← hW0]; exact (((Below.refl _ _).alloc (Nat.le_refl _) _).alloc (by simp <;> omega) _)
  have HB := hide hb_W0
  clear hb_W0
  have zct : w.heap.size < W0.heap.size := by rw [← hW0]; simp <;> omega
  have ct0 : W0.cell? ⟨w.heap.size, 0, none⟩ = some (.slice o l.length c) := by rw [← hW0]; simp [go_sem]
  have zcr : w.heap.size + 1 < W0.heap.size := by rw [← hW0]; simp
  have cr0 : W0.cell? ⟨w.heap.size + 1, 0, none⟩ = some (.slice none 0 0) := by rw [← hW0]; simp [go_sem]
  have fcr0 : W0.frozen? ⟨w.heap.size + 1, 0, none⟩ = false := by rw [← hW0]; simp [go_sem]
  have HZ := hide zcr
  have hok := specTableOk_any o c l W0 ((hR.kept HB.out (Nat.le_refl _)).le HB.out.size) hl
  cases hT : tableOkB l with
  | false =>
    have HM := hide (show expM l now = [] by unfold expM; rw [hT]; rfl)
    have HG := hide (show expN l now = -1 by unfold expN; rw [hT]; rfl)
    rw [hT] at hok
    go_enter Try.func49, Try.ntmps49
    go_wp2_with fail
    refine (hok).mono ?_
    rintro e v1 ⟨rfl, hb⟩
    replace ct0 : v1.cell? ⟨w.heap.size, 0, none⟩ = some (.slice o l.length c) := (hb.cell (p := ⟨w.heap.size, 0, none⟩) zct).trans ct0
    replace zct : w.heap.size < v1.heap.size := Nat.lt_of_lt_of_le zct hb.size
    replace cr0 : v1.cell? ⟨w.heap.size + 1, 0, none⟩ = some (.slice none 0 0) := (hb.cell (p := ⟨w.heap.size + 1, 0, none⟩) zcr).trans cr0
    replace fcr0 : v1.frozen? ⟨w.heap.size + 1, 0, none⟩ = false := (hb.frozen (p := ⟨w.heap.size + 1, 0, none⟩) zcr).trans fcr0
    replace zcr : w.heap.size + 1 < v1.heap.size := Nat.lt_of_lt_of_le zcr hb.size
    replace HB := hide (HB.out.trans (hb.mono HB.out.size))
    clear hb
    clear hok hT
    go_wp2
    refine bodyPost_ret (v := .tuple #[tab (.slice none 0 0), .int .i64 (-1)]) (by simp [results, Try.results49, go_sem, cr0]) rfl ⟨_, by rw [HG.out], ⟨_, rfl, ?_⟩, ?_⟩
    · rw [HM.out]; exact InRow.of (World.ownsRow_nil _ _ _ _)
    · exact HB.out.setCell (p := ⟨w.heap.size + 1, 0, none⟩) (by simp <;> omega) _
  | true =>
    rw [hT] at hok
    have hn := (tableOkB_iff.1 hT).1
    have h16 := (tableOkB_iff.1 hT).2.1
    have HM := hide (show expM l now = (expL l now).1 by unfold expM; rw [hT]; rfl)
    have HG := hide (show expN l now = ((expL l now).2 : Nat) by unfold expN; rw [hT]; rfl)
    have hpl := expL_length l now
    rcases hR with hR | ⟨b, off, rfl, hbl, hcell⟩
    · subst hR; simp at hn
    have HC := hide hcell
    clear hcell
    go_enter Try.func49, Try.ntmps49
    go_wp2_with fail
    refine (hok).mono ?_
    rintro e v1 ⟨rfl, hb⟩
    replace ct0 : v1.cell? ⟨w.heap.size, 0, none⟩ = some (.slice (some ⟨b, off, none⟩) l.length c) := (hb.cell (p := ⟨w.heap.size, 0, none⟩) zct).trans ct0
    replace zct : w.heap.size < v1.heap.size := Nat.lt_of_lt_of_le zct hb.size
    replace cr0 : v1.cell? ⟨w.heap.size + 1, 0, none⟩ = some (.slice none 0 0) := (hb.cell (p := ⟨w.heap.size + 1, 0, none⟩) zcr).trans cr0
    replace fcr0 : v1.frozen? ⟨w.heap.size + 1, 0, none⟩ = false := (hb.frozen (p := ⟨w.heap.size + 1, 0, none⟩) zcr).trans fcr0
    replace zcr : w.heap.size + 1 < v1.heap.size := Nat.lt_of_lt_of_le zcr hb.size
    replace HB := hide (HB.out.trans (hb.mono HB.out.size))
    clear hb
    go_wp2_with fail
    refine (l5expire_any b off c l now v1 hT (Nat.lt_of_lt_of_le hbl HB.out.size) (fun i hi j hj => (HB.out.cell (p := ⟨b, off + i * layS.k + j, none⟩) hbl).trans (HC.out i hi j hj))).mono ?_
    rintro e v2 ⟨b', off', c', rfl, hb1, hrd, hb⟩
    have HRd := hide hrd
    clear hrd
    replace ct0 : v2.cell? ⟨w.heap.size, 0, none⟩ = some (.slice (some ⟨b, off, none⟩) l.length c) := (hb.cell (p := ⟨w.heap.size, 0, none⟩) zct).trans ct0
    replace zct : w.heap.size < v2.heap.size := Nat.lt_of_lt_of_le zct hb.size
    replace cr0 : v2.cell? ⟨w.heap.size + 1, 0, none⟩ = some (.slice none 0 0) := (hb.cell (p := ⟨w.heap.size + 1, 0, none⟩) zcr).trans cr0
    replace fcr0 : v2.frozen? ⟨w.heap.size + 1, 0, none⟩ = false := (hb.frozen (p := ⟨w.heap.size + 1, 0, none⟩) zcr).trans fcr0
    replace zcr : w.heap.size + 1 < v2.heap.size := Nat.lt_of_lt_of_le zcr hb.size
    replace HB := hide (HB.out.trans (hb.mono HB.out.size))
    clear hb
    clear hok hT
    obtain ⟨f, hf⟩ : ∃ f, (expL l now).2 = f := ⟨_, rfl⟩
    rw [hf] at HG
    simp only [hf]
    clear hf
    obtain ⟨W3, hW3⟩ : ∃ W, (v2.alloc (.cells #[.slice (some ⟨b', off', none⟩) l.length c'] 25)) = W := ⟨_, rfl⟩
    have hb_W3 : Below v2.heap.size v2 W3 := by rw [← hW3]; exact ((Below.refl _ _).alloc (Nat.le_refl _) _)
    replace ct0 : W3.cell? ⟨w.heap.size, 0, none⟩ = some (.slice (some ⟨b, off, none⟩) l.length c) := (hb_W3.cell (p := ⟨w.heap.size, 0, none⟩) zct).trans ct0
    replace zct : w.heap.size < W3.heap.size := Nat.lt_of_lt_of_le zct hb_W3.size
    replace cr0 : W3.cell? ⟨w.heap.size + 1, 0, none⟩ = some (.slice none 0 0) := (hb_W3.cell (p := ⟨w.heap.size + 1, 0, none⟩) zcr).trans cr0
    replace fcr0 : W3.frozen? ⟨w.heap.size + 1, 0, none⟩ = false := (hb_W3.frozen (p := ⟨w.heap.size + 1, 0, none⟩) zcr).trans fcr0
    replace zcr : w.heap.size + 1 < W3.heap.size := Nat.lt_of_lt_of_le zcr hb_W3.size
    replace HB := hide (HB.out.trans (hb_W3.mono HB.out.size))
    clear hb_W3
    have zcx : v2.heap.size < W3.heap.size := by rw [← hW3]; simp
    have cx0 : W3.cell? ⟨v2.heap.size, 0, none⟩ = some (.slice (some ⟨b', off', none⟩) l.length c') := by rw [← hW3]; simp [go_sem]
    obtain ⟨m, hm⟩ : ∃ m, (expL l now).1 = m := ⟨_, rfl⟩
    rw [hm] at HM HRd hpl
    have ho := l5own_any b' off' c' m W3 (Nat.lt_of_lt_of_le hb1 (by rw [← hW3]; simp)) (fun i hi j hj => (by rw [← hW3]; exact ((Below.refl _ v2).alloc (Nat.le_refl _) _).cell (p := ⟨b', off' + i * layS.k + j, none⟩) hb1 : W3.cell? ⟨b', off' + i * layS.k + j, none⟩ = v2.cell? ⟨b', off' + i * layS.k + j, none⟩).trans (HRd.out i hi j hj)) (by omega)
    rw [hpl] at ho
    have hsz3 : w.heap.size + 1 < W3.heap.size := zcr
    clear hm
    go_wp2_with fail
    refine (ho).mono ?_
    rintro e v3 ⟨o2, c2, rfl, hown, hb⟩
    have HO := hide hown
    clear hown
    replace ct0 : v3.cell? ⟨w.heap.size, 0, none⟩ = some (.slice (some ⟨b, off, none⟩) l.length c) := (hb.cell (p := ⟨w.heap.size, 0, none⟩) zct).trans ct0
    replace zct : w.heap.size < v3.heap.size := Nat.lt_of_lt_of_le zct hb.size
    replace cr0 : v3.cell? ⟨w.heap.size + 1, 0, none⟩ = some (.slice none 0 0) := (hb.cell (p := ⟨w.heap.size + 1, 0, none⟩) zcr).trans cr0
    replace fcr0 : v3.frozen? ⟨w.heap.size + 1, 0, none⟩ = false := (hb.frozen (p := ⟨w.heap.size + 1, 0, none⟩) zcr).trans fcr0
    replace zcr : w.heap.size + 1 < v3.heap.size := Nat.lt_of_lt_of_le zcr hb.size
    replace cx0 : v3.cell? ⟨v2.heap.size, 0, none⟩ = some (.slice (some ⟨b', off', none⟩) l.length c') := (hb.cell (p := ⟨v2.heap.size, 0, none⟩) zcx).trans cx0
    replace zcx : v2.heap.size < v3.heap.size := Nat.lt_of_lt_of_le zcx hb.size
    replace HB := hide (HB.out.trans (hb.mono HB.out.size))
    clear hb
    clear ho
    go_wp2
    refine bodyPost_ret (v := .tuple #[tab (.slice o2 l.length c2), .int .i64 f]) (by simp [results, Try.results49, go_sem, cr0]) rfl ⟨_, by rw [HG.out], ⟨_, rfl, ?_⟩, ?_⟩
    · rw [HM.out]
      have h := ownsRow_setCell_below HO.out (a := ⟨w.heap.size + 1, 0, none⟩) hsz3 (.slice o2 l.length c2)
      exact InRow.of (own_mono h (by omega))
    · exact HB.out.setCell (p := ⟨w.heap.size + 1, 0, none⟩) (by simp <;> omega) _

set_option maxHeartbeats 4000000 in
theorem implExpire_any (o : Option Addr) (c : Nat) (l : List Sl) (now : Int) (w : World) (hR : RdS w.heap.size w o l) (hl : l.length ≤ 1048576) :
    Calls Try.prog 28 #[tab (.slice o l.length c), .int .i64 now] w fun e w' => ∃ v', e = .returned (.tuple #[v', .int .i64 (expN l now)]) ∧ InT w.heap.size w'.heap.size w' v' (expM l now) ∧ Below w.heap.size w w' := by
  obtain ⟨W0, hW0⟩ : ∃ W, ((w.alloc (.cells #[.slice o l.length c] 25)).alloc (.cells #[.slice none 0 0] 25)) = W := ⟨_, rfl⟩
  have hb_W0 : Below w.heap.size w W0 := by rw [← hW0]; exact (((Below.refl _ _).alloc (Nat.le_refl _) _).alloc (by simp <;> omega) _)
  have HB := hide hb_W0
  clear hb_W0
  have zct : w.heap.size < W0.heap.size := by rw [← hW0]; simp <;> omega
  have ct0 : W0.cell? ⟨w.heap.size, 0, none⟩ = some (.slice o l.length c) := by rw [← hW0]; simp [go_sem]
  have zcr : w.heap.size + 1 < W0.heap.size := by rw [← hW0]; simp
  have cr0 : W0.cell? ⟨w.heap.size + 1, 0, none⟩ = some (.slice none 0 0) := by rw [← hW0]; simp [go_sem]
  have fcr0 : W0.frozen? ⟨w.heap.size + 1, 0, none⟩ = false := by rw [← hW0]; simp [go_sem]
  have HZ := hide zcr
  have hw00 := HB.out.size
  have hc := tableFrom_any o c l W0 ((hR.kept HB.out (Nat.le_refl _)).le HB.out.size) hl
  cases hT : tableOkB l with
  | false =>
    have HM := hide (show expM l now = [] by unfold expM; rw [hT]; rfl)
    have HG := hide (show expN l now = -1 by unfold expN; rw [hT]; rfl)
    rw [hT] at hc
    go_enter Try.func28, Try.ntmps28
    go_wp2_with fail
    refine (hc).mono ?_
    rintro e v1 ⟨o', n', c', rfl, hv, hb⟩
    replace ct0 : v1.cell? ⟨w.heap.size, 0, none⟩ = some (.slice o l.length c) := (hb.cell (p := ⟨w.heap.size, 0, none⟩) zct).trans ct0
    replace zct : w.heap.size < v1.heap.size := Nat.lt_of_lt_of_le zct hb.size
    replace cr0 : v1.cell? ⟨w.heap.size + 1, 0, none⟩ = some (.slice none 0 0) := (hb.cell (p := ⟨w.heap.size + 1, 0, none⟩) zcr).trans cr0
    replace fcr0 : v1.frozen? ⟨w.heap.size + 1, 0, none⟩ = false := (hb.frozen (p := ⟨w.heap.size + 1, 0, none⟩) zcr).trans fcr0
    replace zcr : w.heap.size + 1 < v1.heap.size := Nat.lt_of_lt_of_le zcr hb.size
    replace HB := hide (HB.out.trans (hb.mono HB.out.size))
    clear hb
    obtain ⟨W2, hW2⟩ : ∃ W, (v1.alloc (.cells #[.slice o' n' c'] 78)) = W := ⟨_, rfl⟩
    have hb_W2 : Below v1.heap.size v1 W2 := by rw [← hW2]; exact ((Below.refl _ _).alloc (Nat.le_refl _) _)
    replace ct0 : W2.cell? ⟨w.heap.size, 0, none⟩ = some (.slice o l.length c) := (hb_W2.cell (p := ⟨w.heap.size, 0, none⟩) zct).trans ct0
    replace zct : w.heap.size < W2.heap.size := Nat.lt_of_lt_of_le zct hb_W2.size
    replace cr0 : W2.cell? ⟨w.heap.size + 1, 0, none⟩ = some (.slice none 0 0) := (hb_W2.cell (p := ⟨w.heap.size + 1, 0, none⟩) zcr).trans cr0
    replace fcr0 : W2.frozen? ⟨w.heap.size + 1, 0, none⟩ = false := (hb_W2.frozen (p := ⟨w.heap.size + 1, 0, none⟩) zcr).trans fcr0
    replace zcr : w.heap.size + 1 < W2.heap.size := Nat.lt_of_lt_of_le zcr hb_W2.size
    replace HB := hide (HB.out.trans (hb_W2.mono HB.out.size))
    clear hb_W2
    have zck : v1.heap.size < W2.heap.size := by rw [← hW2]; simp
    have ck0 : W2.cell? ⟨v1.heap.size, 0, none⟩ = some (.slice o' n' c') := by rw [← hW2]; simp [go_sem]
    clear hc hv hT
    go_wp2
    refine bodyPost_ret (v := .tuple #[tab (.slice none 0 0), .int .i64 (-1)]) (by simp [results, Try.results28, go_sem, cr0]) rfl ⟨_, by rw [HG.out], ⟨_, rfl, ?_⟩, ?_⟩
    · rw [HM.out]; exact InRow.of (World.ownsRow_nil _ _ _ _)
    · exact HB.out.setCell (p := ⟨w.heap.size + 1, 0, none⟩) (by simp <;> omega) _
  | true =>
    rw [hT] at hc
    have hn := (tableOkB_iff.1 hT).1
    have h16 := (tableOkB_iff.1 hT).2.1
    have HM := hide (show expM l now = (expL l now).1 by unfold expM; rw [hT]; rfl)
    have HG := hide (show expN l now = ((expL l now).2 : Nat) by unfold expN; rw [hT]; rfl)
    have hpl := expL_length l now
    go_enter Try.func28, Try.ntmps28
    go_wp2_with fail
    refine (hc).mono ?_
    rintro e v1 ⟨o', n', c', rfl, hv, hb⟩
    obtain ⟨g, rfl, rfl, rfl, hown⟩ := hv (by simp)
    have HO := hide hown
    have hg0 := (hown.lt g rfl).1
    have hg1 := (hown.lt g rfl).2
    clear hown hv
    replace ct0 : v1.cell? ⟨w.heap.size, 0, none⟩ = some (.slice o l.length c) := (hb.cell (p := ⟨w.heap.size, 0, none⟩) zct).trans ct0
    replace zct : w.heap.size < v1.heap.size := Nat.lt_of_lt_of_le zct hb.size
    replace cr0 : v1.cell? ⟨w.heap.size + 1, 0, none⟩ = some (.slice none 0 0) := (hb.cell (p := ⟨w.heap.size + 1, 0, none⟩) zcr).trans cr0
    replace fcr0 : v1.frozen? ⟨w.heap.size + 1, 0, none⟩ = false := (hb.frozen (p := ⟨w.heap.size + 1, 0, none⟩) zcr).trans fcr0
    replace zcr : w.heap.size + 1 < v1.heap.size := Nat.lt_of_lt_of_le zcr hb.size
    replace HB := hide (HB.out.trans (hb.mono HB.out.size))
    clear hb
    obtain ⟨W2, hW2⟩ : ∃ W, (v1.alloc (.cells #[.slice (some ⟨g, 0, none⟩) l.length l.length] 78)) = W := ⟨_, rfl⟩
    have hb_W2 : Below v1.heap.size v1 W2 := by rw [← hW2]; exact ((Below.refl _ _).alloc (Nat.le_refl _) _)
    replace ct0 : W2.cell? ⟨w.heap.size, 0, none⟩ = some (.slice o l.length c) := (hb_W2.cell (p := ⟨w.heap.size, 0, none⟩) zct).trans ct0
    replace zct : w.heap.size < W2.heap.size := Nat.lt_of_lt_of_le zct hb_W2.size
    replace cr0 : W2.cell? ⟨w.heap.size + 1, 0, none⟩ = some (.slice none 0 0) := (hb_W2.cell (p := ⟨w.heap.size + 1, 0, none⟩) zcr).trans cr0
    replace fcr0 : W2.frozen? ⟨w.heap.size + 1, 0, none⟩ = false := (hb_W2.frozen (p := ⟨w.heap.size + 1, 0, none⟩) zcr).trans fcr0
    replace zcr : w.heap.size + 1 < W2.heap.size := Nat.lt_of_lt_of_le zcr hb_W2.size
    replace HO := hide (own_kept HO.out hb_W2)
    replace HB := hide (HB.out.trans (hb_W2.mono HB.out.size))
    clear hb_W2
    have zck : v1.heap.size < W2.heap.size := by rw [← hW2]; simp
    have ck0 : W2.cell? ⟨v1.heap.size, 0, none⟩ = some (.slice (some ⟨g, 0, none⟩) l.length l.length) := by rw [← hW2]; simp [go_sem]
    go_wp2_with fail
    refine (dropDue_any g l.length W0.heap.size l.length l now W2 rfl hT HO.out).mono ?_
    rintro e v2 ⟨rfl, ho2, hst⟩
    have HO2 := hide ho2
    have HSt := hide hst
    clear ho2 hst HO
    have cr0' : v2.cell? ⟨w.heap.size + 1, 0, none⟩ = some (.slice none 0 0) := HSt.out.cell cr0 zcr (.inl (by have := HZ.out; omega))
    have fcr0' : v2.frozen? ⟨w.heap.size + 1, 0, none⟩ = false := HSt.out.frozen fcr0 zcr (.inl (by have := HZ.out; omega))
    have zcr' : w.heap.size + 1 < v2.heap.size := Nat.lt_of_lt_of_le zcr HSt.out.size
    have ck0' : v2.cell? ⟨v1.heap.size, 0, none⟩ = some (.slice (some ⟨g, 0, none⟩) l.length l.length) := HSt.out.cell ck0 zck (.inr (by omega))
    have zck' : v1.heap.size < v2.heap.size := Nat.lt_of_lt_of_le zck HSt.out.size
    have HB' := hide (HB.out.trans (HSt.out.below (by omega) HB.out.size))
    clear HB hc hT HSt ct0 cr0 ck0 fcr0 zct zcr zck
    have HB := HB'
    clear HB'
    have cr0 := cr0'
    have fcr0 := fcr0'
    have zcr := zcr'
    have ck0 := ck0'
    have zck := zck'
    clear cr0' fcr0' zcr' ck0' zck'
    obtain ⟨m, hm⟩ : ∃ m, (expL l now).1 = m := ⟨_, rfl⟩
    rw [hm] at HM HO2 hpl
    have hpt := plainTable_any g 0 l.length m v2 (HO2.out.lt g rfl).2 (rd_of_own HO2.out hpl.symm) (by omega)
    rw [hpl] at hpt
    have hszn : w.heap.size + 1 < v2.heap.size := zcr
    clear hm
    obtain ⟨f, hf⟩ : ∃ f, (expL l now).2 = f := ⟨_, rfl⟩
    rw [hf] at HG
    simp only [hf]
    clear hf
    go_wp2_with fail
    refine (hpt).mono ?_
    rintro e v3 ⟨g2, rfl, hown, hb⟩
    have HO3 := hide hown
    clear hown
    replace cr0 : v3.cell? ⟨w.heap.size + 1, 0, none⟩ = some (.slice none 0 0) := (hb.cell (p := ⟨w.heap.size + 1, 0, none⟩) zcr).trans cr0
    replace fcr0 : v3.frozen? ⟨w.heap.size + 1, 0, none⟩ = false := (hb.frozen (p := ⟨w.heap.size + 1, 0, none⟩) zcr).trans fcr0
    replace zcr : w.heap.size + 1 < v3.heap.size := Nat.lt_of_lt_of_le zcr hb.size
    replace ck0 : v3.cell? ⟨v1.heap.size, 0, none⟩ = some (.slice (some ⟨g, 0, none⟩) l.length l.length) := (hb.cell (p := ⟨v1.heap.size, 0, none⟩) zck).trans ck0
    replace zck : v1.heap.size < v3.heap.size := Nat.lt_of_lt_of_le zck hb.size
    replace HB := hide (HB.out.trans (hb.mono HB.out.size))
    clear hb
    clear hpt
    go_wp2
    refine bodyPost_ret (v := .tuple #[tab (.slice (some ⟨g2, 0, none⟩) l.length l.length), .int .i64 f]) (by simp [results, Try.results28, go_sem, cr0]) rfl ⟨_, by rw [HG.out], ⟨_, rfl, ?_⟩, ?_⟩
    · rw [HM.out]
      have h := ownsRow_setCell_below HO3.out (a := ⟨w.heap.size + 1, 0, none⟩) hszn (.slice (some ⟨g2, 0, none⟩) l.length l.length)
      exact InRow.of (own_mono h (by omega))
    · exact HB.out.setCell (p := ⟨w.heap.size + 1, 0, none⟩) (by simp <;> omega) _

theorem specExpire_sh (v0 : Value) (m : List Sl) (now : Int) (w : World) (hR : RdT w.heap.size w v0 m) (hf : m.length ≤ 1048576) :
    Calls Try.prog 49 #[v0, .int .i64 now] w fun e w' => ∃ v', e = .returned (.tuple #[v', .int .i64 (expN m now)]) ∧ InT w.heap.size w'.heap.size w' v' (expM m now) ∧ Below w.heap.size w w' := by
  obtain ⟨vl, rfl, o, c, rfl, r⟩ := hR
  exact specExpire_any o c m now w r hf

theorem implExpire_sh (v0 : Value) (m : List Sl) (now : Int) (w : World) (hR : RdT w.heap.size w v0 m) (hf : m.length ≤ 1048576) :
    Calls Try.prog 28 #[v0, .int .i64 now] w fun e w' => ∃ v', e = .returned (.tuple #[v', .int .i64 (expN m now)]) ∧ InT w.heap.size w'.heap.size w' v' (expM m now) ∧ Below w.heap.size w w' := by
  obtain ⟨vl, rfl, o, c, rfl, r⟩ := hR
  exact implExpire_any o c m now w r hf

end Go.Proofs.Ytiijecnhbioehaa

/- What is dropped is not found; all else is there, wherever it stands. -/
namespace Go.Proofs.Ytiijecnhbioehaa
open Go.ChangeShapes Go.WideShapes Go.ChangeAt Go.RowKit Go.Joins
set_option linter.unusedVariables false
set_option linter.unusedSimpArgs false

/-- It stands somewhere. -/
def hasS (m : List Sl) (s : Sl) : Prop := ∃ j, j < m.length ∧ at' m j = s
theorem has_move {m : List Sl} {i k : Nat} {s : Sl} (hi : i < m.length) (hk : k < m.length) (hne : i ≠ k) (hfree : (at' m i).u = false) (hs : s.u = true) : hasS ((m.set i (at' m k)).set k sl0) s ↔ hasS m s := by
  have hl : ((m.set i (at' m k)).set k sl0).length = m.length := by rw [List.length_set, List.length_set]
  have hk' : k < (m.set i (at' m k)).length := by rw [List.length_set]; exact hk
  constructor
  · rintro ⟨j, hj, e⟩
    rw [hl] at hj
    by_cases hjk : k = j
    · subst hjk
      rw [at_set_self _ hk'] at e
      rw [← e] at hs; cases hs
    · rw [at_set_ne _ hjk] at e
      by_cases hji : i = j
      · subst hji
        rw [at_set_self _ hi] at e
        exact ⟨k, hk, e⟩
      · rw [at_set_ne _ hji] at e
        exact ⟨j, hj, e⟩
  · rintro ⟨j, hj, e⟩
    by_cases hji : i = j
    · subst hji
      rw [e, hs] at hfree; cases hfree
    · by_cases hjk : k = j
      · subst hjk
        exact ⟨i, by rw [hl]; exact hi, by rw [at_set_ne _ (fun h => hne h.symm), at_set_self _ hi]; exact e⟩
      · exact ⟨j, by rw [hl]; exact hj, by rw [at_set_ne _ hjk, at_set_ne _ hji]; exact e⟩
theorem has_drop {n : Nat} {R : List Sl} {s : Sl} (hs : s.u = true) : ∀ (g : Nat) (m : List Sl) (i k : Nat), DropInv n R g m i k → (hasS R s ↔ hasS m s)
  | g, m, i, k, hD => by
    have hlen := hD.len
    have hi := hD.hi
    have hkl := hD.hk
    cases hu : (m.getD k sl0).u with
    | false => rw [← hD.done hu]
    | true =>
      cases hm' : moves n m i k with
      | true =>
        obtain ⟨hg, hN⟩ := hD.move hu hm'
        obtain ⟨g', rfl⟩ : ∃ g', g = g' + 1 := ⟨g - 1, by omega⟩
        have hne : i ≠ k := fun e => by have h := hD.free; rw [e, hu] at h; cases h
        exact (has_drop hs g' _ _ _ hN).trans (has_move (by omega) (by omega) hne hD.free hs)
      | false =>
        obtain ⟨hg, hN⟩ := hD.stay hu hm'
        obtain ⟨g', rfl⟩ : ∃ g', g = g' + 1 := ⟨g - 1, by omega⟩
        exact has_drop hs g' _ _ _ hN
theorem has_dropAt {l : List Sl} {i : Nat} (h : tableOkB l = true) (hi : i < l.length) {s : Sl} (hs : s.u = true) : hasS (dropAtL l i) s ↔ ∃ j, j < l.length ∧ j ≠ i ∧ at' l j = s := by
  rw [has_drop hs _ _ _ _ (DropInv.start (tableOkB_iff.1 h).2.1 hi (flowsOk_of h))]
  constructor
  · rintro ⟨j, hj, e⟩
    rw [List.length_set] at hj
    by_cases hji : i = j
    · subst hji
      rw [at_set_self _ hi] at e
      rw [← e] at hs; cases hs
    · rw [at_set_ne _ hji] at e
      exact ⟨j, hj, fun h => hji h.symm, e⟩
  · rintro ⟨j, hj, hne, e⟩
    exact ⟨j, by rw [List.length_set]; exact hj, by rw [at_set_ne _ (fun h => hne h.symm)]; exact e⟩
/-- What a flow is found with, in a table that may be. -/
theorem got_has {l : List Sl} (h : tableOkB l = true) {a p : Int} {s : Sl} : ((endL l a p).2 = true ∧ getL l a p = s) ↔ (hasS l s ∧ s.u = true ∧ s.a = a ∧ s.p = p) := by
  have hn := (tableOkB_iff.1 h).1
  constructor
  · rintro ⟨h1, h2⟩
    rcases endL_cases l (by omega) a p with e | ⟨k, hk, ⟨e, _⟩ | ⟨e, hu, ha, hp⟩⟩
    · rw [e] at h1; cases h1
    · rw [e] at h1; cases h1
    · unfold getL at h2
      rw [e, if_pos rfl] at h2
      have h3 : at' l k = s := by simpa [at'] using h2
      subst h3
      exact ⟨⟨k, hk, rfl⟩, hu, ha, hp⟩
  · rintro ⟨⟨j, hj, rfl⟩, hu, ha, hp⟩
    have e := (found_iff h).2 ⟨hj, hu, ha, hp⟩
    refine ⟨by rw [e], ?_⟩
    unfold getL
    rw [e, if_pos rfl]
    simp [at']
/-- Behind a drop it is not found; all else is found, and as it was. -/
theorem drop_gone {l : List Sl} {a p : Int} {i : Nat} (h : tableOkB l = true) (e : endL l a p = ((i : Int), true)) : (endL (dropAtL l i) a p).2 = false := by
  obtain ⟨hi, hu, ha, hp⟩ := (found_iff h).1 e
  cases hf : (endL (dropAtL l i) a p).2 with
  | false => rfl
  | true =>
    obtain ⟨h1, h2, h3, h4⟩ := (got_has (dropAtL_ok h hi)).1 ⟨hf, rfl⟩
    obtain ⟨j, hj, hne, e2⟩ := (has_dropAt h hi h2).1 h1
    have e3 := (found_iff h (a := a) (p := p) (j := j)).2 ⟨hj, by rw [e2]; exact h2, by rw [e2]; exact h3, by rw [e2]; exact h4⟩
    rw [e] at e3
    injection e3 with e3 _
    exact absurd (by omega) hne
theorem drop_else {l : List Sl} {a p a' p' : Int} {i : Nat} (h : tableOkB l = true) (e : endL l a p = ((i : Int), true)) (hne : ¬ (a' = a ∧ p' = p)) (s : Sl) : ((endL (dropAtL l i) a' p').2 = true ∧ getL (dropAtL l i) a' p' = s) ↔ ((endL l a' p').2 = true ∧ getL l a' p' = s) := by
  obtain ⟨hi, hu, ha, hp⟩ := (found_iff h).1 e
  rw [got_has (dropAtL_ok h hi), got_has h]
  constructor
  · rintro ⟨h1, h2, h3, h4⟩
    obtain ⟨j, hj, _, e2⟩ := (has_dropAt h hi h2).1 h1
    exact ⟨⟨j, hj, e2⟩, h2, h3, h4⟩
  · rintro ⟨⟨j, hj, e2⟩, h2, h3, h4⟩
    refine ⟨(has_dropAt h hi h2).2 ⟨j, hj, fun hji => ?_, e2⟩, h2, h3, h4⟩
    subst hji
    rw [e2] at ha hp
    exact hne ⟨h3.symm.trans ha, h4.symm.trans hp⟩

end Go.Proofs.Ytiijecnhbioehaa

