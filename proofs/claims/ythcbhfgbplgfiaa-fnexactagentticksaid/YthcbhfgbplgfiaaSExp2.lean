/- Expire, the model's and the program's. -/
import Derived.Test.YthcbhfgbplgfiaaSExp
namespace Go.Proofs.Ythcbhfgbplgfiaa
open Go.ChangeShapes Go.WideShapes Go.ChangeAt Go.RowKit Go.Joins
set_option linter.unusedVariables false
set_option linter.unusedSimpArgs false

/-- A row of slots is no box that holds a slice. -/
theorem row_ne_box {W : World} {B b off n c : Nat} {o : Option Addr} {T : TypeId} {m : List Sl} (hm : 0 < m.length) (hB : W.heap[B]? = some (.cells #[.slice o n c] T (0, 0))) (hr : (∀ i, i < m.length → ∀ j, j < layS.k → W.cell? ⟨b, off + i * layS.k + j, none⟩ = (layS.cs (m.getD i layS.d))[j]?)) : b ≠ B := by
  rintro rfl
  have h : W.cell? ⟨b, off + 0 * layS.k + 0, none⟩ = some (.bool (m.getD 0 layS.d).u) := hr 0 hm 0 (by decide)
  simp only [World.cell?, hB, Nat.zero_mul, Nat.add_zero] at h
  rcases off with _ | off <;> simp at h

set_option maxHeartbeats 4000000 in
theorem l5expireW_any (b off c : Nat) (l : List Sl) (now : Int) (w : World) (hok : tableOkB l = true) (hbl : b < w.heap.size) (hc : ∀ i, i < l.length → ∀ j, j < layS.k → w.cell? ⟨b, off + i * layS.k + j, none⟩ = (layS.cs (l.getD i layS.d))[j]?) :
    Calls Try.prog 100 #[tab (.slice (some ⟨b, off, none⟩) l.length c), .int .i64 now] w fun e w' => ∃ b' off' c', e = .returned (.tuple #[tab (.slice (some ⟨b', off', none⟩) l.length c'), .int .i64 ((expL l now).2 : Nat)]) ∧ b' < w'.heap.size ∧ (∀ i, i < (expL l now).1.length → ∀ j, j < layS.k → w'.cell? ⟨b', off' + i * layS.k + j, none⟩ = (layS.cs ((expL l now).1.getD i layS.d))[j]?) ∧ Below w.heap.size w w' ∧ (b' = b ∨ w.heap.size ≤ b') := by
  have hn := (tableOkB_iff.1 hok).1
  have h16 := (tableOkB_iff.1 hok).2.1
  have HInv0 := hide (ExpInv.start (now := now) hok)
  have HC := hide hc
  clear hc hok
  obtain ⟨W0, hW0⟩ : ∃ W, ((w.alloc (.cells #[.slice (some ⟨b, off, none⟩) l.length c] 25)).alloc (.cells #[.slice none 0 0] 25)) = W := ⟨_, rfl⟩
  have hb_W0 : Below w.heap.size w W0 := by rw [← hW0]; exact (((Below.refl _ _).alloc (Nat.le_refl _) _).alloc (by simp <;> omega) _)
  have HB := hide hb_W0
  clear hb_W0
  have zct : w.heap.size < W0.heap.size := by rw [← hW0]; simp <;> omega
  have ct0 : W0.cell? ⟨w.heap.size, 0, none⟩ = some (.slice (some ⟨b, off, none⟩) l.length c) := by rw [← hW0]; simp [go_sem]
  have fct0 : W0.frozen? ⟨w.heap.size, 0, none⟩ = false := by rw [← hW0]; simp [go_sem]
  have zcr : w.heap.size + 1 < W0.heap.size := by rw [← hW0]; simp
  have cr0 : W0.cell? ⟨w.heap.size + 1, 0, none⟩ = some (.slice none 0 0) := by rw [← hW0]; simp [go_sem]
  have fcr0 : W0.frozen? ⟨w.heap.size + 1, 0, none⟩ = false := by rw [← hW0]; simp [go_sem]
  have HX0 : Hid (W0.heap[w.heap.size]? = some (.cells #[.slice (some ⟨b, off, none⟩) l.length c] 25 (0, 0))) := by rw [← hW0]; exact (Below.heap_alloc _ _ _ (by simp)).trans (World.alloc_heap_new w _)
  have HX1 : Hid (W0.heap[w.heap.size + 1]? = some (.cells #[.slice none 0 0] 25 (0, 0))) := by
    have h := World.alloc_heap_new (w.alloc (.cells #[.slice (some ⟨b, off, none⟩) l.length c] 25)) (.cells #[.slice none 0 0] 25)
    rw [World.size_alloc] at h
    rw [← hW0]; exact h
  have HRd0 : Hid (∀ i, i < l.length → ∀ j, j < layS.k → W0.cell? ⟨b, off + i * layS.k + j, none⟩ = (layS.cs (l.getD i layS.d))[j]?) := (fun i hi j hj => (HB.out.cell (p := ⟨b, off + i * layS.k + j, none⟩) hbl).trans (HC.out i hi j hj))
  have hbl0 : b < W0.heap.size := Nat.lt_of_lt_of_le hbl HB.out.size
  go_enter Try.func100, Try.ntmps100
  go_wp2
  go_loopg [6] (cnt l) (fun gk nv wr => ∃ (m : List Sl) (d b' off' c' : Nat), nv = .int .i64 d ∧ Hid (ExpInv l.length now (expL l now) gk m d) ∧ b' < wr.heap.size ∧ Hid (∀ i, i < m.length → ∀ j, j < layS.k → wr.cell? ⟨b', off' + i * layS.k + j, none⟩ = (layS.cs (m.getD i layS.d))[j]?) ∧ Hid (wr.heap[w.heap.size]? = some (.cells #[.slice (some ⟨b', off', none⟩) l.length c'] 25 (0, 0))) ∧ Hid (wr.heap[w.heap.size + 1]? = some (.cells #[.slice none 0 0] 25 (0, 0))) ∧ Hid (Below w.heap.size w wr) ∧ (b' = b ∨ w.heap.size ≤ b'))
  case atStart => exact ⟨l, 0, b, off, c, rfl, HInv0, hbl0, HRd0, HX0, HX1, HB, .inl rfl⟩
  case round =>
    clear HInv0 HRd0 HX0 HX1 HB ct0 cr0 fct0 fcr0 zct zcr HC hbl0 hbl hW0
    obtain ⟨m, d, b', off', c', rfl, HI, hb', HRd, HX0, HX1, HBr, hwh⟩ := hrel
    have hml := hide HI.out.len
    have hm0 : 0 < m.length := by rw [hml.out]; exact hn
    have z0 : w.heap.size < wr.heap.size := (Array.getElem?_eq_some_iff.1 HX0.out).1
    have z1 : w.heap.size + 1 < wr.heap.size := (Array.getElem?_eq_some_iff.1 HX1.out).1
    have ct0 := block_cell1 HX0.out 0 _ rfl
    have hdu := l5due_any b' off' c' m now wr (by rw [hml.out]; omega) hb' HRd.out
    rw [hml.out] at hdu
    go_wp2_with fail
    refine hdu.mono ?_
    rintro e W1 ⟨fa, fp, fb, rfl, hcase, hb1⟩
    clear hdu ct0
    obtain ⟨W2, hW2⟩ : ∃ W, W1.alloc (.cells #[.int .i64 fa, .int .i64 fp] 29) = W := ⟨_, rfl⟩
    have hb2 : Below wr.heap.size wr W2 := by rw [← hW2]; exact hb1.alloc hb1.size _
    have cf0 : W2.cell? ⟨W1.heap.size, 0, none⟩ = some (.int .i64 fa) := by rw [← hW2]; simp [go_sem]
    have cf1 : W2.cell? ⟨W1.heap.size, 1, none⟩ = some (.int .i64 fp) := by rw [← hW2]; simp [go_sem]
    have HY0 : Hid (W2.heap[w.heap.size]? = some (.cells #[.slice (some ⟨b', off', none⟩) l.length c'] 25 (0, 0))) := (hb2.block _ z0).trans HX0.out
    have HY1 : Hid (W2.heap[w.heap.size + 1]? = some (.cells #[.slice none 0 0] 25 (0, 0))) := (hb2.block _ z1).trans HX1.out
    have HRd2 : Hid (∀ i, i < m.length → ∀ j, j < layS.k → W2.cell? ⟨b', off' + i * layS.k + j, none⟩ = (layS.cs (m.getD i layS.d))[j]?) := fun i hi j hj => (hb2.cell (p := ⟨b', off' + i * layS.k + j, none⟩) hb').trans (HRd.out i hi j hj)
    have HB2 := hide (HBr.out.trans (hb2.mono HBr.out.size))
    have hs2 := hb2.size
    have hb'2 : b' < W2.heap.size := by omega
    have ct0 := block_cell1 HY0.out 0 _ rfl
    have cr0 := block_cell1 HY1.out 0 _ rfl
    have fct0 := frozen_of HY0.out 0
    have fcr0 := frozen_of HY1.out 0
    clear hb1 hb2 HX0 HX1 HRd HBr
    rcases hcase with ⟨hd, rfl⟩ | ⟨i, hd, rfl, hfa, hfp⟩
    · have HD := hide (HI.out.done hd)
      have hne := row_ne_box hm0 HY1.out HRd2.out
      clear hd
      go_wp2
      refine bodyPost_ret (v := .tuple #[tab (.slice (some ⟨b', off', none⟩) l.length c'), .int .i64 d]) (by simp [results, Try.results100, go_sem, cr0]) rfl ⟨b', off', c', by rw [HD.out], ?_, ?_, ?_, hwh⟩
      · simpa using hb'2
      · rw [HD.out]
        exact fun i hi j hj => (World.cell?_setCell_far _ _ _ _ (fun e => hne e.symm)).trans (HRd2.out i hi j hj)
      · exact HB2.out.setCell (p := ⟨w.heap.size + 1, 0, none⟩) (by simp) _
    · obtain ⟨hg, hin, hu, hc16, hN⟩ := HI.out.step hd
      have HN := hide hN
      have him : i < m.length := by rw [hml.out]; exact hin
      have hway := way_at HI.out.ok him hu
      have hE : (endL m fa fp).2 = true := by rw [hfa, hfp, hway]
      have hP : dropL m fa fp = dropAtL m i := by rw [hfa, hfp]; exact dropL_yes hway
      have hF : flowOkB fa fp = true := by rw [hfa, hfp]; exact flowsOk_of HI.out.ok i him hu
      have hdr := l5dropW_any b' off' c' m fa fp W2 hm0 (by rw [hml.out]; exact h16) hF (flowsOk_of HI.out.ok) hb'2 HRd2.out
      rw [hE, hP, hml.out] at hdr
      have hdl : 0 < (dropAtL m i).length := by rw [dropAtL_length]; exact hm0
      clear hd hN hway hE hP hF hfa hfp hu
      go_wp2_with fail
      refine hdr.mono ?_
      rintro e W3 ⟨b2, off2, c2, rfl, hb3, hrd3, hB3, hw3⟩
      have hwh2 : b2 = b ∨ w.heap.size ≤ b2 := by have := HB2.out.size; omega
      have HRd3 := hide hrd3
      have hs3 := hB3.size
      have HZ0 : Hid (W3.heap[w.heap.size]? = some (.cells #[.slice (some ⟨b', off', none⟩) l.length c'] 25 (0, 0))) := (hB3.block _ (by omega)).trans HY0.out
      have HZ1 : Hid (W3.heap[w.heap.size + 1]? = some (.cells #[.slice none 0 0] 25 (0, 0))) := (hB3.block _ (by omega)).trans HY1.out
      have hne := row_ne_box hdl HZ0.out hrd3
      have HB3 := hide (HB2.out.trans (hB3.mono HB2.out.size))
      clear ct0 cr0 fct0 fcr0 cf0 cf1 hdr hrd3 hB3 HY0 HY1 HRd2 HB2
      have ct0 := block_cell1 HZ0.out 0 _ rfl
      have fct0 := frozen_of HZ0.out 0
      go_wp2
      go_roundg (gk - 1)
      case measure => omega
      case rel =>
        refine ⟨dropAtL m i, d + 1, b2, off2, c2, by simp, HN, by simpa using hb3, ?_, ?_, ?_, ?_, hwh2⟩
        · exact fun i hi j hj => (World.cell?_setCell_far _ _ _ _ (fun e => hne e.symm)).trans (HRd3.out i hi j hj)
        · exact box_set1 W3 w.heap.size 0 _ _ _ HZ0.out
        · exact (Below.heap_setCell W3 ⟨w.heap.size, 0, none⟩ _ (w.heap.size + 1) (by simp)).trans HZ1.out
        · exact HB3.out.setCell (p := ⟨w.heap.size, 0, none⟩) (Nat.le_refl _) _
theorem l5expire_any (b off c : Nat) (l : List Sl) (now : Int) (w : World) (hok : tableOkB l = true) (hbl : b < w.heap.size) (hc : ∀ i, i < l.length → ∀ j, j < layS.k → w.cell? ⟨b, off + i * layS.k + j, none⟩ = (layS.cs (l.getD i layS.d))[j]?) :
    Calls Try.prog 100 #[tab (.slice (some ⟨b, off, none⟩) l.length c), .int .i64 now] w fun e w' => ∃ b' off' c', e = .returned (.tuple #[tab (.slice (some ⟨b', off', none⟩) l.length c'), .int .i64 ((expL l now).2 : Nat)]) ∧ b' < w'.heap.size ∧ (∀ i, i < (expL l now).1.length → ∀ j, j < layS.k → w'.cell? ⟨b', off' + i * layS.k + j, none⟩ = (layS.cs ((expL l now).1.getD i layS.d))[j]?) ∧ Below w.heap.size w w' := by
  refine (l5expireW_any b off c l now w hok hbl hc).mono ?_
  rintro e w' ⟨b', off', c', h1, h2, h3, h4, _⟩
  exact ⟨b', off', c', h1, h2, h3, h4⟩

end Go.Proofs.Ythcbhfgbplgfiaa
