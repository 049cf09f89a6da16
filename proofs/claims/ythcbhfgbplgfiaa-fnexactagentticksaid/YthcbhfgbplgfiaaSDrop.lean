/- Drop, the model's and the program's. -/
import Derived.Test.YthcbhfgbplgfiaaSDropS
namespace Go.Proofs.Ythcbhfgbplgfiaa
open Go.ChangeShapes Go.WideShapes Go.ChangeAt Go.RowKit Go.Joins
set_option linter.unusedVariables false
set_option linter.unusedSimpArgs false

def dropM (l : List Sl) (a p : Int) : List Sl := if (tableOkB l && flowOkB a p) = true then dropL l a p else []
theorem dropM_len (l : List Sl) (a p : Int) : (dropM l a p).length ≤ 16 := by
  unfold dropM
  split
  · next h =>
    rw [dropL_length]
    exact (tableOkB_iff.1 ((Bool.and_eq_true _ _).mp h).1).2.1
  · exact Nat.zero_le _
set_option maxHeartbeats 2000000 in
theorem drop_any (g c base : Nat) (l : List Sl) (a p : Int) (w : World) (hn : 0 < l.length) (h16 : l.length ≤ 16) (hf : flowOkB a p = true) (hok : flowsOk l) (ho : w.ownsRow base CellT 5 (.slice (some ⟨g, 0, none⟩) l.length c) l.length (l.flatMap layS.cs)) :
    Calls Try.prog 113 #[tab (.slice (some ⟨g, 0, none⟩) l.length c), flow a p] w fun e w' => e = .returned (.bool (endL l a p).2) ∧ w'.ownsRow base CellT 5 (.slice (some ⟨g, 0, none⟩) l.length c) l.length ((dropL l a p).flatMap layS.cs) ∧ Stp g (g + 1) w w' := by
  have HO := hide ho
  have hl : l.length ≤ 1048576 := by omega
  clear ho
  obtain ⟨W0, hW0⟩ : ∃ W, ((w.alloc (.cells #[.slice (some ⟨g, 0, none⟩) l.length c] 78)).alloc (.cells #[.int .i64 a, .int .i64 p] 29)) = W := ⟨_, rfl⟩
  have hb_W0 : Below w.heap.size w W0 := by rw [← hW0]; exact (((Below.refl _ _).alloc (Nat.le_refl _) _).alloc (by simp <;> omega) _)
  replace HO := hide (own_kept HO.out hb_W0)
  have HB := hide hb_W0
  clear hb_W0
  have zct : w.heap.size < W0.heap.size := by rw [← hW0]; simp <;> omega
  have ct0 : W0.cell? ⟨w.heap.size, 0, none⟩ = some (.slice (some ⟨g, 0, none⟩) l.length c) := by rw [← hW0]; simp [go_sem]
  have zcf : w.heap.size + 1 < W0.heap.size := by rw [← hW0]; simp
  have cf0 : W0.cell? ⟨w.heap.size + 1, 0, none⟩ = some (.int .i64 a) := by rw [← hW0]; simp [go_sem]
  have cf1 : W0.cell? ⟨w.heap.size + 1, 1, none⟩ = some (.int .i64 p) := by rw [← hW0]; simp [go_sem]
  have hat := endOfWay_any g 0 c l a p W0 hn hl hf (HO.out.lt g rfl).2 (rd_of_own HO.out rfl)
  rcases endL_cases l hn a p with hE | ⟨i0, hi0, ⟨hE, _⟩ | ⟨hE, _⟩⟩
  · skip
    have HP := hide (dropL_no (l := l) (a := a) (p := p) (by rw [hE]))
    have HD := hide (show (endL l a p).2 = false by rw [hE])
    rw [hE] at hat
    clear hE
    go_enter Try.func113, Try.ntmps113
    go_wp2_with fail
    refine (hat).mono ?_
    rintro e v1 ⟨rfl, hb⟩
    replace ct0 : v1.cell? ⟨w.heap.size, 0, none⟩ = some (.slice (some ⟨g, 0, none⟩) l.length c) := (hb.cell (p := ⟨w.heap.size, 0, none⟩) zct).trans ct0
    replace zct : w.heap.size < v1.heap.size := Nat.lt_of_lt_of_le zct hb.size
    replace cf0 : v1.cell? ⟨w.heap.size + 1, 0, none⟩ = some (.int .i64 a) := (hb.cell (p := ⟨w.heap.size + 1, 0, none⟩) zcf).trans cf0
    replace cf1 : v1.cell? ⟨w.heap.size + 1, 1, none⟩ = some (.int .i64 p) := (hb.cell (p := ⟨w.heap.size + 1, 1, none⟩) zcf).trans cf1
    replace zcf : w.heap.size + 1 < v1.heap.size := Nat.lt_of_lt_of_le zcf hb.size
    replace HO := hide (own_kept HO.out hb)
    replace HB := hide (HB.out.trans (hb.mono HB.out.size))
    clear hb
    clear hat
    go_wp2
    go_ret
    exact ⟨by rw [HD.out]; rfl, by rw [HP.out]; exact HO.out, Stp.of HB.out⟩
  · skip
    have HP := hide (dropL_no (l := l) (a := a) (p := p) (by rw [hE]))
    have HD := hide (show (endL l a p).2 = false by rw [hE])
    rw [hE] at hat
    clear hE
    go_enter Try.func113, Try.ntmps113
    go_wp2_with fail
    refine (hat).mono ?_
    rintro e v1 ⟨rfl, hb⟩
    replace ct0 : v1.cell? ⟨w.heap.size, 0, none⟩ = some (.slice (some ⟨g, 0, none⟩) l.length c) := (hb.cell (p := ⟨w.heap.size, 0, none⟩) zct).trans ct0
    replace zct : w.heap.size < v1.heap.size := Nat.lt_of_lt_of_le zct hb.size
    replace cf0 : v1.cell? ⟨w.heap.size + 1, 0, none⟩ = some (.int .i64 a) := (hb.cell (p := ⟨w.heap.size + 1, 0, none⟩) zcf).trans cf0
    replace cf1 : v1.cell? ⟨w.heap.size + 1, 1, none⟩ = some (.int .i64 p) := (hb.cell (p := ⟨w.heap.size + 1, 1, none⟩) zcf).trans cf1
    replace zcf : w.heap.size + 1 < v1.heap.size := Nat.lt_of_lt_of_le zcf hb.size
    replace HO := hide (own_kept HO.out hb)
    replace HB := hide (HB.out.trans (hb.mono HB.out.size))
    clear hb
    clear hat
    go_wp2
    go_ret
    exact ⟨by rw [HD.out]; rfl, by rw [HP.out]; exact HO.out, Stp.of HB.out⟩
  · skip
    have HP := hide (dropL_yes hE)
    have HD := hide (show (endL l a p).2 = true by rw [hE])
    rw [hE] at hat
    clear hE
    go_enter Try.func113, Try.ntmps113
    go_wp2_with fail
    refine (hat).mono ?_
    rintro e v1 ⟨rfl, hb⟩
    replace ct0 : v1.cell? ⟨w.heap.size, 0, none⟩ = some (.slice (some ⟨g, 0, none⟩) l.length c) := (hb.cell (p := ⟨w.heap.size, 0, none⟩) zct).trans ct0
    replace zct : w.heap.size < v1.heap.size := Nat.lt_of_lt_of_le zct hb.size
    replace cf0 : v1.cell? ⟨w.heap.size + 1, 0, none⟩ = some (.int .i64 a) := (hb.cell (p := ⟨w.heap.size + 1, 0, none⟩) zcf).trans cf0
    replace cf1 : v1.cell? ⟨w.heap.size + 1, 1, none⟩ = some (.int .i64 p) := (hb.cell (p := ⟨w.heap.size + 1, 1, none⟩) zcf).trans cf1
    replace zcf : w.heap.size + 1 < v1.heap.size := Nat.lt_of_lt_of_le zcf hb.size
    replace HO := hide (own_kept HO.out hb)
    replace HB := hide (HB.out.trans (hb.mono HB.out.size))
    clear hb
    go_wp2_with fail
    refine (dropAt_any g c base l.length i0 l v1 rfl h16 hi0 hok HO.out).mono ?_
    rintro e W2 ⟨⟨v, rfl⟩, ho2, hst⟩
    have HO2 := hide ho2
    have HSt := hide ((Stp.of (lo := g) (hi := g + 1) HB.out).trans hst)
    clear ho2 hst hat
    go_wp2
    go_ret
    exact ⟨by rw [HD.out]; rfl, by rw [HP.out]; exact HO2.out, HSt.out⟩

end Go.Proofs.Ythcbhfgbplgfiaa
