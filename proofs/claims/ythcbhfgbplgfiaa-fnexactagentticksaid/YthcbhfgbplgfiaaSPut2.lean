/- Put, the model's and the program's. -/
import Derived.Test.YthcbhfgbplgfiaaSPut
namespace Go.Proofs.Ythcbhfgbplgfiaa
open Go.ChangeShapes Go.WideShapes Go.ChangeAt Go.RowKit Go.Joins
set_option linter.unusedVariables false
set_option linter.unusedSimpArgs false

def putOk (l : List Sl) (a p v t : Int) : Bool := tableOkB l && flowOkB a p && leaseB v t
def putM (l : List Sl) (a p v t : Int) : List Sl := if putOk l a p v t = true then putL l a p v t else []
def putB (l : List Sl) (a p v t : Int) : Bool := if putOk l a p v t = true then decide (0 ≤ (endL l a p).1) else false
theorem putM_len (l : List Sl) (a p v t : Int) : (putM l a p v t).length ≤ 16 := by
  unfold putM
  split
  · next h =>
    rw [putL_length]
    simp [putOk] at h
    exact (tableOkB_iff.1 h.1.1).2.1
  · exact Nat.zero_le _
theorem rd_nonnil {C : Nat} {w : World} {o : Option Addr} {l : List Sl} (h : RdS C w o l) (hn : 0 < l.length) : ∃ b off, o = some ⟨b, off, none⟩ ∧ b < C ∧ ∀ i, i < l.length → ∀ j, j < layS.k → w.cell? ⟨b, off + i * layS.k + j, none⟩ = (layS.cs (l.getD i layS.d))[j]? := by
  rcases h with h | ⟨b, off, rfl, hb, hc⟩
  · subst h; simp at hn
  · exact ⟨b, off, rfl, hb, hc⟩
set_option maxHeartbeats 2000000 in
theorem put_any (g c base : Nat) (l : List Sl) (a p v t : Int) (w : World) (hn : 0 < l.length) (hl : l.length ≤ 1048576) (hf : flowOkB a p = true) (ho : w.ownsRow base CellT 5 (.slice (some ⟨g, 0, none⟩) l.length c) l.length (l.flatMap layS.cs)) :
    Calls Try.prog 134 #[tab (.slice (some ⟨g, 0, none⟩) l.length c), flow a p, leaseV v t] w fun e w' => e = .returned (.bool (decide (0 ≤ (endL l a p).1))) ∧ w'.ownsRow base CellT 5 (.slice (some ⟨g, 0, none⟩) l.length c) l.length ((putL l a p v t).flatMap layS.cs) ∧ Stp g (g + 1) w w' := by
  have HO := hide ho
  have hgw := (ho.lt g rfl).2
  clear ho
  obtain ⟨W0, hW0⟩ : ∃ W, (((w.alloc (.cells #[.slice (some ⟨g, 0, none⟩) l.length c] 78)).alloc (.cells #[.int .i64 a, .int .i64 p] 29)).alloc (.cells #[.int .i64 v, .int .i64 t] 105)) = W := ⟨_, rfl⟩
  have hb_W0 : Below w.heap.size w W0 := by rw [← hW0]; exact ((((Below.refl _ _).alloc (Nat.le_refl _) _).alloc (by simp <;> omega) _).alloc (by simp <;> omega) _)
  replace HO := hide (own_kept HO.out hb_W0)
  have HB := hide hb_W0
  clear hb_W0
  have zct : w.heap.size < W0.heap.size := by rw [← hW0]; simp <;> omega
  have ct0 : W0.cell? ⟨w.heap.size, 0, none⟩ = some (.slice (some ⟨g, 0, none⟩) l.length c) := by rw [← hW0]; simp [go_sem]
  have zcf : w.heap.size + 1 < W0.heap.size := by rw [← hW0]; simp <;> omega
  have cf0 : W0.cell? ⟨w.heap.size + 1, 0, none⟩ = some (.int .i64 a) := by rw [← hW0]; simp [go_sem]
  have cf1 : W0.cell? ⟨w.heap.size + 1, 1, none⟩ = some (.int .i64 p) := by rw [← hW0]; simp [go_sem]
  have zcl : w.heap.size + 1 + 1 < W0.heap.size := by rw [← hW0]; simp
  have cl0 : W0.cell? ⟨w.heap.size + 1 + 1, 0, none⟩ = some (.int .i64 v) := by rw [← hW0]; simp [go_sem]
  have cl1 : W0.cell? ⟨w.heap.size + 1 + 1, 1, none⟩ = some (.int .i64 t) := by rw [← hW0]; simp [go_sem]
  have hat := endOfWay_any g 0 c l a p W0 hn hl hf (HO.out.lt g rfl).2 (rd_of_own HO.out rfl)
  rcases endL_place l hn a p with h1 | ⟨k, hk, h1⟩
  · skip
    have HP := hide (putL_no (l := l) (a := a) (p := p) (v := v) (t := t) (by rw [h1]; decide))
    have HD := hide (show decide (0 ≤ (endL l a p).1) = false by rw [h1]; rfl)
    rw [h1] at hat
    generalize (endL l a p).2 = E2 at hat
    clear h1
    go_enter Try.func134, Try.ntmps134
    go_wp2_with fail
    refine (hat).mono ?_
    rintro e v1 ⟨rfl, hb⟩
    replace ct0 : v1.cell? ⟨w.heap.size, 0, none⟩ = some (.slice (some ⟨g, 0, none⟩) l.length c) := (hb.cell (p := ⟨w.heap.size, 0, none⟩) zct).trans ct0
    replace zct : w.heap.size < v1.heap.size := Nat.lt_of_lt_of_le zct hb.size
    replace cf0 : v1.cell? ⟨w.heap.size + 1, 0, none⟩ = some (.int .i64 a) := (hb.cell (p := ⟨w.heap.size + 1, 0, none⟩) zcf).trans cf0
    replace cf1 : v1.cell? ⟨w.heap.size + 1, 1, none⟩ = some (.int .i64 p) := (hb.cell (p := ⟨w.heap.size + 1, 1, none⟩) zcf).trans cf1
    replace zcf : w.heap.size + 1 < v1.heap.size := Nat.lt_of_lt_of_le zcf hb.size
    replace cl0 : v1.cell? ⟨w.heap.size + 1 + 1, 0, none⟩ = some (.int .i64 v) := (hb.cell (p := ⟨w.heap.size + 1 + 1, 0, none⟩) zcl).trans cl0
    replace cl1 : v1.cell? ⟨w.heap.size + 1 + 1, 1, none⟩ = some (.int .i64 t) := (hb.cell (p := ⟨w.heap.size + 1 + 1, 1, none⟩) zcl).trans cl1
    replace zcl : w.heap.size + 1 + 1 < v1.heap.size := Nat.lt_of_lt_of_le zcl hb.size
    replace HO := hide (own_kept HO.out hb)
    replace HB := hide (HB.out.trans (hb.mono HB.out.size))
    clear hb
    clear hat
    go_wp2
    go_ret
    exact ⟨by rw [HD.out]; rfl, by rw [HP.out]; exact HO.out, Stp.of HB.out⟩
  · skip
    have HP := hide (putL_yes (l := l) (a := a) (p := p) (v := v) (t := t) h1)
    have HD := hide (show decide (0 ≤ (endL l a p).1) = true by rw [h1]; simp)
    rw [h1] at hat
    generalize (endL l a p).2 = E2 at hat
    clear h1
    have hk' : (k : Int) < (l.length : Int) := by omega
    go_enter Try.func134, Try.ntmps134
    go_wp2_with fail
    refine (hat).mono ?_
    rintro e v1 ⟨rfl, hb⟩
    replace ct0 : v1.cell? ⟨w.heap.size, 0, none⟩ = some (.slice (some ⟨g, 0, none⟩) l.length c) := (hb.cell (p := ⟨w.heap.size, 0, none⟩) zct).trans ct0
    replace zct : w.heap.size < v1.heap.size := Nat.lt_of_lt_of_le zct hb.size
    replace cf0 : v1.cell? ⟨w.heap.size + 1, 0, none⟩ = some (.int .i64 a) := (hb.cell (p := ⟨w.heap.size + 1, 0, none⟩) zcf).trans cf0
    replace cf1 : v1.cell? ⟨w.heap.size + 1, 1, none⟩ = some (.int .i64 p) := (hb.cell (p := ⟨w.heap.size + 1, 1, none⟩) zcf).trans cf1
    replace zcf : w.heap.size + 1 < v1.heap.size := Nat.lt_of_lt_of_le zcf hb.size
    replace cl0 : v1.cell? ⟨w.heap.size + 1 + 1, 0, none⟩ = some (.int .i64 v) := (hb.cell (p := ⟨w.heap.size + 1 + 1, 0, none⟩) zcl).trans cl0
    replace cl1 : v1.cell? ⟨w.heap.size + 1 + 1, 1, none⟩ = some (.int .i64 t) := (hb.cell (p := ⟨w.heap.size + 1 + 1, 1, none⟩) zcl).trans cl1
    replace zcl : w.heap.size + 1 + 1 < v1.heap.size := Nat.lt_of_lt_of_le zcl hb.size
    replace HO := hide (own_kept HO.out hb)
    replace HB := hide (HB.out.trans (hb.mono HB.out.size))
    clear hb
    have ho : v1.ownsRow base CellT 5 (.slice (some ⟨g, 0, none⟩) l.length c) l.length (l.flatMap layS.cs) := HO.out
    have hln : (l.flatMap layS.cs).length = l.length * 5 := by rw [flat_length]; rfl
    obtain ⟨u0, hu0⟩ : ∃ u, v1.cell? ⟨g, k * 5, none⟩ = some u := ⟨_, (ho.cellAt (k * 5) (by omega)).trans (List.getElem?_eq_getElem (by omega))⟩
    have hf0 := ho.frozenAt (k * 5)
    obtain ⟨u1, hu1⟩ : ∃ u, v1.cell? ⟨g, k * 5 + 1, none⟩ = some u := ⟨_, (ho.cellAt (k * 5 + 1) (by omega)).trans (List.getElem?_eq_getElem (by omega))⟩
    have hf1 := ho.frozenAt (k * 5 + 1)
    obtain ⟨u2, hu2⟩ : ∃ u, v1.cell? ⟨g, k * 5 + 2, none⟩ = some u := ⟨_, (ho.cellAt (k * 5 + 2) (by omega)).trans (List.getElem?_eq_getElem (by omega))⟩
    have hf2 := ho.frozenAt (k * 5 + 2)
    obtain ⟨u3, hu3⟩ : ∃ u, v1.cell? ⟨g, k * 5 + 3, none⟩ = some u := ⟨_, (ho.cellAt (k * 5 + 3) (by omega)).trans (List.getElem?_eq_getElem (by omega))⟩
    have hf3 := ho.frozenAt (k * 5 + 3)
    obtain ⟨u4, hu4⟩ : ∃ u, v1.cell? ⟨g, k * 5 + 4, none⟩ = some u := ⟨_, (ho.cellAt (k * 5 + 4) (by omega)).trans (List.getElem?_eq_getElem (by omega))⟩
    have hf4 := ho.frozenAt (k * 5 + 4)
    have HS := hide (stored5 (k := k) ⟨true, a, p, v, t⟩ (Nat.le_refl g) ho (Below.refl g v1))
    have HSt := hide ((Stp.of (lo := g) (hi := g + 1) HB.out).trans (stp_set5 v1 g k ⟨true, a, p, v, t⟩))
    clear ho hln hat
    go_wp2
    go_ret
    exact ⟨by rw [HD.out]; rfl, by rw [HP.out]; exact HS.out.1, HSt.out⟩

end Go.Proofs.Ythcbhfgbplgfiaa
