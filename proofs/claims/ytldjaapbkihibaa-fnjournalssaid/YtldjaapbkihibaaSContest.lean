/- The program's contestOf. -/
import Derived.Test.YtldjaapbkihibaaSHeap6
import Derived.Test.YtldjaapbkihibaaSScore2
import Derived.Deep.RegionHeld3
namespace Go.Proofs.Ytldjaapbkihibaa
open Go.ChangeShapes Go.WideShapes Go.ChangeAt Go.RowKit Go.Joins
set_option linter.unusedVariables false
set_option linter.unusedSimpArgs false

/-- Those who do not drain, with their scores. -/
def scL (k b : Int) (l : List Bk) : List Sc := (l.filter (fun x => !x.2.2)).map (fun x => (x.1, scoreI k b x.1 x.2.1))
theorem scL_snoc_no (k b : Int) (l : List Bk) (x : Bk) (h : x.2.2 = true) : scL k b (l ++ [x]) = scL k b l := by simp [scL, h]
theorem scL_snoc_yes (k b : Int) (l : List Bk) (x : Bk) (h : x.2.2 = false) : scL k b (l ++ [x]) = scL k b l ++ [(x.1, scoreI k b x.1 x.2.1)] := by simp [scL, h]
/-- The board holds just these. -/
def Holds (lb ls : List Sc) : Prop := lb.length = ls.length ∧ (∀ z, (∃ i, i < lb.length ∧ lb.getD i (0, 0) = z) ↔ z ∈ ls) ∧ Dist lb lb.length
theorem mem_getD {l : List Sc} {z : Sc} : (∃ i, i < l.length ∧ l.getD i (0, 0) = z) ↔ z ∈ l := by
  constructor
  · rintro ⟨i, hi, rfl⟩
    rw [show l.getD i (0, 0) = l[i] by simp [hi]]
    exact List.getElem_mem hi
  · intro h
    obtain ⟨i, hi, e⟩ := List.getElem_of_mem h
    exact ⟨i, hi, by simp [hi, e]⟩
theorem Holds.push {lb l' ls : List Sc} {x : Sc} (h : Holds lb ls) (hx : x ∉ ls) (hs : Same (lb ++ [x]) l' (lb.length + 1)) : Holds l' (ls ++ [x]) := by
  have hl : (lb ++ [x]).length = lb.length + 1 := by simp
  have hl' : l'.length = lb.length + 1 := hs.1.trans hl
  refine ⟨by rw [hl', h.1]; simp, fun z => ?_, ?_⟩
  · rw [hl', hs.2.1 z, ← hl, mem_getD, List.mem_append, List.mem_append, ← h.2.1 z, mem_getD]
  · rw [hl']
    refine hs.2.2 (fun i j hi hj e => ?_)
    rcases Nat.lt_or_ge i lb.length with h1 | h1 <;> rcases Nat.lt_or_ge j lb.length with h2 | h2
    · rw [getD_snoc_lt h1, getD_snoc_lt h2] at e; exact h.2.2 i j h1 h2 e
    · rw [getD_snoc_lt h1, show j = lb.length by omega, getD_snoc_eq] at e
      exact absurd ((h.2.1 x).1 ⟨i, h1, e⟩) hx
    · rw [show i = lb.length by omega, getD_snoc_eq, getD_snoc_lt h2] at e
      exact absurd ((h.2.1 x).1 ⟨j, h2, e.symm⟩) hx
    · omega
/-- Ids ascend: who comes next is not there yet. -/
theorem scL_ids {key b : Int} {l : List Bk} {z : Sc} (h : z ∈ scL key b l) : ∃ i, i < l.length ∧ (l.getD i (0, 0, false)).1 = z.1 := by
  unfold scL at h
  obtain ⟨x, hx, e⟩ := List.mem_map.1 h
  obtain ⟨i, hi, e2⟩ := List.getElem_of_mem (List.mem_filter.1 hx).1
  exact ⟨i, hi, by rw [← e]; simp [hi, e2]⟩
theorem backs_lt {l : List Bk} (h : backsOkB l = true) : ∀ j, j < l.length → ∀ i, i < j → (l.getD i (0, 0, false)).1 < (l.getD j (0, 0, false)).1 := fun j => by
  induction j with
  | zero => intro _ i hi; omega
  | succ j ih =>
    intro hj i hi
    have h1 : (l.getD j (0, 0, false)).1 < (l.getD (j + 1) (0, 0, false)).1 := by
      have := backsOkB_iff.1 h (j + 1) hj
      unfold okAt at this
      simp only [Bool.and_eq_true, Bool.or_eq_true, decide_eq_true_eq, Nat.add_sub_cancel] at this
      rcases this.2 with h0 | h0
      · omega
      · exact h0
    rcases Nat.lt_or_ge i j with h2 | h2
    · exact Int.lt_trans (ih (by omega) i h2) h1
    · rw [show i = j by omega]; exact h1
theorem sc_new {key b : Int} {l : List Bk} {j : Nat} {x y : Int} {z : Bool} {s : Int} (h : backsOkB l = true) (hj : j < l.length) (hxy : l.getD j (0, 0, false) = (x, y, z)) : (x, s) ∉ scL key b (l.take j) := fun hm => by
  obtain ⟨i, hi, e⟩ := scL_ids hm
  have hij : i < j := by simp at hi; omega
  have := backs_lt h j hj i hij
  rw [hxy] at this
  rw [show (l.take j).getD i (0, 0, false) = l.getD i (0, 0, false) by simp [List.getD_eq_getElem?_getD, List.getElem?_take, hij]] at e
  dsimp only at e this
  omega

theorem BrdV.kept {k : Nat} {v : Value} {w w' : World} {l : List Sc} (h : BrdV k v w l) (hb : Below w.heap.size w w') : BrdV k v w' l := ⟨(hb.block k h.lt).trans h.box, own_kept h.row hb⟩
theorem okAt_back {l : List Bk} {j : Nat} {x y : Int} {z : Bool} (hl : backsOkB l = true) (hj : j < l.length) (hxy : l.getD j (0, 0, false) = (x, y, z)) : backB x y = true := by
  have := backsOkB_iff.1 hl j hj
  unfold okAt at this
  rw [hxy] at this
  exact (Bool.and_eq_true_iff.1 this).1

set_option maxRecDepth 100000 in
set_option maxHeartbeats 2000000 in
theorem contestOf_any (key b : Int) (o : Option Addr) (cap : Nat) (l : List Bk) (w : World) (hR : RdK w.heap.size w o l) (hlen : l.length ≤ 1000) (hk : keyB key = true) (hbk : 0 ≤ b ∧ b < 8) (hl : backsOkB l = true) :
    Calls Try.prog 142 #[.int .i64 key, .int .i64 b, .slice o l.length cap] w fun e w' => ∃ k v lb, e = .returned (.iface 186 (.pointer (some ⟨k, 0, none⟩))) ∧ BrdV k v w' lb ∧ HeapP lb lb.length ∧ okD lb ∧ Holds lb (scL key b l) ∧ w.heap.size ≤ k ∧ Below w.heap.size w w' := by
  go_enter Try.func142, Try.ntmps142
  go_wp2
  go_loopw [13] (fun iv wr => ∃ (j : Nat) (v : Value) (lb : List Sc), iv = .int .i64 j ∧ j ≤ l.length ∧ BrdV w.heap.size v wr lb ∧ HeapP lb lb.length ∧ okD lb ∧ Holds lb (scL key b (l.take j)) ∧ lb.length ≤ j ∧ Below w.heap.size w wr)
    (fun iv _ => l.length - (intOf iv).toNat)
  case atStart =>
    refine ⟨0, .slice none 0 0, [], rfl, Nat.zero_le _, ⟨World.alloc_heap_new w _, World.ownsRow_nil _ _ _ _⟩, fun i h1 h2 => by simp at h2, fun i hi => by simp at hi, ⟨rfl, fun z => by simp [scL], fun i j hi => by simp at hi⟩, Nat.zero_le _, (Below.refl _ _).alloc (Nat.le_refl _) _⟩
  case round =>
    obtain ⟨j, v, lb, rfl, hj, hb, hh, ho, hhd, hlb, hBr⟩ := hrel
    by_cases hlt : j < l.length
    · rcases hR with hR | ⟨bb, off, rfl, hbl, hcell⟩
      · subst hR; simp at hlt
      obtain ⟨x, y, z, hxy⟩ : ∃ x y z, l.getD j (0, 0, false) = (x, y, z) := ⟨_, _, _, rfl⟩
      have hcx := RdL.back (C := w.heap.size) hcell j hlt
      rw [hxy] at hcx
      have hc0 : wr.cell? ⟨bb, off + j * 3, none⟩ = some (.int .i64 x) := (hBr.cell (p := ⟨bb, off + j * 3, none⟩) hbl).trans hcx.1
      have hc1 : wr.cell? ⟨bb, off + j * 3 + 1, none⟩ = some (.int .i64 y) := (hBr.cell (p := ⟨bb, off + j * 3 + 1, none⟩) hbl).trans hcx.2.1
      have hc2 : wr.cell? ⟨bb, off + j * 3 + 2, none⟩ = some (.bool z) := (hBr.cell (p := ⟨bb, off + j * 3 + 2, none⟩) hbl).trans hcx.2.2
      have hts := takeL_succ layK l j hlt
      rw [show l.getD j layK.d = l.getD j (0, 0, false) from rfl, hxy] at hts
      have hbb := okAt_back hl hlt hxy
      obtain ⟨i0, i1, g0, g1⟩ := backB_iff.1 hbb
      have hnew := sc_new (key := key) (b := b) (s := scoreI key b x y) hl hlt hxy
      clear hcell hcx hxy
      cases z with
      | true =>
        have HH := hide (show Holds lb (scL key b (l.take (j + 1))) by rw [hts, scL_snoc_no _ _ _ _ rfl]; exact hhd)
        have HB := hide hb
        have HBr := hide hBr
        clear hts hhd hb hBr hnew
        go_wp2
        go_roundw
        case rel => exact ⟨j + 1, v, lb, by go_num, by omega, HB.out.kept ((Below.refl _ _).alloc (Nat.le_refl _) _), hh, ho, HH.out, by omega, HBr.out.alloc HBr.out.size _⟩
        case measure => simp [intOf]; omega
      | false =>
        have hso : scoreOfI key b x y = scoreI key b x y := by rw [scoreOfI, if_pos ⟨hk, hbk, hbb⟩]
        have hsc := fun W => hso ▸ implScore_any key b x y false W
        obtain ⟨p0, p1, p2⟩ := box3 wr (.int .i64 x) (.int .i64 y) (.bool false) 39
        have hs : wr.heap.size < (wr.alloc (Obj.cells #[Value.int IntKind.i64 x, Value.int IntKind.i64 y, Value.bool false] 39)).heap.size := by simp
        have hb0 : BrdV w.heap.size v (wr.alloc (Obj.cells #[Value.int IntKind.i64 x, Value.int IntKind.i64 y, Value.bool false] 39)) lb := hb.kept ((Below.refl _ _).alloc (Nat.le_refl _) _)
        have hB0 : Below w.heap.size w (wr.alloc (Obj.cells #[Value.int IntKind.i64 x, Value.int IntKind.i64 y, Value.bool false] 39)) := hBr.alloc hBr.size _
        have HH := hide (fun l2 (h2 : Same (lb ++ [(x, scoreI key b x y)]) l2 (lb.length + 1)) => (show Holds l2 (scL key b (l.take (j + 1))) by rw [hts, scL_snoc_yes _ _ _ _ rfl]; exact hhd.push hnew h2))
        have HL := hide (fun l2 (h2 : Same (lb ++ [(x, scoreI key b x y)]) l2 (lb.length + 1)) => (show l2.length ≤ j + 1 by rw [h2.1]; simp; omega))
        clear hts hhd hnew
        go_wp2_with fail
        clear hc0 hc1 hc2
        generalize (wr.alloc (Obj.cells #[Value.int IntKind.i64 x, Value.int IntKind.i64 y, Value.bool false] 39)) = w0 at *
        have HB0 := hide hb0
        have HBB := hide hB0
        generalize hscg : scoreI key b x y = sc at *
        clear hb0 hB0 hb hBr hscg hso
        go_region_with (first | (go_at_call 147; refine (hsc _).mono ?_; rintro e w1 ⟨rfl, hb1⟩; replace hb1 : Below w0.heap.size w0 w1 := (Below.drew (Below.refl _ _)).trans hb1; have q0 := (hb1.cell (p := ⟨wr.heap.size, 0, none⟩) hs).trans p0; have q1 := (hb1.cell (p := ⟨wr.heap.size, 1, none⟩) hs).trans p1; have q2 := (hb1.cell (p := ⟨wr.heap.size, 2, none⟩) hs).trans p2) | (go_at_call 146; refine (pushH_any w.heap.size v lb x sc w1 (HB0.out.kept hb1) ho ⟨i0, by omega⟩ hh (by omega)).mono ?_; rintro e w2 ⟨rfl, g2, c2, l2, hb2, hh2, hs2, ho2, hB2⟩))
        all_goals (
          go_wp2
          go_roundw
          case rel => exact ⟨j + 1, _, l2, by go_num, by omega, hb2.v, hh2, ho2, HH.out l2 hs2, HL.out l2 hs2, (HBB.out.trans (hb1.mono HBB.out.size)).trans hB2⟩
          case measure => simp [intOf]; omega)
    · have e : j = l.length := by omega
      subst e
      rw [List.take_of_length_le (Nat.le_refl _)] at hhd
      go_wp2
      go_ret
      exact ⟨_, v, lb, rfl, hb, hh, ho, hhd, Nat.le_refl _, hBr⟩

end Go.Proofs.Ytldjaapbkihibaa
