/- The program's waysEndRight, newFlowTable, slotOf. -/
import Derived.Test.YtiijecnhbioehaaSWay3
namespace Go.Proofs.Ytiijecnhbioehaa
open Go.ChangeShapes Go.WideShapes Go.ChangeAt Go.RowKit Go.Joins
set_option linter.unusedVariables false
set_option linter.unusedSimpArgs false

def waysB (l : List Sl) : Bool := (List.range l.length).all (wayB l)
theorem waysB_iff {l : List Sl} : waysB l = true ↔ ∀ i, i < l.length → wayB l i = true := by simp [waysB]
theorem waysB_no {l : List Sl} {i : Nat} (hi : i < l.length) (h : wayB l i = false) : false = waysB l := by
  cases hb : waysB l with
  | false => rfl
  | true => rw [waysB_iff.1 hb i hi] at h; cases h
theorem tableOkB_ways {l : List Sl} (h1 : 1 ≤ l.length) (h2 : l.length ≤ 16) (h : slotTo l l.length) : waysB l = tableOkB l := by
  rw [Bool.eq_iff_iff, waysB_iff, tableOkB_iff]
  constructor
  · intro hw
    exact ⟨h1, h2, fun i hi => by unfold tabAt; rw [h i hi, hw i hi]; rfl⟩
  · intro ⟨_, _, ht⟩ i hi
    have := ht i hi
    unfold tabAt at this
    rw [h i hi] at this
    simpa using this
theorem wayB_free {l : List Sl} {i : Nat} (h : (l.getD i sl0).u = false) : wayB l i = true := by unfold wayB; rw [h]; rfl
theorem wayB_yes {l : List Sl} {i : Nat} (h : endL l (l.getD i sl0).a (l.getD i sl0).p = ((i : Int), true)) : wayB l i = true := by unfold wayB; rw [h]; cases (l.getD i sl0).u <;> simp
theorem wayB_not {l : List Sl} {i : Nat} (hu : (l.getD i sl0).u = true) (h : endL l (l.getD i sl0).a (l.getD i sl0).p ≠ ((i : Int), true)) : wayB l i = false := by unfold wayB; rw [hu, beq_eq_false_iff_ne.2 h]; rfl
theorem endL_at {l : List Sl} (hn : 0 < l.length) {a p : Int} {k : Nat} (hu : (l.getD k sl0).u = true) (h : (endL l a p).1 = (k : Int)) : endL l a p = ((k : Int), true) := by
  rcases endL_cases l hn a p with e | ⟨q, hq, ⟨e, f⟩ | ⟨e, _⟩⟩
  · rw [e] at h; exact absurd (show (-1 : Int) = k from h) (by omega)
  · rw [e] at h; simp at h; have : q = k := by omega
    subst this; rw [hu] at f; cases f
  · rw [e] at h ⊢; simp at h; have : q = k := by omega
    subst this; rfl

abbrev CellT : TypeId := 87
abbrev InC5 (lo hi : Nat) (w : World) (v : Value) (l : List Sl) : Prop := InL layS CellT lo hi w v l

set_option maxHeartbeats 4000000 in
theorem waysEndRight_any (b off cap : Nat) (l : List Sl) (w : World) (hn : 0 < l.length) (hl : l.length ≤ 1048576) (hs : slotTo l l.length) (hb : b < w.heap.size)
    (hc : ∀ i, i < l.length → ∀ j, j < layS.k → w.cell? ⟨b, off + i * layS.k + j, none⟩ = (layS.cs (l.getD i layS.d))[j]?) :
    Calls Try.prog 97 #[tab (.slice (some ⟨b, off, none⟩) l.length cap)] w fun e w' => e = .returned (.bool (waysB l)) ∧ Below w.heap.size w w' := by
  have HC := hide hc
  have h0 : Hid (Below w.heap.size w (w.alloc (.cells #[.slice (some ⟨b, off, none⟩) l.length cap] 78))) := (Below.refl _ _).alloc (Nat.le_refl _) _
  have hb0 : Hid ((w.alloc (.cells #[.slice (some ⟨b, off, none⟩) l.length cap] 78)).cell? ⟨w.heap.size, 0, none⟩ = some (.slice (some ⟨b, off, none⟩) l.length cap)) := by simp [hide, go_sem, Hid]
  have hz0 : w.heap.size < (w.alloc (.cells #[.slice (some ⟨b, off, none⟩) l.length cap] 78)).heap.size := by simp
  clear hc
  go_enter Try.func97, Try.ntmps97
  go_wp2
  generalize w.alloc (.cells #[.slice (some ⟨b, off, none⟩) l.length cap] 78) = w0 at *
  go_loopw [10] (fun i wr => ∃ k : Nat, k ≤ l.length ∧ i = .int .i64 k ∧ Hid (∀ j, j < k → wayB l j = true) ∧ Hid (Below w0.heap.size w0 wr))
    (fun i _ => l.length - (intOf i).toNat)
  case atStart => exact ⟨0, Nat.zero_le _, rfl, fun i hi => absurd hi (Nat.not_lt_zero _), Below.refl _ _⟩
  case round =>
    obtain ⟨k, hk, rfl, hT, HBr⟩ := hrel
    have d0 : wr.cell? ⟨w.heap.size, 0, none⟩ = some (.slice (some ⟨b, off, none⟩) l.length cap) := (HBr.out.cell (p := ⟨w.heap.size, 0, none⟩) hz0).trans hb0.out
    have HB2 := hide (h0.out.trans (HBr.out.mono h0.out.size))
    have hs1 : w0.heap.size ≤ wr.heap.size := HBr.out.size
    by_cases hlt : k < l.length
    · obtain ⟨s, hxy⟩ : ∃ s, l.getD k sl0 = s := ⟨_, rfl⟩
      have hcx := RdL.slot (C := w.heap.size) HC.out k hlt
      have HSl := hide (hs k hlt)
      rw [hxy] at hcx HSl
      have e0 := (HB2.out.cell (p := ⟨b, off + k * 5, none⟩) hb).trans hcx.1
      have e1 := (HB2.out.cell (p := ⟨b, off + k * 5 + 1, none⟩) hb).trans hcx.2.1
      have e2 := (HB2.out.cell (p := ⟨b, off + k * 5 + 2, none⟩) hb).trans hcx.2.2.1
      have e3 := (HB2.out.cell (p := ⟨b, off + k * 5 + 3, none⟩) hb).trans hcx.2.2.2.1
      have e4 := (HB2.out.cell (p := ⟨b, off + k * 5 + 4, none⟩) hb).trans hcx.2.2.2.2
      have hk' : (k : Int) < (l.length : Int) := by omega
      have HX := hide hxy
      clear hcx hxy
      obtain ⟨su, sa, sp, sv, st⟩ := s
      simp only at e0 e1 e2 e3 e4
      cases su with
      | false =>
        have HT : Hid (∀ j, j < k + 1 → wayB l j = true) := fun j hj => by
          rcases Nat.lt_succ_iff_lt_or_eq.1 hj with h | h
          · exact hT.out j h
          · rw [h]; exact wayB_free (by rw [HX.out])
        clear hT
        go_wp2
        go_roundw
        case rel => exact ⟨k + 1, hlt, by go_num, HT, show Below _ _ _ by have hB := HBr.out; (repeat (first | with_reducible exact hB | with_reducible exact Below.refl _ _ | with_reducible refine Below.drew ?_ | with_reducible refine below_drewN ?_ _ | with_reducible refine Below.alloc ?_ ?_ _ | with_reducible refine Below.setCell ?_ ?_ _ | (focus (simp; done)) | (focus (simp; omega)) | omega))⟩
        case measure => simp [intOf]; omega
      | true =>
        obtain ⟨W1, hW1⟩ : ∃ W, wr.alloc (.cells #[.bool true, .int .i64 sa, .int .i64 sp, .int .i64 sv, .int .i64 st] CellT) = W := ⟨_, rfl⟩
        have hbW : Hid (Below wr.heap.size wr W1) := by rw [← hW1]; exact (Below.refl _ _).alloc (Nat.le_refl _) _
        have c0 : W1.cell? ⟨wr.heap.size, 0, none⟩ = some (.bool true) := by rw [← hW1]; simp [go_sem]
        have c1 : W1.cell? ⟨wr.heap.size, 1, none⟩ = some (.int .i64 sa) := by rw [← hW1]; simp [go_sem]
        have c2 : W1.cell? ⟨wr.heap.size, 2, none⟩ = some (.int .i64 sp) := by rw [← hW1]; simp [go_sem]
        have c5 : W1.cell? ⟨w.heap.size, 0, none⟩ = some (.slice (some ⟨b, off, none⟩) l.length cap) := (hbW.out.cell (p := ⟨w.heap.size, 0, none⟩) (show w.heap.size < wr.heap.size by omega)).trans d0
        have HBW := hide (HB2.out.trans (hbW.out.mono HB2.out.size))
        have HW := hide (HBr.out.trans (hbW.out.mono HBr.out.size))
        have hat := endOfWay_any b off cap l sa sp W1 hn hl ((slotB_used (s := ⟨true, sa, sp, sv, st⟩) rfl).1 HSl.out).1 (Nat.lt_of_lt_of_le hb HBW.out.size) (fun i hi j hj => (HBW.out.cell (p := ⟨b, off + i * layS.k + j, none⟩) hb).trans (HC.out i hi j hj))
        by_cases hE : (endL l sa sp).1 = (k : Int)
        · have hE2 := endL_at hn (a := sa) (p := sp) (k := k) (by rw [HX.out]) hE
          have HT : Hid (∀ j, j < k + 1 → wayB l j = true) := fun j hj => by
            rcases Nat.lt_succ_iff_lt_or_eq.1 hj with h | h
            · exact hT.out j h
            · rw [h]; exact wayB_yes (by rw [HX.out]; exact hE2)
          rw [hE2] at hat
          clear hT hE hE2
          go_wp2_with (go_at_call 95; refine hat.mono ?_; rintro e w2 ⟨rfl, hb2⟩; have HB3 := hide (HW.out.trans (hb2.mono HW.out.size)); clear hb2)
          go_roundw
          case rel => exact ⟨k + 1, hlt, by go_num, HT, HB3⟩
          case measure => simp [intOf]; omega
        · have HN := hide (waysB_no hlt (wayB_not (by rw [HX.out]) (by rw [HX.out]; exact fun h => hE (by rw [h]))))
          have hE2 : ((endL l sa sp).1 == (k : Int)) = false := beq_eq_false_iff_ne.2 hE
          generalize endL l sa sp = E at *
          clear hT
          go_wp2_with (go_at_call 95; refine hat.mono ?_; rintro e w2 ⟨rfl, hb2⟩; have HB3 := hide (HBW.out.trans (hb2.mono HBW.out.size)); clear hb2)
          go_ret
          exact ⟨ret_bool HN.out, HB3.out⟩
    · have e : k = l.length := by omega
      subst e
      have HY := hide (show true = waysB l from (waysB_iff.2 hT.out).symm)
      go_wp2
      go_ret
      exact ⟨ret_bool HY.out, HB2.out⟩

theorem infoCell : (Try.prog.info? CellT).map (fun i => (i.zero, i.size, i.bytes)) = some (some (.agg #[.bool false, .int .i64 0, .int .i64 0, .int .i64 0, .int .i64 0]), 5, 40) := by kernel_rfl
set_option maxHeartbeats 800000 in
theorem newFlowTable_any (n : Nat) (w : World) (hl : n ≤ 1048576) :
    Calls Try.prog 78 #[.int .i64 n] w fun e w' => ∃ g, e = .returned (tab (.slice (some ⟨g, 0, none⟩) n n)) ∧ ownL layS CellT w' w.heap.size (.slice (some ⟨g, 0, none⟩) n n) (List.replicate n sl0) ∧ Below w.heap.size w w' := by
  obtain ⟨i0, hi, hz0, hz1, hz2⟩ := info_parts infoCell
  have hB : Below w.heap.size w w := Below.refl _ _
  go_enter Try.func78, Try.ntmps78
  go_wp2_with (at_make; refine wpList_make_full _ rfl _ _ 76 rfl (w.heap.size + 1) CellT i0 (slot sl0) 5 Try.underlying76 hi hz0 hz1 _ _ _ _ n rfl rfl rfl rfl ?b2 ?b3 ?b4 ?_)
  case b2 => rw [hz2]; omega
  case b3 => unfold maxLen; omega
  case b4 => simp
  intro w1 hown hgrow
  have bx : w1.heap[w.heap.size]? = some (.cells #[.slice none 0 0] 78 (0, 0)) := (hgrow.block w.heap.size (by simp) (by simp)).trans (World.alloc_heap_new w _)
  have c0 := block_cell1 bx 0 _ rfl
  have f0 : w1.frozen? ⟨w.heap.size, 0, none⟩ = false := by simp [World.frozen?, bx]
  have hz : w.heap.size < w1.heap.size := (Array.getElem?_eq_some_iff.1 bx).1
  have HB : Hid (Below w.heap.size w w1) := (hB.alloc (Nat.le_refl _) _).grown hgrow (by simp) (fun k h => by cases h)
  have HO : Hid (ownL layS CellT w1 (w.heap.size + 1) (.slice (some ⟨w.heap.size + 1, 0, none⟩) n n) (List.replicate n sl0)) := by
    unfold Hid ownL
    rw [List.length_replicate]
    show w1.ownsRow _ _ _ _ n ((List.replicate n layS.d).flatMap layS.cs)
    rw [← made_flat layS (slot sl0) rfl]; exact hown
  clear hown hgrow hB bx
  go_wp2
  refine bodyPost_ret (v := tab (.slice (some ⟨w.heap.size + 1, 0, none⟩) n n)) (by simp [results, Try.results78, go_sem, c0]) rfl ⟨_, rfl, ?_, ?_⟩
  · exact own_mono (ownsRow_setCell_below HO.out (by simp) _) (by omega)
  · exact HB.out.setCell (p := ⟨w.heap.size, 0, none⟩) (Nat.le_refl _) _

set_option maxHeartbeats 800000 in
theorem slotOf_any (s : Sl) (w : World) :
    Calls Try.prog 64 #[slot s] w fun e w' => e = .returned (slot s) ∧ Below w.heap.size w w' := by
  have hB : Below w.heap.size w w := Below.refl _ _
  go_enter Try.func64, Try.ntmps64
  go_wp2
  refine bodyPost_ret (v := slot s) (by simp [results, Try.results64, go_sem]) rfl ⟨rfl, ?_⟩
  (repeat (first | with_reducible exact hB | with_reducible exact Below.refl _ _ | with_reducible refine Below.drew ?_ | with_reducible refine below_drewN ?_ _ | with_reducible refine Below.alloc ?_ ?_ _ | with_reducible refine Below.setCell ?_ ?_ _ | (focus (simp; done)) | (focus (simp; omega)) | omega))

end Go.Proofs.Ytiijecnhbioehaa
