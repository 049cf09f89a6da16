/- The program's flows, CountOf. -/
import Derived.Test.YtiijecnhbioehaaSTabI2
import Derived.Test.YtiijecnhbioehaaFlowL
namespace Go.Proofs.Ytiijecnhbioehaa
open Go.ChangeShapes Go.WideShapes Go.ChangeAt Go.RowKit Go.Joins
set_option linter.unusedVariables false
set_option linter.unusedSimpArgs false

/-- The flows of the first k that are used. -/
def flowsTo (l : List Sl) (k : Nat) : List (Int × Int) := ((l.take k).filter (fun s => s.u)).map (fun s => (s.a, s.p))
theorem flowsTo_len (l : List Sl) (k : Nat) : (flowsTo l k).length = countTo l k := by unfold flowsTo countTo; rw [List.length_map]
theorem flowsTo_free {l : List Sl} {k : Nat} (h : k < l.length) (hu : (l.getD k sl0).u = false) : flowsTo l (k + 1) = flowsTo l k := by
  unfold flowsTo
  rw [takeL_succ layS l k h, List.filter_append, show List.filter (fun s : Sl => s.u) [l.getD k layS.d] = [] from List.filter_cons_of_neg (by rw [show l.getD k layS.d = l.getD k sl0 from rfl, hu]; decide), List.append_nil]
theorem flowsTo_used {l : List Sl} {k : Nat} (h : k < l.length) (hu : (l.getD k sl0).u = true) : flowsTo l (k + 1) = flowsTo l k ++ [((l.getD k sl0).a, (l.getD k sl0).p)] := by
  unfold flowsTo
  rw [takeL_succ layS l k h, List.filter_append, show List.filter (fun s : Sl => s.u) [l.getD k layS.d] = [l.getD k sl0] from List.filter_cons_of_pos hu, List.map_append]; rfl

set_option maxHeartbeats 4000000 in
theorem flows_any (b off c : Nat) (l : List Sl) (w : World) (hbl : b < w.heap.size) (hc : ∀ i, i < l.length → ∀ j, j < layS.k → w.cell? ⟨b, off + i * layS.k + j, none⟩ = (layS.cs (l.getD i layS.d))[j]?) (hl : l.length ≤ 1048576) :
    Calls Try.prog 66 #[tab (.slice (some ⟨b, off, none⟩) l.length c)] w fun e w' => ∃ v, e = .returned v ∧ ownL layF 27 w' w.heap.size v (flowsTo l l.length) ∧ Below w.heap.size w w' := by
  have HC := hide hc
  clear hc
  obtain ⟨W0, hW0⟩ : ∃ W, (w.alloc (.cells #[.slice (some ⟨b, off, none⟩) l.length c] 78)) = W := ⟨_, rfl⟩
  have hb_W0 : Below w.heap.size w W0 := by rw [← hW0]; exact ((Below.refl _ _).alloc (Nat.le_refl _) _)
  have HB := hide hb_W0
  clear hb_W0
  have zct : w.heap.size < W0.heap.size := by rw [← hW0]; simp
  have ct0 : W0.cell? ⟨w.heap.size, 0, none⟩ = some (.slice (some ⟨b, off, none⟩) l.length c) := by rw [← hW0]; simp [go_sem]
  have HZ := hide HB.out.size
  go_enter Try.func66, Try.ntmps66
  go_wp2
  go_loopw [3, 9] (fun ov iv wr => ∃ k : Nat, k ≤ l.length ∧ iv = .int .i64 k ∧ Hid (ownL layF 27 wr W0.heap.size ov (flowsTo l k)) ∧ Hid (Below W0.heap.size W0 wr))
    (fun _ iv _ => l.length - (intOf iv).toNat)
  case atStart => exact ⟨0, Nat.zero_le _, rfl, World.ownsRow_nil _ _ _ _, Below.refl _ _⟩
  case round =>
    obtain ⟨k, hk, rfl, HO, HBr⟩ := hrel
    by_cases hlt : k < l.length
    · have HB2 := hide (HB.out.trans (HBr.out.mono HB.out.size))
      have hcx := RdL.slot (C := w.heap.size) HC.out k hlt
      obtain ⟨s, hxy⟩ : ∃ s, l.getD k sl0 = s := ⟨_, rfl⟩
      rw [hxy] at hcx
      have e0 := (HB2.out.cell (p := ⟨b, off + k * 5, none⟩) hbl).trans hcx.1
      have e1 := (HB2.out.cell (p := ⟨b, off + k * 5 + 1, none⟩) hbl).trans hcx.2.1
      have e2 := (HB2.out.cell (p := ⟨b, off + k * 5 + 2, none⟩) hbl).trans hcx.2.2.1
      have e3 := (HB2.out.cell (p := ⟨b, off + k * 5 + 3, none⟩) hbl).trans hcx.2.2.2.1
      have e4 := (HB2.out.cell (p := ⟨b, off + k * 5 + 4, none⟩) hbl).trans hcx.2.2.2.2
      have hk' : (k : Int) < (l.length : Int) := by omega
      have HX := hide hxy
      have hcl := countTo_le l k
      rw [← flowsTo_len] at hcl
      obtain ⟨su, sa, sp, sv, st⟩ := s
      simp only at e0 e1 e2 e3 e4
      clear hcx hxy
      have HBa := hide (HBr.out.alloc HBr.out.size (.cells #[.bool su, .int .i64 sa, .int .i64 sp, .int .i64 sv, .int .i64 st] 87))
      have HOa := hide (World.ownsRow.alloc HO.out (.cells #[.bool su, .int .i64 sa, .int .i64 sp, .int .i64 sv, .int .i64 st] 87))
      cases su with
      | false =>
        have HN := hide (flowsTo_free hlt (by rw [HX.out]))
        go_wp2
        go_roundw
        case rel => exact ⟨k + 1, hlt, by go_num, (by unfold Hid; rw [HN.out]; exact HOa.out), HBa⟩
        case measure => simp [intOf]; omega
      | true =>
        have HN := hide (flowsTo_used hlt (by rw [HX.out]))
        rw [HX.out] at HN
        obtain ⟨W1, hW1⟩ : ∃ W, wr.alloc (.cells #[.bool true, .int .i64 sa, .int .i64 sp, .int .i64 sv, .int .i64 st] 87) = W := ⟨_, rfl⟩
        rw [hW1] at HBa HOa
        have g0 : W1.cell? ⟨wr.heap.size, 0, none⟩ = some (.bool true) := by rw [← hW1]; simp [go_sem]
        have g1 : W1.cell? ⟨wr.heap.size, 1, none⟩ = some (.int .i64 sa) := by rw [← hW1]; simp [go_sem]
        have g2 : W1.cell? ⟨wr.heap.size, 2, none⟩ = some (.int .i64 sp) := by rw [← hW1]; simp [go_sem]
        have F := hide (World.ownsRow.alloc HOa.out (.cells #[.int .i64 sa, .int .i64 sp] 27))
        clear HO HBr
        go_wp2_with (at_builtin; refine wpList_append_lay appF rfl _ _ rfl W0.heap.size _ (flowsTo l k) rfl F.out (some ⟨W1.heap.size, 0, none⟩) 1 _ [(sa, sp)] 1 rfl rfl (fun h => by cases h) (rd_flow1 W1 sa sp) ?e2 ?e3 ?_)
        case e2 => omega
        case e3 => exact Nat.le_trans HBa.out.size (by simp)
        intro v2 w2 hv2 hg2 _
        have HR := hide (show ownL layF 27 w2 W0.heap.size v2 (flowsTo l (k + 1)) ∧ Below W0.heap.size W0 w2 from ⟨by rw [HN.out]; exact hv2, (HBa.out.alloc HBa.out.size _).grown hg2 (Nat.le_trans HBa.out.size (by simp)) (fun q h => (F.out.lt q h).1)⟩)
        clear hv2 hg2 F
        go_wp2
        go_roundw
        case rel => exact ⟨k + 1, hlt, by go_num, HR.out.1, HR.out.2⟩
        case measure => simp [intOf]; omega
    · have e : k = l.length := by omega
      subst e
      go_wp2
      go_ret
      exact ⟨_, rfl, own_mono HO.out HZ.out, HB.out.trans (HBr.out.mono HB.out.size)⟩

set_option maxHeartbeats 2000000 in
theorem implCountOf_any (o : Option Addr) (c : Nat) (l : List Sl) (w : World) (hR : RdS w.heap.size w o l) (hl : l.length ≤ 1048576) :
    Calls Try.prog 22 #[tab (.slice o l.length c)] w fun e w' => e = .returned (.int .i64 (countM l)) ∧ Below w.heap.size w w' := by
  obtain ⟨W0, hW0⟩ : ∃ W, (w.alloc (.cells #[.slice o l.length c] 25)) = W := ⟨_, rfl⟩
  have hb_W0 : Below w.heap.size w W0 := by rw [← hW0]; exact ((Below.refl _ _).alloc (Nat.le_refl _) _)
  have HB := hide hb_W0
  clear hb_W0
  have zct : w.heap.size < W0.heap.size := by rw [← hW0]; simp
  have ct0 : W0.cell? ⟨w.heap.size, 0, none⟩ = some (.slice o l.length c) := by rw [← hW0]; simp [go_sem]
  have hc := tableFrom_any o c l W0 ((hR.kept HB.out (Nat.le_refl _)).le HB.out.size) hl
  cases hT : tableOkB l with
  | false =>
    have HM := hide (show -1 = countM l by unfold countM; rw [hT]; rfl)
    rw [hT] at hc
    go_enter Try.func22, Try.ntmps22
    go_wp2_with fail
    refine (hc).mono ?_
    rintro e v1 ⟨o', n', c', rfl, hv, hb⟩
    replace ct0 : v1.cell? ⟨w.heap.size, 0, none⟩ = some (.slice o l.length c) := (hb.cell (p := ⟨w.heap.size, 0, none⟩) zct).trans ct0
    replace zct : w.heap.size < v1.heap.size := Nat.lt_of_lt_of_le zct hb.size
    replace HB := hide (HB.out.trans (hb.mono HB.out.size))
    clear hb
    clear hc hv hT
    go_wp2
    go_ret
    exact ⟨ret_int HM.out, HB.out.alloc HB.out.size _⟩
  | true =>
    have HM := hide (show ((countL l : Nat) : Int) = countM l by unfold countM; rw [hT]; rfl)
    rw [hT] at hc
    go_enter Try.func22, Try.ntmps22
    go_wp2_with fail
    refine (hc).mono ?_
    rintro e v1 ⟨o', n', c', rfl, hv, hb⟩
    obtain ⟨g, rfl, rfl, rfl, hown⟩ := hv (by simp)
    have HO := hide hown
    clear hown hv
    replace ct0 : v1.cell? ⟨w.heap.size, 0, none⟩ = some (.slice o l.length c) := (hb.cell (p := ⟨w.heap.size, 0, none⟩) zct).trans ct0
    replace zct : w.heap.size < v1.heap.size := Nat.lt_of_lt_of_le zct hb.size
    replace HB := hide (HB.out.trans (hb.mono HB.out.size))
    clear hb
    obtain ⟨W2, hW2⟩ : ∃ W, (v1.alloc (.cells #[.slice (some ⟨g, 0, none⟩) l.length l.length] 78)) = W := ⟨_, rfl⟩
    have hb_W2 : Below v1.heap.size v1 W2 := by rw [← hW2]; exact ((Below.refl _ _).alloc (Nat.le_refl _) _)
    replace ct0 : W2.cell? ⟨w.heap.size, 0, none⟩ = some (.slice o l.length c) := (hb_W2.cell (p := ⟨w.heap.size, 0, none⟩) zct).trans ct0
    replace zct : w.heap.size < W2.heap.size := Nat.lt_of_lt_of_le zct hb_W2.size
    replace HO := hide (own_kept HO.out hb_W2)
    replace HB := hide (HB.out.trans (hb_W2.mono HB.out.size))
    clear hb_W2
    have zck : v1.heap.size < W2.heap.size := by rw [← hW2]; simp
    have ck0 : W2.cell? ⟨v1.heap.size, 0, none⟩ = some (.slice (some ⟨g, 0, none⟩) l.length l.length) := by rw [← hW2]; simp [go_sem]
    go_wp2_with fail
    refine (flows_any g 0 l.length l W2 (HO.out.lt g rfl).2 (rd_of_own HO.out rfl) hl).mono ?_
    rintro e v2 ⟨fv, rfl, hfv, hb⟩
    obtain ⟨fo, fc, rfl, _⟩ := ownL.open (L := layF) hfv
    have HE := hide (flowsTo_len l l.length)
    clear hfv
    replace ct0 : v2.cell? ⟨w.heap.size, 0, none⟩ = some (.slice o l.length c) := (hb.cell (p := ⟨w.heap.size, 0, none⟩) zct).trans ct0
    replace zct : w.heap.size < v2.heap.size := Nat.lt_of_lt_of_le zct hb.size
    replace ck0 : v2.cell? ⟨v1.heap.size, 0, none⟩ = some (.slice (some ⟨g, 0, none⟩) l.length l.length) := (hb.cell (p := ⟨v1.heap.size, 0, none⟩) zck).trans ck0
    replace zck : v1.heap.size < v2.heap.size := Nat.lt_of_lt_of_le zck hb.size
    replace HO := hide (own_kept HO.out hb)
    replace HB := hide (HB.out.trans (hb.mono HB.out.size))
    clear hb
    clear hc hT
    go_wp2
    go_ret
    exact ⟨ret_int ((congrArg Nat.cast HE.out).trans HM.out), HB.out⟩

theorem specCountOf_sh (v : Value) (m : List Sl) (w : World) (hR : RdT w.heap.size w v m) (hc : capT v) (hf : m.length ≤ 1048576) :
    Calls Try.prog 50 #[v] w fun e w' => e = .returned (.int .i64 (countM m)) ∧ Below w.heap.size w w' := by
  obtain ⟨vl, rfl, o, c, rfl, r⟩ := hR
  exact specCountOf_any o c m w r hf
theorem implCountOf_sh (v : Value) (m : List Sl) (w : World) (hR : RdT w.heap.size w v m) (hc : capT v) (hf : m.length ≤ 1048576) :
    Calls Try.prog 22 #[v] w fun e w' => e = .returned (.int .i64 (countM m)) ∧ Below w.heap.size w w' := by
  obtain ⟨vl, rfl, o, c, rfl, r⟩ := hR
  exact implCountOf_any o c m w r hf

end Go.Proofs.Ytiijecnhbioehaa
