/- Several texts in one: SCan, SCan2, Candidates. -/
import Derived.Test.YtldjaapbkihibaaGrCutP
import Derived.Test.YtldjaapbkihibaaGrOpenP
import Derived.Deep.RegionHeld3
/- The candidates of a bucket; the model's side. -/
namespace Go.Proofs.Ytldjaapbkihibaa
open Go.ChangeShapes Go.WideShapes Go.ChangeAt Go.RowKit Go.Joins
set_option linter.unusedVariables false
set_option linter.unusedSimpArgs false


def addTo (out : List Int) (x : Int) : List Int := if out.contains x = true then out else out ++ [x]
def addAll (out l : List Int) : List Int := l.foldl addTo out
/-- Those of the tables' lists of bucket b, each once. -/
def candL (R : List (List (List Int))) (b : Nat) : List Int := R.foldl (fun out t => addAll out (t.getD b [])) []
def candM (m : Pm) (b : Int) : List Int := if (poolB m && decide (0 ≤ b) && decide (b < 8)) = true then candL m.ring b.toNat else []
theorem addTo_len (out : List Int) (x : Int) : (addTo out x).length ≤ out.length + 1 := by
  unfold addTo; split
  · omega
  · simp
theorem addAll_len (l out : List Int) : (addAll out l).length ≤ out.length + l.length := by
  unfold addAll
  induction l generalizing out with
  | nil => simp
  | cons a l ih => have h := ih (addTo out a); have h2 := addTo_len out a; simp only [List.foldl_cons, List.length_cons]; omega
theorem addAll_take (out l : List Int) (k : Nat) (h : k < l.length) : addAll out (l.take (k + 1)) = addTo (addAll out (l.take k)) (l.getD k 0) := by
  unfold addAll
  rw [List.take_succ_eq_append_getElem h, List.foldl_append, List.getD_eq_getElem?_getD, List.getElem?_eq_getElem h]
  rfl
theorem candL_take (R : List (List (List Int))) (b i : Nat) (h : i < R.length) : candL (R.take (i + 1)) b = addAll (candL (R.take i) b) ((R.getD i []).getD b []) := by
  unfold candL
  rw [List.take_succ_eq_append_getElem h, List.foldl_append, List.getD_eq_getElem?_getD (l := R), List.getElem?_eq_getElem h]
  rfl
theorem has_yes {l : List Int} {k : Nat} {x : Int} (h : k < l.length) (e : l.getD k 0 = x) : l.contains x = true := by
  rw [List.contains_iff_mem, ← e, List.getD_eq_getElem?_getD, List.getElem?_eq_getElem h]
  exact List.getElem_mem h
theorem has_no {l : List Int} {x : Int} (h : ∀ j, j < l.length → l.getD j 0 ≠ x) : l.contains x = false := by
  rw [Bool.eq_false_iff]
  intro hc
  rw [List.contains_iff_mem] at hc
  obtain ⟨j, hj, e⟩ := List.getElem_of_mem hc
  exact h j hj (by rw [List.getD_eq_getElem?_getD, List.getElem?_eq_getElem hj]; exact e)
theorem addTo_yes {out : List Int} {x : Int} (h : out.contains x = true) : addTo out x = out := by unfold addTo; rw [if_pos h]
theorem addTo_no {out : List Int} {x : Int} (h : out.contains x = false) : addTo out x = out ++ [x] := by unfold addTo; rw [if_neg (by rw [h]; decide)]
theorem no_more {l : List Int} {x : Int} {k : Nat} (h : ∀ j, j < k → l.getD j 0 ≠ x) (h2 : l.getD k 0 ≠ x) : ∀ j, j < k + 1 → l.getD j 0 ≠ x := fun j hj => by
  by_cases e : j = k
  · subst e; exact h2
  · exact h j (by omega)
theorem rd_oneI {w : World} {x : Int} {T : TypeId} : RdL layI (w.alloc (.cells #[.int .i64 x] T)).heap.size (w.alloc (.cells #[.int .i64 x] T)) (some ⟨w.heap.size, 0, none⟩) [x] :=
  .inr ⟨w.heap.size, 0, rfl, by simp, fun i hi j hj => by
    have e1 : i = 0 := by simpa using hi
    subst e1
    match j, hj with
    | 0, _ => simp [layI]⟩

set_option maxRecDepth 100000 in
theorem l4has_any (o : Option Addr) (c : Nat) (l : List Int) (x : Int) (w : World) (hR : RdI w.heap.size w o l) (hl : l.length ≤ 1048576) :
    Calls Try.prog 125 #[.slice o l.length c, .int .i64 x] w fun e w' => e = .returned (.bool (l.contains x)) ∧ w' = w := by
  go_enter Try.func125, Try.ntmps125
  go_wp2
  go_loopw [5] (fun i wr => ∃ k : Nat, k ≤ l.length ∧ i = .int .i64 k ∧ wr = w ∧ Hid (∀ j, j < k → l.getD j 0 ≠ x))
    (fun i _ => l.length - (intOf i).toNat)
  case atStart => exact ⟨0, Nat.zero_le _, rfl, rfl, fun j h => absurd h (Nat.not_lt_zero _)⟩
  case round =>
    obtain ⟨k, hk, rfl, rfl, HN⟩ := hrel
    by_cases hlt : k < l.length
    · rcases hR with hR | ⟨b, off, rfl, hb, hcell⟩
      · subst hR; simp at hlt
      have hc := RdL.int hcell k hlt
      clear hcell
      have i1 : (k : Int) < (l.length : Int) := by omega
      by_cases hx : l.getD k 0 = x
      · have HX := hide (has_yes hlt hx)
        rw [hx] at hc
        clear hx HN
        go_wp2
        go_ret
        exact ⟨by rw [HX.out]; rfl, rfl⟩
      · have HX := hide (no_more HN.out hx)
        obtain ⟨y, hy⟩ : ∃ y, l.getD k 0 = y := ⟨_, rfl⟩
        rw [hy] at hc hx
        clear hy HN
        go_wp2
        go_roundw
        case rel => exact ⟨k + 1, by omega, by go_num, by trivial, HX.out⟩
        case measure => simp [intOf]; omega
    · have e : k = l.length := by omega
      subst e
      have HX := hide (has_no HN.out)
      clear HN
      go_wp2
      go_ret
      exact ⟨by rw [HX.out]; rfl, rfl⟩

set_option maxRecDepth 100000 in
theorem index_any (o : Option Addr) (c : Nat) (l : List Int) (x : Int) (w : World) (hR : RdI w.heap.size w o l) (hl : l.length ≤ 1048576) :
    Calls Try.prog 114 #[.slice o l.length c, .int .i64 x] w fun e w' => ∃ r : Int, e = .returned (.int .i64 r) ∧ decide (0 ≤ r) = l.contains x ∧ w' = w := by
  go_enter Try.func114, Try.ntmps114
  go_wp2
  go_loopw [8] (fun i wr => ∃ k : Nat, k ≤ l.length ∧ i = .int .i64 k ∧ wr = w ∧ Hid (∀ j, j < k → l.getD j 0 ≠ x))
    (fun i _ => l.length - (intOf i).toNat)
  case atStart => exact ⟨0, Nat.zero_le _, rfl, rfl, fun j h => absurd h (Nat.not_lt_zero _)⟩
  case round =>
    obtain ⟨k, hk, rfl, rfl, HN⟩ := hrel
    by_cases hlt : k < l.length
    · rcases hR with hR | ⟨b, off, rfl, hb, hcell⟩
      · subst hR; simp at hlt
      have hc := RdL.int hcell k hlt
      clear hcell
      have i1 : (k : Int) < (l.length : Int) := by omega
      by_cases hx : l.getD k 0 = x
      · have HX := hide (has_yes hlt hx)
        rw [hx] at hc
        clear hx HN
        go_wp2
        go_ret
        exact ⟨(k : Int), rfl, by rw [HX.out]; simp, rfl⟩
      · have HX := hide (no_more HN.out hx)
        obtain ⟨y, hy⟩ : ∃ y, l.getD k 0 = y := ⟨_, rfl⟩
        rw [hy] at hc hx
        have hx' : ¬ x = y := fun e => hx e.symm
        clear hy HN
        go_wp2
        go_roundw
        case rel => exact ⟨k + 1, by omega, by go_num, by trivial, HX.out⟩
        case measure => simp [intOf]; omega
    · have e : k = l.length := by omega
      subst e
      have HX := hide (has_no HN.out)
      clear HN
      go_wp2
      go_ret
      exact ⟨-1, rfl, by rw [HX.out]; rfl, rfl⟩

set_option maxRecDepth 100000 in
theorem contains_any (o : Option Addr) (c : Nat) (l : List Int) (x : Int) (w : World) (hR : RdI w.heap.size w o l) (hl : l.length ≤ 1048576) :
    Calls Try.prog 65 #[.slice o l.length c, .int .i64 x] w fun e w' => e = .returned (.bool (l.contains x)) ∧ w' = w := by
  have HC := hide (index_any o c l x w hR hl)
  clear hR
  go_enter Try.func65, Try.ntmps65
  go_wp2_with fail
  refine HC.out.mono ?_
  rintro e w1 ⟨r, rfl, hr, rfl⟩
  have HR := hide hr
  clear hr HC
  go_wp2
  go_ret
  exact ⟨by rw [← HR.out]; rfl, rfl⟩

set_option maxRecDepth 100000 in
set_option maxHeartbeats 8000000 in
theorem l4candidates_go (key : Int) (o : Option Addr) (nb cap : Nat) (oR : Option Addr) (cR : Nat) (lll : List (List (List Int))) (n : Nat) (hnn : n = lll.length) (b : Nat) (hb8 : b < 8) (w : World) (hG : RiR 0 w.heap.size w (.slice oR n cR) lll) (hn3 : n ≤ 3) (h8 : ∀ i, i < lll.length → (lll.getD i []).length = 8) (h2 : ∀ i, i < lll.length → ((lll.getD i []).getD b []).length ≤ 2) :
    Calls Try.prog 95 #[plv key (.slice o nb cap) (.slice oR n cR), .int .i64 (b : Int)] w fun e w' => ∃ v, e = .returned v ∧ ownI w' w.heap.size v (candL lll b) ∧ Below w.heap.size w w' := by
  have HNN := hide hnn
  have HG := hide hG
  have H8 := hide h8
  have H2 := hide h2
  clear hnn hG h8 h2
  have hb8' : (b : Int) < 8 := by omega
  obtain ⟨W0, hW0⟩ : ∃ W, (w.alloc (.cells #[.int .i64 key, .slice o nb cap, .slice oR n cR] 26)) = W := ⟨_, rfl⟩
  have hb_W0 : Below w.heap.size w W0 := by rw [← hW0]; exact (Below.refl _ _).alloc (Nat.le_refl _) _
  have HB := hide hb_W0
  clear hb_W0
  have zz : w.heap.size < W0.heap.size := by rw [← hW0]; simp
  have z2 : W0.cell? ⟨w.heap.size, 2, none⟩ = some (.slice oR n cR) := by rw [← hW0]; simp [go_sem]
  go_enter Try.func95, Try.ntmps95
  go_wp2
  go_loopw [5, 6] (fun ov iv wr => ∃ i : Nat, i ≤ n ∧ iv = .int .i64 (i : Int) ∧ Hid (ownI wr W0.heap.size ov (candL (lll.take i) b)) ∧ (candL (lll.take i) b).length ≤ 2 * i ∧ Hid (Below W0.heap.size W0 wr))
    (fun _ iv _ => n - (intOf iv).toNat)
  case atStart => exact ⟨0, Nat.zero_le _, rfl, World.ownsRow_nil _ _ _ _, by simp [candL], Below.refl _ _⟩
  case round =>
    rename World => wr
    rename_i ov _
    obtain ⟨i, hi', rfl, HO, hL, HBr⟩ := hrel
    have z2' := bC HBr.out z2 zz
    have HBW := hide (HB.out.trans (HBr.out.mono HB.out.size))
    by_cases hlt : i < n
    · have hlt' : (i : Int) < (n : Int) := by omega
      have hif : i < lll.length := by rw [← HNN.out]; exact hlt
      obtain ⟨b1, off, u, rfl, hbl, hcu, hru⟩ := RiRows.at HG.out (Nat.le_refl _) i hif
      obtain ⟨o3, c3, rfl, _⟩ := RiT.rd hru
      obtain ⟨b2, off2, u2, e2, hbl2, hcu2, hrow⟩ := RiRows.at hru (Nat.le_refl _) b (by rw [H8.out i hif]; exact hb8)
      subst e2
      obtain ⟨o9, c9, rfl, hr9⟩ := RiV.open hrow
      rw [H8.out i hif] at hcu
      have hc1 := bC HBW.out hcu hbl
      have hc2 := bC HBW.out hcu2 hbl2
      have HR9 := hide hr9
      have hy9 := H2.out i hif
      have HTK := hide (candL_take lll b i hif)
      clear hcu hcu2 hrow hr9 hru
      obtain ⟨row, hrw⟩ : ∃ row, (lll.getD i []).getD b [] = row := ⟨_, rfl⟩
      rw [hrw] at hc2 HR9 hy9 HTK
      clear hrw
      obtain ⟨bas, hbs⟩ : ∃ q, candL (lll.take i) b = q := ⟨_, rfl⟩
      rw [hbs] at HO hL HTK
      clear hbs
      obtain ⟨m, hm⟩ : ∃ r, row.length = r := ⟨_, rfl⟩
      rw [hm] at hc2 hy9
      have HM := hide hm
      clear hm
      go_wp2
      go_loopw [5, 8] (fun ov kv wq => ∃ k : Nat, k ≤ m ∧ kv = .int .i64 (k : Int) ∧ Hid (ownI wq W0.heap.size ov (addAll bas (row.take k))) ∧ (addAll bas (row.take k)).length ≤ 2 * i + k ∧ Hid (Below W0.heap.size W0 wq))
        (fun _ kv _ => m - (intOf kv).toNat)
      case atStart => exact ⟨0, Nat.zero_le _, rfl, HO.out, by simpa [addAll] using hL, HBr.out⟩
      case round =>
        rename World => wq
        rename_i ov2 _
        obtain ⟨k, hk', rfl, HO2, hL2, HBq⟩ := hrel
        clear HO HBr z2' HBW hc1 hc2
        have HBW := hide (HB.out.trans (HBq.out.mono HB.out.size))
        by_cases hlk : k < m
        · have hlk' : (k : Int) < (m : Int) := by omega
          have hkr : k < row.length := by rw [HM.out]; exact hlk
          rcases HR9.out with hh | ⟨b3, off3, rfl, hb3, hcell⟩
          · rw [hh] at hkr; exact absurd hkr (Nat.not_lt_zero _)
          have hc3 := bC HBW.out (RdL.int hcell k hkr) hb3
          have HTK2 := hide (addAll_take bas row k hkr)
          clear hcell
          obtain ⟨y, hy⟩ : ∃ y, row.getD k 0 = y := ⟨_, rfl⟩
          rw [hy] at hc3 HTK2
          clear hy
          obtain ⟨cur, hcu⟩ : ∃ q, addAll bas (row.take k) = q := ⟨_, rfl⟩
          rw [hcu] at HO2 hL2 HTK2
          clear hcu
          obtain ⟨oo, co, e5, hrd⟩ := ownL.open (L := layI) HO2.out
          subst e5
          have HH := hide (l4has_any oo co cur y wq hrd (by omega))
          clear hrd
          go_wp2_with fail
          refine HH.out.mono ?_
          rintro e w4 ⟨rfl, rfl⟩
          clear HH
          cases hh : cur.contains y with
          | true =>
            have HY := hide (addTo_yes hh)
            go_wp2
            go_roundw
            case rel => exact ⟨k + 1, by omega, by go_num, by rw [HTK2.out, HY.out]; exact HO2.out, by rw [HTK2.out, HY.out]; omega, HBq.out⟩
            case measure => simp [intOf]; omega
          | false =>
            have HY := hide (addTo_no hh)
            have hsq := HBq.out.size
            have HA := hide (World.ownsRow.alloc HO2.out (.cells #[.int .i64 y] 3))
            have hc4 : (w4.alloc (.cells #[.int .i64 y] 3)).cell? ⟨b3, off3 + k, none⟩ = some (.int .i64 y) := bC ((Below.refl _ _).alloc (Nat.le_refl _) _) hc3 (by omega)
            go_wp2_with (first | (at_builtin; refine wpList_append_lay appII rfl (.tmp 37) (.tmp 42) rfl W0.heap.size _ cur rfl HA.out (some ⟨w4.heap.size, 0, none⟩) 1 _ [y] 1 rfl rfl (by simp) rd_oneI (by simp; omega) (by simp; omega) ?_))
            intro v5 w5 ho5 hg5 _
            have HB5 := hide ((HBq.out.alloc HBq.out.size _).grown hg5 (by simp; omega) (fun k h => (HA.out.lt k h).1))
            have HO5 := hide ho5
            clear hg5 ho5
            go_wp2
            go_roundw
            case rel => exact ⟨k + 1, by omega, by go_num, by rw [HTK2.out, HY.out]; exact HO5.out, by rw [HTK2.out, HY.out, List.length_append]; simp; omega, HB5.out⟩
            case measure => simp [intOf]; omega
        · have e : k = m := by omega
          subst e
          rw [← HM.out, List.take_length, ← HTK.out] at HO2 hL2
          go_wp2
          go_roundw
          case rel => exact ⟨i + 1, by omega, by go_num, HO2.out, by rw [HM.out] at hL2; omega, HBq.out⟩
          case measure => simp [intOf]; omega
    · have e : i = n := by omega
      subst e
      rw [HNN.out, List.take_length] at HO
      go_wp2
      go_ret
      exact ⟨_, rfl, own_mono HO.out HB.out.size, HBW.out⟩
theorem pair_row {ll : List (List Int)} (h : tabOkB ll = true) : ll.length = 8 ∧ ∀ b, b < 8 → pairOkB (ll.getD b []) = true := by
  unfold tabOkB at h
  simp only [Bool.and_eq_true, decide_eq_true_eq, List.all_eq_true, List.mem_range] at h
  exact ⟨h.1, h.2⟩

set_option maxRecDepth 100000 in
set_option maxHeartbeats 2000000 in
theorem specCandidates_sh (v : Value) (m : Pm) (q : Int) (w : World) (hR : RdPm w.heap.size w v m) (hf : fitPm m) :
    Calls Try.prog 43 #[v, .int .i64 q] w fun e w' => ∃ v', e = .returned v' ∧ ownI w' w.heap.size v' (candM m q) ∧ Below w.heap.size w w' := by
  have HR := hide hR
  obtain ⟨vb, vr, rfl, hvb, rr⟩ := hR
  obtain ⟨o, c, rfl, r⟩ := hvb.open
  obtain ⟨oR, cR, rfl⟩ := RiR.len rr
  have HRR := hide rr
  clear hvb r rr
  obtain ⟨W0, hW0⟩ : ∃ W, (w.alloc (.cells #[.int .i64 m.key, .slice o m.l.length c, .slice oR m.ring.length cR] 26)) = W := ⟨_, rfl⟩
  have hb_W0 : Below w.heap.size w W0 := by rw [← hW0]; exact (Below.refl _ _).alloc (Nat.le_refl _) _
  have HB := hide hb_W0
  clear hb_W0
  have zz : w.heap.size < W0.heap.size := by rw [← hW0]; simp
  have z0 : W0.cell? ⟨w.heap.size, 0, none⟩ = some (.int .i64 m.key) := by rw [← hW0]; simp [go_sem]
  have z1 : W0.cell? ⟨w.heap.size, 1, none⟩ = some (.slice o m.l.length c) := by rw [← hW0]; simp [go_sem]
  have z2 : W0.cell? ⟨w.heap.size, 2, none⟩ = some (.slice oR m.ring.length cR) := by rw [← hW0]; simp [go_sem]
  have HPO := hide (specPoolOk_sh _ m W0 ((HR.out.kept HB.out (Nat.le_refl _)).le HB.out.size) hf)
  have HCM := hide (show candM m q = if (poolB m && decide (0 ≤ q) && decide (q < 8)) = true then candL m.ring q.toNat else [] from rfl)
  go_enter Try.func43, Try.ntmps43
  go_wp2_with fail
  refine HPO.out.mono ?_
  rintro e w1 ⟨rfl, hb⟩
  replace z0 := bC hb z0 zz
  replace z1 := bC hb z1 zz
  replace z2 := bC hb z2 zz
  replace zz := Nat.lt_of_lt_of_le zz hb.size
  replace HB := hide (HB.out.trans (hb.mono HB.out.size))
  clear hb HPO
  cases hp : poolB m with
  | false =>
    rw [hp] at HCM
    go_wp2
    go_ret
    exact ⟨_, rfl, by rw [HCM.out]; exact World.ownsRow_nil _ _ _ _, HB.out⟩
  | true =>
    rw [hp] at HCM
    have HF := hide (pool_facts hp)
    clear hp
    by_cases h0 : q < 0
    · go_wp2
      go_ret
      exact ⟨_, rfl, by rw [HCM.out, if_neg (by simp; omega)]; exact World.ownsRow_nil _ _ _ _, HB.out⟩
    by_cases h8 : 8 ≤ q
    · go_wp2
      go_ret
      exact ⟨_, rfl, by rw [HCM.out, if_neg (by simp; omega)]; exact World.ownsRow_nil _ _ _ _, HB.out⟩
    · obtain ⟨b, rfl⟩ : ∃ b : Nat, q = (b : Int) := ⟨q.toNat, by omega⟩
      have hb8 : b < 8 := by omega
      have HLC := hide (l4candidates_go m.key o m.l.length c oR cR m.ring m.ring.length rfl b hb8 w1 (RiR.mon.go (RiR.stp.go HRR.out (Stp.of (lo := 0) (hi := 0) HB.out) (.inl (Nat.zero_le _))) (Nat.le_refl _) HB.out.size) HF.out.2.2.2.1 (fun i hi => (pair_row (HF.out.2.2.2.2 i hi)).1) (fun i hi => pair_len ((pair_row (HF.out.2.2.2.2 i hi)).2 b hb8)))
      go_wp2_with fail
      refine HLC.out.mono ?_
      rintro e w2 ⟨v2, rfl, ow2, hb2⟩
      clear HLC
      go_wp2
      go_ret
      exact ⟨_, rfl, by rw [HCM.out, if_pos (by simp; omega)]; exact own_mono ow2 HB.out.size, HB.out.trans (hb2.mono HB.out.size)⟩

end Go.Proofs.Ytldjaapbkihibaa

/- The candidates of a bucket; the program's side. -/
namespace Go.Proofs.Ytldjaapbkihibaa
open Go.ChangeShapes Go.WideShapes Go.ChangeAt Go.RowKit Go.Joins
set_option linter.unusedVariables false
set_option linter.unusedSimpArgs false


theorem RiV.grow {α : Type} {L : Lay α} {a b : Nat} {w w' : World} {v : Value} {l : List α} {r : Option Nat} (h : RiV L a b w v l) (hg : w.grownBy w' r) (ho : ∀ g, r = some g → g < a ∨ b ≤ g) : RiV L a b w' v l := by
  cases r with
  | none => exact h.step (Stp.grown (lo := 0) (hi := 0) hg (fun b e => by cases e)) (.inl (Nat.zero_le _))
  | some g => exact h.step (Stp.grown (lo := g) (hi := g + 1) hg (fun b e => by injection e with e; omega)) (by have := ho g rfl; omega)
theorem pt_cells (f : Pt) (b : Nat) (h : b < 8) : (ptA f)[b * 3]? = some (.bool (f b).1) ∧ (ptA f)[b * 3 + 1]? = some (.int .i64 (f b).2.1) ∧ (ptA f)[b * 3 + 2]? = some (.int .i64 (f b).2.2) := by
  have h1 : ∀ j, j < 3 → (ptA f)[b * 3 + j]? = (layP.cs (((List.range 8).map f).getD b layP.d))[j]? := fun j hj => by
    have := flat_get layP ((List.range 8).map f) b j (by simpa using h) hj
    rw [show layP.k = 3 from rfl] at this
    unfold ptA ptL
    rw [List.getElem?_toArray]
    exact this
  have e : ((List.range 8).map f).getD b layP.d = f b := by simp [h]
  rw [e] at h1
  exact ⟨h1 0 (by decide), h1 1 (by decide), h1 2 (by decide)⟩
theorem map_tab (R : List (List (List Int))) (i : Nat) (h : i < R.length) : (R.map tabF).getD i ptZ = tabF (R.getD i []) := by simp [h]

set_option maxRecDepth 100000 in
set_option maxHeartbeats 8000000 in
theorem implCandidates_sh (v : Value) (m : Pm) (q : Int) (w : World) (hR : RdPm w.heap.size w v m) (hf : fitPm m) :
    Calls Try.prog 19 #[v, .int .i64 q] w fun e w' => ∃ v', e = .returned v' ∧ ownI w' w.heap.size v' (candM m q) ∧ Below w.heap.size w w' := by
  have HCM := hide (show candM m q = if (poolB m && decide (0 ≤ q) && decide (q < 8)) = true then candL m.ring q.toNat else [] from rfl)
  have HFA := hide (fun h : poolB m = true => pool_facts h)
  obtain ⟨vb, vr, rfl, hvb, rr⟩ := hR
  obtain ⟨o, c, rfl, r⟩ := hvb.open
  obtain ⟨oR, cR, rfl⟩ := RiR.len rr
  obtain ⟨key, l, lll⟩ := m
  dsimp only at *
  clear hvb
  obtain ⟨W0, hW0⟩ : ∃ W, (w.alloc (.cells #[.int .i64 key, .slice o l.length c, .slice oR lll.length cR] 26)) = W := ⟨_, rfl⟩
  have hb_W0 : Below w.heap.size w W0 := by rw [← hW0]; exact (Below.refl _ _).alloc (Nat.le_refl _) _
  have HB := hide hb_W0
  clear hb_W0
  have zz : w.heap.size < W0.heap.size := by rw [← hW0]; simp
  have z0 : W0.cell? ⟨w.heap.size, 0, none⟩ = some (.int .i64 key) := by rw [← hW0]; simp [go_sem]
  have z1 : W0.cell? ⟨w.heap.size, 1, none⟩ = some (.slice o l.length c) := by rw [← hW0]; simp [go_sem]
  have z2 : W0.cell? ⟨w.heap.size, 2, none⟩ = some (.slice oR lll.length cR) := by rw [← hW0]; simp [go_sem]
  have HPF := hide (poolFrom_go key o c l oR cR lll lll.length rfl W0 ((r.kept HB.out (Nat.le_refl _)).le HB.out.size) (RiR.mon.go (RiR.stp.go rr (Stp.of (lo := 0) (hi := 0) HB.out) (.inl (Nat.zero_le _))) (Nat.le_refl _) HB.out.size) hf)
  have HBU := hide (fun W => isBucket_any q W)
  clear r rr
  go_enter Try.func19, Try.ntmps19
  go_wp2_with fail
  refine HPF.out.mono ?_
  rintro e v1 ⟨vP, rfl, h1, h2, hb⟩
  have HB1 := hide (HB.out.trans (hb.mono HB.out.size))
  clear hb HPF HB z0 z1 z2 zz
  cases hp : poolB ⟨key, l, lll⟩ with
  | false =>
    rw [hp] at HCM
    have e2 := h2 hp
    subst e2
    clear h1 h2
    go_wp2
    go_ret
    exact ⟨_, rfl, by rw [HCM.out]; exact World.ownsRow_nil _ _ _ _, HB1.out.alloc HB1.out.size _⟩
  | true =>
    rw [hp] at HCM
    obtain ⟨o2, c2, e2, hown⟩ := h1 hp
    have HF := hide (HFA.out hp)
    subst e2
    have HOT := hide (ownL.rds (L := layT) hown)
    clear h1 h2 HFA hown hp
    by_cases h0 : q < 0
    · have eb : (decide (0 ≤ q) && decide (q < 8)) = false := by simp; omega
      rw [eb] at HBU
      clear eb
      go_wp2_with (first | (go_at_call 63; refine (HBU.out _).mono ?_; rintro e w1 ⟨rfl, rfl⟩))
      go_ret
      exact ⟨_, rfl, by rw [HCM.out, if_neg (by simp; omega)]; exact World.ownsRow_nil _ _ _ _, HB1.out.alloc HB1.out.size _⟩
    by_cases h8 : 8 ≤ q
    · have eb : (decide (0 ≤ q) && decide (q < 8)) = false := by simp; omega
      rw [eb] at HBU
      clear eb
      go_wp2_with (first | (go_at_call 63; refine (HBU.out _).mono ?_; rintro e w1 ⟨rfl, rfl⟩))
      go_ret
      exact ⟨_, rfl, by rw [HCM.out, if_neg (by simp; omega)]; exact World.ownsRow_nil _ _ _ _, HB1.out.alloc HB1.out.size _⟩
    obtain ⟨b, rfl⟩ : ∃ b : Nat, q = (b : Int) := ⟨q.toNat, by omega⟩
    have hb8 : b < 8 := by omega
    have hb8' : (b : Int) < 8 := by omega
    have eb : (decide (0 ≤ (b : Int)) && decide ((b : Int) < 8)) = true := by simp; omega
    rw [eb] at HBU
    have HCM2 := hide (show candM ⟨key, l, lll⟩ (b : Int) = candL lll b by rw [HCM.out, if_pos (by simp; omega)]; simp)
    clear eb HCM h0 h8
    obtain ⟨n, hn⟩ : ∃ n, lll.length = n := ⟨_, rfl⟩
    rw [hn]
    have HNN := hide hn
    have hn3 : n ≤ 3 := by rw [← hn]; exact HF.out.2.2.2.1
    clear hn
    obtain ⟨W1, hW1⟩ : ∃ W, v1.alloc (.cells #[.int .i64 key, .slice o l.length c, .slice o2 n c2] 92) = W := ⟨_, rfl⟩
    have hb1 : Below v1.heap.size v1 W1 := by rw [← hW1]; exact (Below.refl _ _).alloc (Nat.le_refl _) _
    have zz : v1.heap.size < W1.heap.size := by rw [← hW1]; simp
    have z2 : W1.cell? ⟨v1.heap.size, 2, none⟩ = some (.slice o2 n c2) := by rw [← hW1]; simp [go_sem]
    have HB2 := hide (HB1.out.trans (hb1.mono HB1.out.size))
    have HV := hide hb1
    clear hb1
    go_wp2_with (first | (go_at_call 63; refine (HBU.out _).mono ?_; rintro e w1 ⟨rfl, rfl⟩))
    go_loopw [7, 27] (fun ov iv wr => ∃ i : Nat, i ≤ n ∧ iv = .int .i64 (i : Int) ∧ Hid (ownI wr W1.heap.size ov (candL (lll.take i) b)) ∧ (candL (lll.take i) b).length ≤ 2 * i ∧ Hid (Below W1.heap.size W1 wr))
      (fun _ iv _ => n - (intOf iv).toNat)
    case atStart => exact ⟨0, Nat.zero_le _, rfl, World.ownsRow_nil _ _ _ _, by simp [candL], Below.refl _ _⟩
    case round =>
      rename World => wr
      rename_i ov _
      obtain ⟨i, hi', rfl, HO, hL, HBr⟩ := hrel
      by_cases hlt : i < n
      · have hlt' : (i : Int) < (n : Int) := by omega
        have hif : i < lll.length := by rw [HNN.out]; exact hlt
        have HRD := hide (HOT.out.kept (HV.out.trans (HBr.out.mono HV.out.size)) (Nat.le_refl _))
        rcases HRD.out with hh | ⟨b1, off, rfl, hbl, hrow⟩
        · have : (lll.map tabF).length = 0 := by rw [hh]; rfl
          rw [List.length_map] at this; omega
        have HRG := hide (RdL.range hrow i (by rw [List.length_map]; exact hif))
        have HTK := hide (candL_take lll b i hif)
        have hrow2 := (pair_row (HF.out.2.2.2.2 i hif)).2 b hb8
        clear hrow HRD
        rw [map_tab lll i hif] at HRG
        obtain ⟨f, hf'⟩ : ∃ f, tabF (lll.getD i []) = f := ⟨_, rfl⟩
        rw [hf'] at HRG
        have HIP := hide (show ipList (f b) = (lll.getD i []).getD b [] by rw [← hf']; exact ipList_of hrow2)
        have hy9 := pair_len hrow2
        clear hf' hrow2
        obtain ⟨row, hrw⟩ : ∃ row, (lll.getD i []).getD b [] = row := ⟨_, rfl⟩
        rw [hrw] at HIP hy9 HTK
        clear hrw
        obtain ⟨bas, hbs⟩ : ∃ q, candL (lll.take i) b = q := ⟨_, rfl⟩
        rw [hbs] at HO hL HTK
        clear hbs
        obtain ⟨W2, hW2⟩ : ∃ W, wr.alloc (.cells (ptA f) 108) = W := ⟨_, rfl⟩
        have hb2 : Below wr.heap.size wr W2 := by rw [← hW2]; exact (Below.refl _ _).alloc (Nat.le_refl _) _
        have hz5 : W2.heap[wr.heap.size]? = some (.cells (ptA f) 108 (0, 0)) := by rw [← hW2]; exact World.alloc_heap_new wr _
        have hpc := pt_cells f b hb8
        have y0 : W2.cell? ⟨wr.heap.size, b * 3, none⟩ = some (.bool (f b).1) := bx_cell hz5 _ _ hpc.1
        have y1 : W2.cell? ⟨wr.heap.size, b * 3 + 1, none⟩ = some (.int .i64 (f b).2.1) := bx_cell hz5 _ _ hpc.2.1
        have y2 : W2.cell? ⟨wr.heap.size, b * 3 + 2, none⟩ = some (.int .i64 (f b).2.2) := bx_cell hz5 _ _ hpc.2.2
        have HLS := hide (list_any (f b) W2)
        have hs2 := hb2.size
        have HB3 := hide (HBr.out.trans (hb2.mono HBr.out.size))
        have HLT := hide (fun g e => (HO.out.lt g e).2)
        have HO2 := hide (own_kept HO.out hb2)
        clear hb2 hz5 hpc HO HBr
        go_wp2_with (first | (refine wpList_load_mid rfl 108 (.tmp 29) rfl b1 (off + i * 24) rfl (ptL f) _ HRG.out ptU rfl ptI ?_) | (refine wpList_store_pt rfl (.tmp 9) (.tmp 30) rfl wr.heap.size f ptZ rfl rfl (World.alloc_heap_new wr _) ?_; rw [World.setRow_alloc_new, hW2]) | fail)
        refine HLS.out.mono ?_
        rintro e v3 ⟨o4, c4, rfl, ow4, hb4⟩
        have HRL := hide (InRow.ri (InRow.of ow4))
        rw [HIP.out] at HRL ⊢
        have hs4 := hb4.size
        have HO4 := hide (own_kept HO2.out hb4)
        have HB4 := hide (HB3.out.trans (hb4.mono HB3.out.size))
        clear ow4 hb4 HO2 HB3 HLS y0 y1 y2
        obtain ⟨m, hm⟩ : ∃ r, row.length = r := ⟨_, rfl⟩
        rw [hm] at hy9 HRL ⊢
        have HM := hide hm
        clear hm
        go_wp2
        go_loopw [7, 36] (fun ov kv wq => ∃ k : Nat, k ≤ m ∧ kv = .int .i64 (k : Int) ∧ Hid (ownI wq W1.heap.size ov (addAll bas (row.take k))) ∧ (addAll bas (row.take k)).length ≤ 2 * i + k ∧ Hid (Below W1.heap.size W1 wq) ∧ Hid (RiV layI W2.heap.size v3.heap.size wq (.slice o4 m c4) row) ∧ v3.heap.size ≤ wq.heap.size ∧ Hid (∀ g, ov.ownBlock = some g → g < W2.heap.size ∨ v3.heap.size ≤ g))
          (fun _ kv _ => m - (intOf kv).toNat)
        case atStart => exact ⟨0, Nat.zero_le _, rfl, HO4.out, by simpa [addAll] using hL, HB4.out, HRL.out, Nat.le_refl _, fun g e => .inl (by have := HLT.out g e; omega)⟩
        case round =>
          rename World => wq
          rename_i ov2 _
          obtain ⟨k, hk', rfl, HO2, hL2, HBq, HRq, hs5, HGq⟩ := hrel
          clear HO4 HB4 HRL HRG HLT
          by_cases hlk : k < m
          · have hlk' : (k : Int) < (m : Int) := by omega
            have hkr : k < row.length := by rw [HM.out]; exact hlk
            obtain ⟨o5, c5, e6, hr5⟩ := RiV.open HRq.out
            injection e6 with e7 e8 e9
            subst e7
            rcases hr5 with hh | ⟨b3, off3, rfl, hb3, hcell⟩
            · rw [hh] at hkr; exact absurd hkr (Nat.not_lt_zero _)
            have hc3 : wq.cell? ⟨b3, off3 + k, none⟩ = some (.int .i64 (row.getD k 0)) := RdL.int hcell k hkr
            have HTK2 := hide (addAll_take bas row k hkr)
            clear hcell e8 e9
            obtain ⟨y, hy⟩ : ∃ y, row.getD k 0 = y := ⟨_, rfl⟩
            rw [hy] at hc3 HTK2
            clear hy
            obtain ⟨cur, hcu⟩ : ∃ q, addAll bas (row.take k) = q := ⟨_, rfl⟩
            rw [hcu] at HO2 hL2 HTK2
            clear hcu
            obtain ⟨oo, co, e5, hrd⟩ := ownL.open (L := layI) HO2.out
            subst e5
            have HH := hide (contains_any oo co cur y wq hrd (by omega))
            clear hrd
            go_wp2_with fail
            refine HH.out.mono ?_
            rintro e w4 ⟨rfl, rfl⟩
            clear HH
            cases hh : cur.contains y with
            | true =>
              have HY := hide (addTo_yes hh)
              go_wp2
              go_roundw
              case rel => exact ⟨k + 1, by omega, by go_num, by rw [HTK2.out, HY.out]; exact HO2.out, by rw [HTK2.out, HY.out]; omega, HBq.out, HRq.out, hs5, HGq.out⟩
              case measure => simp [intOf]; omega
            | false =>
              have HY := hide (addTo_no hh)
              have hsq := HBq.out.size
              have HA := hide (World.ownsRow.alloc HO2.out (.cells #[.int .i64 y] 3))
              have HRA := hide (HRq.out.step (Stp.of (lo := 0) (hi := 0) ((Below.refl w4.heap.size w4).alloc (Nat.le_refl _) (.cells #[.int .i64 y] 3))) (.inl (Nat.zero_le _)))
              go_wp2_with (first | (at_builtin; refine wpList_append_lay appII rfl (.tmp 44) (.tmp 46) rfl W1.heap.size _ cur rfl HA.out (some ⟨w4.heap.size, 0, none⟩) 1 _ [y] 1 rfl rfl (by simp) rd_oneI (by simp; omega) (by simp; omega) ?_))
              intro v5 w5 ho5 hg5 hn5
              have HB5 := hide ((HBq.out.alloc HBq.out.size _).grown hg5 (by simp; omega) (fun k h => (HA.out.lt k h).1))
              have HO5 := hide ho5
              have HR5 := hide (HRA.out.grow hg5 HGq.out)
              have hs6 : v3.heap.size ≤ w5.heap.size := by have := hg5.size; simp at this; omega
              have HG5 : Hid (∀ g, v5.ownBlock = some g → g < W2.heap.size ∨ v3.heap.size ≤ g) := fun g e => by
                rcases hn5 with hn5 | hn5
                · rw [hn5] at e; exact HGq.out g e
                · rw [hn5] at e; have := Option.some.inj e; omega
              clear hg5 ho5 hn5
              go_wp2
              go_roundw
              case rel => exact ⟨k + 1, by omega, by go_num, by rw [HTK2.out, HY.out]; exact HO5.out, by rw [HTK2.out, HY.out, List.length_append]; simp; omega, HB5.out, HR5.out, hs6, HG5.out⟩
              case measure => simp [intOf]; omega
          · have e : k = m := by omega
            subst e
            rw [← HM.out, List.take_length, ← HTK.out] at HO2 hL2
            go_wp2
            go_roundw
            case rel => exact ⟨i + 1, by omega, by go_num, HO2.out, by rw [HM.out] at hL2; omega, HBq.out⟩
            case measure => simp [intOf]; omega
      · have e : i = n := by omega
        subst e
        rw [← HNN.out, List.take_length] at HO
        have HBW := hide (HB2.out.trans (HBr.out.mono HB2.out.size))
        go_wp2
        go_ret
        exact ⟨_, rfl, by rw [HCM2.out]; exact own_mono HO.out HB2.out.size, HBW.out⟩

end Go.Proofs.Ytldjaapbkihibaa

/- For every pool and number the law FnExactCandidates answers true, and the pool reads as it did: impl.Candidates answers as the model's, writes nothing into what it is handed, and its answer owns its memory. No conditions. -/
namespace Go.Proofs.Ytldjaapbkihibaa
open Go.ChangeShapes Go.WideShapes Go.ChangeAt Go.RowKit Go.Joins
set_option linter.unusedVariables false
set_option linter.unusedSimpArgs false

theorem eqInts_in (v1 v2 : Value) (l : List Int) (w : World) (h1 : RdV layI w.heap.size w v1 l) (h2 : RdV layI w.heap.size w v2 l) (hl : l.length ≤ 1048576) :
    Calls Try.prog 44 #[v1, v2] w fun e w' => e = .returned (.bool true) ∧ Below w.heap.size w w' := by
  obtain ⟨o1, c1, rfl, r1⟩ := h1
  obtain ⟨o2, c2, rfl, r2⟩ := h2
  exact eqIntS_same o1 o2 c1 c2 l w r1 r2 hl
theorem heldInts_in (v : Value) (n C : Nat) (k : Int) (w : World) (hR : RdV layI C w v (markI k n)) (h0 : 0 ≤ k) (h1 : k ≤ 1073741824) (hlen : n ≤ 1048576) :
    Calls Try.prog 46 #[v, .int .i64 k] w fun e w' => e = .returned (.int .i64 (k + (n : Int))) ∧ w = w' := by
  obtain ⟨o, c, e, r⟩ := hR
  rw [e, markI_length]
  exact heldIntS_any o c n C k w r h0 h1 hlen
theorem markInts_in (lo hi : Nat) (v : Value) (l : List Int) (k : Int) (w : World) (hv : InL layI 3 lo hi w v l) (h0 : 0 ≤ k) (h1 : k ≤ 1073741824) (hlen : l.length ≤ 1048576) :
    Calls Try.prog 45 #[v, .int .i64 k] w fun e w' => e = .returned (.int .i64 (k + l.length)) ∧ InL layI 3 lo hi w' v (markI k l.length) ∧ w.grownBy w' v.ownBlock := by
  refine (markIntS_any lo v l k w hv.1 h0 h1 hlen).mono ?_
  rintro e w' ⟨rfl, ho, hg⟩
  exact ⟨rfl, ⟨ho, hv.2⟩, hg⟩
theorem candL_len {R : List (List (List Int))} {b : Nat} (n : Nat) (hn : n ≤ R.length) (h : ∀ i, i < R.length → ((R.getD i []).getD b []).length ≤ 2) : (candL (R.take n) b).length ≤ 2 * n := by
  induction n with
  | zero => simp [candL]
  | succ n ih =>
    rw [candL_take R b n (by omega)]
    have h1 := ih (by omega)
    have h2 := addAll_len ((R.getD n []).getD b []) (candL (R.take n) b)
    have h3 := h n (by omega)
    omega
theorem candM_len (m : Pm) (q : Int) : (candM m q).length ≤ 6 := by
  unfold candM
  split
  · rename_i h
    simp only [Bool.and_eq_true, decide_eq_true_eq] at h
    obtain ⟨⟨h1, h2⟩, h3⟩ := h
    obtain ⟨_, _, _, h4, h5⟩ := pool_facts h1
    have h6 := candL_len (R := m.ring) (b := q.toNat) m.ring.length (Nat.le_refl _) (fun i hi => pair_len ((pair_row (h5 i hi)).2 q.toNat (by omega)))
    rw [List.take_length] at h6
    omega
  · simp
theorem specCandidates_in (v : Value) (m : Pm) (q : Int) (w : World) (hR : RdPm w.heap.size w v m) (hf : fitPm m) :
    Calls Try.prog 43 #[v, .int .i64 q] w fun e w' => ∃ v', e = .returned v' ∧ InL layI 3 w.heap.size w'.heap.size w' v' (candM m q) ∧ Below w.heap.size w w' :=
  (specCandidates_sh v m q w hR hf).mono (fun e w' ⟨v', e1, h, hb⟩ => ⟨v', e1, InRow.of h, hb⟩)
theorem implCandidates_in (v : Value) (m : Pm) (q : Int) (w : World) (hR : RdPm w.heap.size w v m) (hf : fitPm m) :
    Calls Try.prog 19 #[v, .int .i64 q] w fun e w' => ∃ v', e = .returned v' ∧ InL layI 3 w.heap.size w'.heap.size w' v' (candM m q) ∧ Below w.heap.size w w' :=
  (implCandidates_sh v m q w hR hf).mono (fun e w' ⟨v', e1, h, hb⟩ => ⟨v', e1, InRow.of h, hb⟩)
theorem block_cellO {W : World} {B : Nat} {c : Array Value} {t : TypeId} (h : W.heap[B]? = some (.cells c t (0, 0))) (j : Nat) (u : Value) (hj : c[j]? = some u) : W.cell? ⟨B, j, none⟩ = some u := bx_cell h j u hj
set_option maxRecDepth 100000 in
set_option maxHeartbeats 8000000 in
theorem lawFnExactCandidates (v : Value) (m : Pm) (q : Int) (w : World) (hR : RdPm w.heap.size w v m) (hl : lenPm m) :
    Calls Try.prog 10 #[v, .int .i64 q] w fun e w' => e = .returned (.bool true) ∧ Below w.heap.size w w' := by
  obtain ⟨oa, ca, oRa, cRa, eva⟩ := hR.opn
  subst eva
  have bxa : (w.alloc (.cells #[.int .i64 m.key, .slice oa m.l.length ca, .slice oRa m.ring.length cRa] 66)).heap[w.heap.size]? = some (.cells #[.int .i64 m.key, .slice oa m.l.length ca, .slice oRa m.ring.length cRa] 66 (0, 0)) := World.alloc_heap_new w (.cells #[.int .i64 m.key, .slice oa m.l.length ca, .slice oRa m.ring.length cRa] 66)
  have hb_w0 : Below w.heap.size w (w.alloc (.cells #[.int .i64 m.key, .slice oa m.l.length ca, .slice oRa m.ring.length cRa] 66)) := (Below.refl _ _).alloc (Nat.le_refl _) _
  have hz_w0 : w.heap.size < (w.alloc (.cells #[.int .i64 m.key, .slice oa m.l.length ca, .slice oRa m.ring.length cRa] 66)).heap.size := by simp
  have Hbxa := hide bxa
  have Hb_ := hide hb_w0
  have HR := hide hR
  clear bxa hb_w0 hR
  go_enter Try.func10, Try.ntmps10
  go_wp2_with fail
  have bxa := Hbxa.out
  have hb_w0 := Hb_.out
  have hR := HR.out
  clear Hbxa Hb_ HR
  generalize w.alloc (.cells #[.int .i64 m.key, .slice oa m.l.length ca, .slice oRa m.ring.length cRa] 66) = w0 at *
  have B_w0 := hb_w0
  clear hb_w0
  refine (szPool_sh _ m w0 ((hR.kept B_w0 (Nat.le_refl _)).le B_w0.size) hl).mono ?_
  rintro e w1 ⟨⟨zz, rfl, hz⟩, hb_w1⟩
  replace bxa := (hb_w1.block _ (by omega)).trans bxa
  have B_w1 : Below w.heap.size w w1 := B_w0.trans (hb_w1.mono B_w0.size)
  have hs_w1 : w0.heap.size ≤ w1.heap.size := hb_w1.size
  clear hb_w1 B_w0
  rcases hz with ⟨hz1, hz2⟩ | ⟨hz1, hz2, hf⟩
  · have Hbxa := hide bxa
    clear bxa
    have HB_ := hide B_w1
    clear B_w1
    go_wp2
    go_ret
    exact ⟨rfl, HB_.out⟩
  · have HS := hide (fun v w h => specCandidates_in v m q w h hf)
    have HI := hide (fun v w h => implCandidates_in v m q w h hf)
    have hmr := candM_len m q
    generalize candM m q = mr at *
    have bxac0 : w1.cell? ⟨w.heap.size, 0, none⟩ = some (.int .i64 m.key) := block_cellO bxa 0 _ rfl
    have bxac1 : w1.cell? ⟨w.heap.size, 1, none⟩ = some (.slice oa m.l.length ca) := block_cellO bxa 1 _ rfl
    have bxac2 : w1.cell? ⟨w.heap.size, 2, none⟩ = some (.slice oRa m.ring.length cRa) := block_cellO bxa 2 _ rfl
    have Hbxa := hide bxa
    clear bxa
    have HB_ := hide B_w1
    clear B_w1
    go_wp2_with fail
    clear bxac0 bxac1 bxac2
    have bxa := Hbxa.out
    clear Hbxa
    have B_w1 := HB_.out
    clear HB_
    refine (toPool_sh _ m w1 ((hR.kept B_w1 (Nat.le_refl _)).le B_w1.size) hf).mono ?_
    rintro e w2 ⟨v2, rfl, in2, hb_w2⟩
    replace bxa := (hb_w2.block _ (by omega)).trans bxa
    have B_w2 : Below w.heap.size w w2 := B_w1.trans (hb_w2.mono B_w1.size)
    have hs_w2 : w1.heap.size ≤ w2.heap.size := hb_w2.size
    clear hb_w2 B_w1
    have Hbxa := hide bxa
    clear bxa
    have Hin2 := hide in2
    clear in2
    have HB_ := hide B_w2
    clear B_w2
    go_wp2_with fail
    have bxa := Hbxa.out
    clear Hbxa
    have in2 := Hin2.out
    clear Hin2
    have B_w2 := HB_.out
    clear HB_
    refine (HS.out _ w2 (in2.rd.le (by omega))).mono ?_
    rintro e w3 ⟨vw, rfl, inw, hb_w3⟩
    replace bxa := (hb_w3.block _ (by omega)).trans bxa
    replace in2 := in2.step (Stp.of (lo := 0) (hi := 0) hb_w3) (.inl (Nat.zero_le _))
    have B_w3 : Below w.heap.size w w3 := B_w2.trans (hb_w3.mono B_w2.size)
    have hs_w3 : w2.heap.size ≤ w3.heap.size := hb_w3.size
    clear hb_w3 B_w2
    clear in2
    have bxac0 : w3.cell? ⟨w.heap.size, 0, none⟩ = some (.int .i64 m.key) := block_cellO bxa 0 _ rfl
    have bxac1 : w3.cell? ⟨w.heap.size, 1, none⟩ = some (.slice oa m.l.length ca) := block_cellO bxa 1 _ rfl
    have bxac2 : w3.cell? ⟨w.heap.size, 2, none⟩ = some (.slice oRa m.ring.length cRa) := block_cellO bxa 2 _ rfl
    have Hbxa := hide bxa
    clear bxa
    have Hinw := hide inw
    clear inw
    have HB_ := hide B_w3
    clear B_w3
    go_wp2_with fail
    clear bxac0 bxac1 bxac2
    have bxa := Hbxa.out
    clear Hbxa
    have inw := Hinw.out
    clear Hinw
    have B_w3 := HB_.out
    clear HB_
    refine (toPool_sh _ m w3 ((hR.kept B_w3 (Nat.le_refl _)).le B_w3.size) hf).mono ?_
    rintro e w4 ⟨vx, rfl, inx, hb_w4⟩
    replace bxa := (hb_w4.block _ (by omega)).trans bxa
    replace inw := inw.step (Stp.of (lo := 0) (hi := 0) hb_w4) (.inl (Nat.zero_le _))
    have B_w4 : Below w.heap.size w w4 := B_w3.trans (hb_w4.mono B_w3.size)
    have hs_w4 : w3.heap.size ≤ w4.heap.size := hb_w4.size
    clear hb_w4 B_w3
    obtain ⟨ox, cx, oRx, cRx, evx⟩ := inx.rd.opn
    subst evx
    have bxx : (w4.alloc (.cells #[.int .i64 m.key, .slice ox m.l.length cx, .slice oRx m.ring.length cRx] 26)).heap[w4.heap.size]? = some (.cells #[.int .i64 m.key, .slice ox m.l.length cx, .slice oRx m.ring.length cRx] 26 (0, 0)) := World.alloc_heap_new w4 (.cells #[.int .i64 m.key, .slice ox m.l.length cx, .slice oRx m.ring.length cRx] 26)
    have hb_w5 : Below w4.heap.size w4 (w4.alloc (.cells #[.int .i64 m.key, .slice ox m.l.length cx, .slice oRx m.ring.length cRx] 26)) := (Below.refl _ _).alloc (Nat.le_refl _) _
    have hz_w5 : w4.heap.size < (w4.alloc (.cells #[.int .i64 m.key, .slice ox m.l.length cx, .slice oRx m.ring.length cRx] 26)).heap.size := by simp
    have bxxc0 : (w4.alloc (.cells #[.int .i64 m.key, .slice ox m.l.length cx, .slice oRx m.ring.length cRx] 26)).cell? ⟨w4.heap.size, 0, none⟩ = some (.int .i64 m.key) := block_cellO bxx 0 _ rfl
    have bxxc1 : (w4.alloc (.cells #[.int .i64 m.key, .slice ox m.l.length cx, .slice oRx m.ring.length cRx] 26)).cell? ⟨w4.heap.size, 1, none⟩ = some (.slice ox m.l.length cx) := block_cellO bxx 1 _ rfl
    have bxxc2 : (w4.alloc (.cells #[.int .i64 m.key, .slice ox m.l.length cx, .slice oRx m.ring.length cRx] 26)).cell? ⟨w4.heap.size, 2, none⟩ = some (.slice oRx m.ring.length cRx) := block_cellO bxx 2 _ rfl
    have Hbxx := hide bxx
    have Hb_ := hide hb_w5
    clear bxx hb_w5
    have Hbxa := hide bxa
    clear bxa
    have Hinw := hide inw
    clear inw
    have Hinx := hide inx
    clear inx
    have HB_ := hide B_w4
    clear B_w4
    go_wp2_with fail
    clear bxxc0 bxxc1 bxxc2
    have bxa := Hbxa.out
    clear Hbxa
    have inw := Hinw.out
    clear Hinw
    have inx := Hinx.out
    clear Hinx
    have B_w4 := HB_.out
    clear HB_
    have bxx := Hbxx.out
    have hb_w5 := Hb_.out
    clear Hbxx Hb_
    generalize w4.alloc (.cells #[.int .i64 m.key, .slice ox m.l.length cx, .slice oRx m.ring.length cRx] 26) = w5 at *
    replace bxa := (hb_w5.block _ (by omega)).trans bxa
    replace inw := inw.step (Stp.of (lo := 0) (hi := 0) hb_w5) (.inl (Nat.zero_le _))
    replace inx := inx.step (Stp.of (lo := 0) (hi := 0) hb_w5) (.inl (Nat.zero_le _))
    have B_w5 : Below w.heap.size w w5 := B_w4.trans (hb_w5.mono B_w4.size)
    have hs_w5 : w4.heap.size ≤ w5.heap.size := hb_w5.size
    clear hb_w5 B_w4
    refine (HI.out _ w5 (inx.rd.le (by omega))).mono ?_
    rintro e w6 ⟨vg, rfl, ing, hb_w6⟩
    replace bxa := (hb_w6.block _ (by omega)).trans bxa
    replace inw := inw.step (Stp.of (lo := 0) (hi := 0) hb_w6) (.inl (Nat.zero_le _))
    replace inx := inx.step (Stp.of (lo := 0) (hi := 0) hb_w6) (.inl (Nat.zero_le _))
    replace bxx := (hb_w6.block _ (by omega)).trans bxx
    have B_w6 : Below w.heap.size w w6 := B_w5.trans (hb_w6.mono B_w5.size)
    have hs_w6 : w5.heap.size ≤ w6.heap.size := hb_w6.size
    clear hb_w6 B_w5
    have Hbxa := hide bxa
    clear bxa
    have Hinw := hide inw
    clear inw
    have Hinx := hide inx
    clear inx
    have Hbxx := hide bxx
    clear bxx
    have Hing := hide ing
    clear ing
    have HB_ := hide B_w6
    clear B_w6
    go_wp2_with fail
    have bxa := Hbxa.out
    clear Hbxa
    have inw := Hinw.out
    clear Hinw
    have inx := Hinx.out
    clear Hinx
    have bxx := Hbxx.out
    clear Hbxx
    have ing := Hing.out
    clear Hing
    have B_w6 := HB_.out
    clear HB_
    refine (eqInts_in _ _ mr w6 ((InL.rd (L := layI) ing).le (by omega)) ((InL.rd (L := layI) inw).le (by omega)) (by omega)).mono ?_
    rintro e w7 ⟨rfl, hb_w7⟩
    replace bxa := (hb_w7.block _ (by omega)).trans bxa
    replace inw := inw.step (Stp.of (lo := 0) (hi := 0) hb_w7) (.inl (Nat.zero_le _))
    replace inx := inx.step (Stp.of (lo := 0) (hi := 0) hb_w7) (.inl (Nat.zero_le _))
    replace bxx := (hb_w7.block _ (by omega)).trans bxx
    replace ing := ing.step (Stp.of (lo := 0) (hi := 0) hb_w7) (.inl (Nat.zero_le _))
    have B_w7 : Below w.heap.size w w7 := B_w6.trans (hb_w7.mono B_w6.size)
    have hs_w7 : w6.heap.size ≤ w7.heap.size := hb_w7.size
    clear hb_w7 B_w6
    have bxac0 : w7.cell? ⟨w.heap.size, 0, none⟩ = some (.int .i64 m.key) := block_cellO bxa 0 _ rfl
    have bxac1 : w7.cell? ⟨w.heap.size, 1, none⟩ = some (.slice oa m.l.length ca) := block_cellO bxa 1 _ rfl
    have bxac2 : w7.cell? ⟨w.heap.size, 2, none⟩ = some (.slice oRa m.ring.length cRa) := block_cellO bxa 2 _ rfl
    have bxxc0 : w7.cell? ⟨w4.heap.size, 0, none⟩ = some (.int .i64 m.key) := block_cellO bxx 0 _ rfl
    have bxxc1 : w7.cell? ⟨w4.heap.size, 1, none⟩ = some (.slice ox m.l.length cx) := block_cellO bxx 1 _ rfl
    have bxxc2 : w7.cell? ⟨w4.heap.size, 2, none⟩ = some (.slice oRx m.ring.length cRx) := block_cellO bxx 2 _ rfl
    have Hbxa := hide bxa
    clear bxa
    have Hinw := hide inw
    clear inw
    have Hinx := hide inx
    clear inx
    have Hbxx := hide bxx
    clear bxx
    have Hing := hide ing
    clear ing
    have HB_ := hide B_w7
    clear B_w7
    go_wp2
    have hka : w.heap.size < w7.heap.size := by omega
    have hkx : w4.heap.size < w7.heap.size := by omega
    go_region_held3 (fun w' => w'.cell? ⟨w.heap.size, 0, none⟩ = some (.int .i64 m.key) ∧ w'.cell? ⟨w.heap.size, 1, none⟩ = some (.slice oa m.l.length ca) ∧ w'.cell? ⟨w.heap.size, 2, none⟩ = some (.slice oRa m.ring.length cRa) ∧ w'.cell? ⟨w4.heap.size, 0, none⟩ = some (.int .i64 m.key) ∧ w'.cell? ⟨w4.heap.size, 1, none⟩ = some (.slice ox m.l.length cx) ∧ w'.cell? ⟨w4.heap.size, 2, none⟩ = some (.slice oRx m.ring.length cRx)) (first | exact ⟨q0, q1, q2, q3, q4, q5⟩ | exact ⟨p0, p1, p2, p3, p4, p5⟩ | exact ⟨bxac0, bxac1, bxac2, bxxc0, bxxc1, bxxc2⟩) (first | (go_at_call 35; refine (toPool_sh _ m w7.drew ((hR.kept (Below.drew HB_.out) (Nat.le_refl _)).le HB_.out.size) hf).mono ?_; rintro e w8 ⟨va, rfl, ina, hba⟩; replace hba : Below w7.heap.size w7 w8 := (Below.drew (Below.refl _ _)).trans hba; have p0 := (hba.cell (p := ⟨w.heap.size, 0, none⟩) hka).trans bxac0; have p1 := (hba.cell (p := ⟨w.heap.size, 1, none⟩) hka).trans bxac1; have p2 := (hba.cell (p := ⟨w.heap.size, 2, none⟩) hka).trans bxac2; have p3 := (hba.cell (p := ⟨w4.heap.size, 0, none⟩) hkx).trans bxxc0; have p4 := (hba.cell (p := ⟨w4.heap.size, 1, none⟩) hkx).trans bxxc1; have p5 := (hba.cell (p := ⟨w4.heap.size, 2, none⟩) hkx).trans bxxc2) | (go_at_call 36; refine (eqPool_sh _ _ m w8 ((Hinx.out.rd.kept hba (by omega)).le (by have := hba.size; omega)) (ina.rd.le (Nat.le_refl _)) hf).mono ?_; rintro e w9 ⟨rfl, hbb⟩; replace hbb : Below w7.heap.size w7 w9 := hba.trans (hbb.mono hba.size); have q0 := (hbb.cell (p := ⟨w.heap.size, 0, none⟩) hka).trans bxac0; have q1 := (hbb.cell (p := ⟨w.heap.size, 1, none⟩) hka).trans bxac1; have q2 := (hbb.cell (p := ⟨w.heap.size, 2, none⟩) hka).trans bxac2; have q3 := (hbb.cell (p := ⟨w4.heap.size, 0, none⟩) hkx).trans bxxc0; have q4 := (hbb.cell (p := ⟨w4.heap.size, 1, none⟩) hkx).trans bxxc1; have q5 := (hbb.cell (p := ⟨w4.heap.size, 2, none⟩) hkx).trans bxxc2))
    clear p0 q0 p1 q1 p2 q2 p3 q3 p4 q4 p5 q5 hka hkx ina hba
    clear bxac0 bxac1 bxac2
    clear bxxc0 bxxc1 bxxc2
    have bxa := Hbxa.out
    clear Hbxa
    have inw := Hinw.out
    clear Hinw
    have inx := Hinx.out
    clear Hinx
    have bxx := Hbxx.out
    clear Hbxx
    have ing := Hing.out
    clear Hing
    have B_w7 := HB_.out
    clear HB_
    replace bxa := (hbb.block _ (by omega)).trans bxa
    replace inw := inw.step (Stp.of (lo := 0) (hi := 0) hbb) (.inl (Nat.zero_le _))
    replace inx := inx.step (Stp.of (lo := 0) (hi := 0) hbb) (.inl (Nat.zero_le _))
    replace bxx := (hbb.block _ (by omega)).trans bxx
    replace ing := ing.step (Stp.of (lo := 0) (hi := 0) hbb) (.inl (Nat.zero_le _))
    have B_w9 : Below w.heap.size w w9 := B_w7.trans (hbb.mono B_w7.size)
    have hs_w9 : w7.heap.size ≤ w9.heap.size := hbb.size
    clear hbb B_w7
    have bxxc0 : w9.cell? ⟨w4.heap.size, 0, none⟩ = some (.int .i64 m.key) := block_cellO bxx 0 _ rfl
    have bxxc1 : w9.cell? ⟨w4.heap.size, 1, none⟩ = some (.slice ox m.l.length cx) := block_cellO bxx 1 _ rfl
    have bxxc2 : w9.cell? ⟨w4.heap.size, 2, none⟩ = some (.slice oRx m.ring.length cRx) := block_cellO bxx 2 _ rfl
    have Hbxa := hide bxa
    clear bxa
    have Hinw := hide inw
    clear inw
    have Hinx := hide inx
    clear inx
    have Hbxx := hide bxx
    clear bxx
    have Hing := hide ing
    clear ing
    have HB_ := hide B_w9
    clear B_w9
    go_wp2_with fail
    clear bxxc0 bxxc1 bxxc2
    have bxa := Hbxa.out
    clear Hbxa
    have inw := Hinw.out
    clear Hinw
    have inx := Hinx.out
    clear Hinx
    have bxx := Hbxx.out
    clear Hbxx
    have ing := Hing.out
    clear Hing
    have B_w9 := HB_.out
    clear HB_
    refine (markPool_sh (w3.heap.size) (w4.heap.size) _ m 1 w9 inx (by omega) (by omega) hf).mono ?_
    rintro e w10 ⟨rfl, _, sp_w10⟩
    clear bxx
    replace bxa := sp_w10.box bxa (by omega)
    replace inw := inw.step sp_w10 (by omega)
    replace ing := ing.step sp_w10 (by omega)
    have B_w10 : Below w.heap.size w w10 := B_w9.trans (sp_w10.below (by omega) (by omega))
    have hs_w10 : w9.heap.size ≤ w10.heap.size := sp_w10.size
    clear sp_w10 B_w9
    clear inx
    have hk1 : (0 : Int) ≤ 1 + nPm m := by have := nPm_bd hf; omega
    have Hbxa := hide bxa
    clear bxa
    have Hinw := hide inw
    clear inw
    have Hing := hide ing
    clear ing
    have HB_ := hide B_w10
    clear B_w10
    go_wp2_with fail
    have bxa := Hbxa.out
    clear Hbxa
    have inw := Hinw.out
    clear Hinw
    have ing := Hing.out
    clear Hing
    have B_w10 := HB_.out
    clear HB_
    refine (eqInts_in _ _ mr w10 ((InL.rd (L := layI) ing).le (by omega)) ((InL.rd (L := layI) inw).le (by omega)) (by omega)).mono ?_
    rintro e w11 ⟨rfl, hb_w11⟩
    replace bxa := (hb_w11.block _ (by omega)).trans bxa
    replace inw := inw.step (Stp.of (lo := 0) (hi := 0) hb_w11) (.inl (Nat.zero_le _))
    replace ing := ing.step (Stp.of (lo := 0) (hi := 0) hb_w11) (.inl (Nat.zero_le _))
    have B_w11 : Below w.heap.size w w11 := B_w10.trans (hb_w11.mono B_w10.size)
    have hs_w11 : w10.heap.size ≤ w11.heap.size := hb_w11.size
    clear hb_w11 B_w10
    have Hbxa := hide bxa
    clear bxa
    have Hinw := hide inw
    clear inw
    have Hing := hide ing
    clear ing
    have HB_ := hide B_w11
    clear B_w11
    go_wp2_with fail
    have bxa := Hbxa.out
    clear Hbxa
    have inw := Hinw.out
    clear Hinw
    have ing := Hing.out
    clear Hing
    have B_w11 := HB_.out
    clear HB_
    refine (markInts_in (w5.heap.size) (w6.heap.size) _ mr 1 w11 ing (by omega) (by omega) (by omega)).mono ?_
    rintro e w12 ⟨rfl, ing', sp_w12⟩
    replace sp_w12 : Stp (w5.heap.size) (w6.heap.size) w11 w12 := Stp.grown sp_w12 (fun b e => ⟨(ing.1.lt b e).1, ing.2 b e⟩)
    replace bxa := sp_w12.box bxa (by omega)
    replace inw := inw.step sp_w12 (by omega)
    have B_w12 : Below w.heap.size w w12 := B_w11.trans (sp_w12.below (by omega) (by omega))
    have hs_w12 : w11.heap.size ≤ w12.heap.size := sp_w12.size
    clear sp_w12 B_w11
    clear ing
    have ing := ing'
    clear ing'
    have hk2 : (0 : Int) ≤ 1 + (mr.length : Int) := by omega
    have Hbxa := hide bxa
    clear bxa
    have Hinw := hide inw
    clear inw
    have Hing := hide ing
    clear ing
    have HB_ := hide B_w12
    clear B_w12
    go_wp2_with fail
    have bxa := Hbxa.out
    clear Hbxa
    have inw := Hinw.out
    clear Hinw
    have ing := Hing.out
    clear Hing
    have B_w12 := HB_.out
    clear HB_
    refine (heldInts_in _ mr.length w12.heap.size 1 w12 ((InL.rd (L := layI) ing).le (by omega)) (by omega) (by omega) (by omega)).mono ?_
    rintro e _ ⟨rfl, rfl⟩
    have bxac0 : w12.cell? ⟨w.heap.size, 0, none⟩ = some (.int .i64 m.key) := block_cellO bxa 0 _ rfl
    have bxac1 : w12.cell? ⟨w.heap.size, 1, none⟩ = some (.slice oa m.l.length ca) := block_cellO bxa 1 _ rfl
    have bxac2 : w12.cell? ⟨w.heap.size, 2, none⟩ = some (.slice oRa m.ring.length cRa) := block_cellO bxa 2 _ rfl
    have Hbxa := hide bxa
    clear bxa
    have Hinw := hide inw
    clear inw
    have Hing := hide ing
    clear ing
    have HB_ := hide B_w12
    clear B_w12
    go_wp2_with fail
    clear bxac0 bxac1 bxac2
    have bxa := Hbxa.out
    clear Hbxa
    have inw := Hinw.out
    clear Hinw
    have ing := Hing.out
    clear Hing
    have B_w12 := HB_.out
    clear HB_
    refine (toPool_sh _ m w12 ((hR.kept B_w12 (Nat.le_refl _)).le B_w12.size) hf).mono ?_
    rintro e w13 ⟨vy, rfl, iny, hb_w13⟩
    replace bxa := (hb_w13.block _ (by omega)).trans bxa
    replace inw := inw.step (Stp.of (lo := 0) (hi := 0) hb_w13) (.inl (Nat.zero_le _))
    replace ing := ing.step (Stp.of (lo := 0) (hi := 0) hb_w13) (.inl (Nat.zero_le _))
    have B_w13 : Below w.heap.size w w13 := B_w12.trans (hb_w13.mono B_w12.size)
    have hs_w13 : w12.heap.size ≤ w13.heap.size := hb_w13.size
    clear hb_w13 B_w12
    have Hbxa := hide bxa
    clear bxa
    have Hinw := hide inw
    clear inw
    have Hing := hide ing
    clear ing
    have Hiny := hide iny
    clear iny
    have HB_ := hide B_w13
    clear B_w13
    go_wp2_with fail
    have bxa := Hbxa.out
    clear Hbxa
    have inw := Hinw.out
    clear Hinw
    have ing := Hing.out
    clear Hing
    have iny := Hiny.out
    clear Hiny
    have B_w13 := HB_.out
    clear HB_
    refine (HI.out _ w13 (iny.rd.le (by omega))).mono ?_
    rintro e w14 ⟨vh, rfl, inh, hb_w14⟩
    replace bxa := (hb_w14.block _ (by omega)).trans bxa
    replace inw := inw.step (Stp.of (lo := 0) (hi := 0) hb_w14) (.inl (Nat.zero_le _))
    replace ing := ing.step (Stp.of (lo := 0) (hi := 0) hb_w14) (.inl (Nat.zero_le _))
    replace iny := iny.step (Stp.of (lo := 0) (hi := 0) hb_w14) (.inl (Nat.zero_le _))
    have B_w14 : Below w.heap.size w w14 := B_w13.trans (hb_w14.mono B_w13.size)
    have hs_w14 : w13.heap.size ≤ w14.heap.size := hb_w14.size
    clear hb_w14 B_w13
    clear iny
    have Hbxa := hide bxa
    clear bxa
    have Hinw := hide inw
    clear inw
    have Hing := hide ing
    clear ing
    have Hinh := hide inh
    clear inh
    have HB_ := hide B_w14
    clear B_w14
    go_wp2_with fail
    have bxa := Hbxa.out
    clear Hbxa
    have inw := Hinw.out
    clear Hinw
    have ing := Hing.out
    clear Hing
    have inh := Hinh.out
    clear Hinh
    have B_w14 := HB_.out
    clear HB_
    refine (eqInts_in _ _ mr w14 ((InL.rd (L := layI) inh).le (by omega)) ((InL.rd (L := layI) inw).le (by omega)) (by omega)).mono ?_
    rintro e w15 ⟨rfl, hb_w15⟩
    replace bxa := (hb_w15.block _ (by omega)).trans bxa
    replace inw := inw.step (Stp.of (lo := 0) (hi := 0) hb_w15) (.inl (Nat.zero_le _))
    replace ing := ing.step (Stp.of (lo := 0) (hi := 0) hb_w15) (.inl (Nat.zero_le _))
    replace inh := inh.step (Stp.of (lo := 0) (hi := 0) hb_w15) (.inl (Nat.zero_le _))
    have B_w15 : Below w.heap.size w w15 := B_w14.trans (hb_w15.mono B_w14.size)
    have hs_w15 : w14.heap.size ≤ w15.heap.size := hb_w15.size
    clear hb_w15 B_w14
    clear inh
    have Hbxa := hide bxa
    clear bxa
    have Hinw := hide inw
    clear inw
    have Hing := hide ing
    clear ing
    have HB_ := hide B_w15
    clear B_w15
    go_wp2_with fail
    have bxa := Hbxa.out
    clear Hbxa
    have inw := Hinw.out
    clear Hinw
    have ing := Hing.out
    clear Hing
    have B_w15 := HB_.out
    clear HB_
    refine (heldInts_in _ mr.length w15.heap.size 1 w15 ((InL.rd (L := layI) ing).le (by omega)) (by omega) (by omega) (by omega)).mono ?_
    rintro e _ ⟨rfl, rfl⟩
    have Hbxa := hide bxa
    clear bxa
    have Hinw := hide inw
    clear inw
    have Hing := hide ing
    clear ing
    have HB_ := hide B_w15
    clear B_w15
    go_wp2
    go_ret
    exact ⟨rfl, HB_.out⟩

theorem walkFnExactCandidates (m : Pm) (o : Option Addr) (cap : Nat) (oR : Option Addr) (cR : Nat) (q : Int) (w : World) (hl : lenPm m) (hR : RdPm w.heap.size w (plv m.key (.slice o m.l.length cap) (.slice oR m.ring.length cR)) m) :
    Calls Try.prog 10 #[plv m.key (.slice o m.l.length cap) (.slice oR m.ring.length cR), .int .i64 q] w fun e w' => e = .returned (.bool true) ∧ Below w.heap.size w w' := lawFnExactCandidates _ m q w hR hl

set_option maxRecDepth 100000 in
theorem fnExactCandidates_lifted (os : Os) (started : os.Started) (H : Type) (enc : TypeId × Value → H) :
    ReturnsInHanded {} Try.checked os 10 .any (Rows.fnExactCandidatesSpec.pre6 enc Try.prog Try.f10 Rows.fnExactCandidatesRow.domain false) (Rows.fnExactCandidatesSpec.post enc Try.prog Try.f10 false true false false) := by
  refine returnsInHanded_of_change (C := Try.checked) own started (by kernel_rfl) Try.func10
    (ChangeSpec.witness6 (enc := enc) (C := Try.checked) false ⟨#[], #[.agg #[.int .i64 0, .slice none 0 0, .slice none 0 0], .int .i64 0], []⟩ 8 (by kernel_rfl) (by kernel_rfl) (by kernel_rfl) (by kernel_rfl)) ?_
  intro W base args ds gs before hval0 hW hcnd _
  have hval : ∀ (j : Nat) t v, Try.f10.params[j]? = some t → args[j]? = some v → Value.okWide Try.prog W .any base t v := hval0
  have hW' := hW
  obtain ⟨p, q, hA0, hV, rfl, hfz, hnd⟩ := hW
  have hA : DataW.TrodAll enc Try.prog W 0 (fun _ => true) true Try.f10.params.toList args.toList ds p := hA0
  rw [Try.params10] at hA hval
  obtain ⟨v0, vs0, d0, ds0, p0, q0, hargs, rfl, rfl, h0, r0⟩ := trodAll_cons hA
  obtain ⟨v1, vs1, d1, ds1, p1, q1, rfl, rfl, rfl, h1, r1⟩ := trodAll_cons r0
  obtain ⟨rfl, rfl, rfl⟩ := trodAll_nil r1
  obtain rfl : args = #[v0, v1] := by cases args; simp_all
  obtain ⟨rfl, rfl⟩ := trodVars_none hV
  have k0 := h0
  have lt0 : ∀ x ∈ p0, x.block < W.heap.size := by obtain ⟨m, hm⟩ := k0; exact DataW.trod_lt m _ _ _ hm
  have k1 := h1
  have lt1 : ∀ x ∈ p1, x.block < W.heap.size := by obtain ⟨m, hm⟩ := k1; exact DataW.trod_lt m _ _ _ hm
  obtain ⟨m0, o0, cap0, oR0, cR0, rfl, hm0, hR0⟩ := open_pool (hval 0 66 v0 rfl rfl) h0
  obtain ⟨a1, rfl, _, _, w1⟩ := open_int Try.underlying3 (hval 1 3 v1 rfl rfl) h1
  clear hA0 hval0
  refine (walkFnExactCandidates m0 o0 cap0 oR0 cR0 a1 W hm0 hR0  ).mono fun e W' ⟨he, bel⟩ => ?_
  subst he
  exact ⟨_, rfl, _, _, _, [], _, [], hW', trodAll_mk1 (shut_bool Try.underlying4 _), (trodAll_cons_mk (Below.trod laidOut (by kernel_rfl) (of_decide_eq_true (by kernel_rfl)) k0 bel lt0) (trodAll_cons_mk (Below.trod laidOut (by kernel_rfl) (of_decide_eq_true (by kernel_rfl)) k1 bel lt1) trodAll_mk0)), rfl, bel.frame _, fun h => by cases h⟩

theorem fnExactCandidates_over : Rows.fnExactCandidatesRow.holds Try.pinned (OpenSpec.ofChange Rows.fnExactCandidatesSpec) :=
  OpenClaim.holds_of_wide 10 Try.f10 rfl rfl rfl rfl rfl rfl rfl ⟨rfl, rfl, rfl, rfl, rfl⟩ rfl rfl rfl rfl rfl (by kernel_rfl) Try.func10 (by kernel_rfl)
    (of_decide_eq_true (by kernel_rfl)) (by unfold Func.isWrapper; first | (rw [if_pos (by decide +kernel)]; kernel_rfl) | (rw [if_neg (by decide +kernel)]; exact ⟨rfl, rfl⟩))
    (fun os started H enc _ => fnExactCandidates_lifted os started H enc)

theorem fnExactCandidates_holds : Rows.FnExactCandidatesSaid := fnExactCandidates_over

end Go.Proofs.Ytldjaapbkihibaa

