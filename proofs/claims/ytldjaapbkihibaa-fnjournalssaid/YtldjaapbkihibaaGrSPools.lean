/- Several texts in one: SPok, SPok2, SPok3, SJS, SJCut, SRep, SNote, SRepl, SRepl2, SPdo, SPdo2, SPdo3, CutP, SCan, SCan2, SPools. -/
import Derived.Test.YtldjaapbkihibaaGrSPf
import Derived.Test.YtldjaapbkihibaaGrOpenP
import Derived.Deep.RegionHeld3
import Derived.Deep.CutRange
import Derived.Test.YtldjaapbkihibaaGrow
import Derived.BigQuiet
import Derived.Test.YtldjaapbkihibaaGrSTurns
/- PoolOk, on both sides. -/
namespace Go.Proofs.Ytldjaapbkihibaa
open Go.ChangeShapes Go.WideShapes Go.ChangeAt Go.RowKit Go.Joins
set_option linter.unusedVariables false
set_option linter.unusedSimpArgs false

theorem pairOk_ids {l : List Int} (h : ∀ j, j < l.length → idB (l.getD j 0) = true) : pairOkB l = (decide (l.length = 0) || decide (l.length = 2)) := by
  unfold pairOkB
  by_cases h2 : l.length = 2
  · rw [h 0 (by omega), h 1 (by omega)]; simp
  · simp [h2]
theorem pairOk_bad {l : List Int} {j : Nat} (hj : j < l.length) (h : idB (l.getD j 0) = false) : pairOkB l = false := by
  unfold pairOkB
  by_cases h2 : l.length = 2
  · have h0 : ¬ (l.length = 0) := by omega
    match j, hj, h with
    | 0, _, h => simp only [h]; simp [h0]
    | 1, _, h => simp only [h]; simp [h0]
    | j + 2, hj, _ => omega
  · have h0 : ¬ (l.length = 0) := by omega
    simp [h2, h0]

set_option maxRecDepth 100000 in
set_option maxHeartbeats 1000000 in
theorem l4pair_any (o : Option Addr) (cap : Nat) (l : List Int) (w : World) (hR : RdI w.heap.size w o l) (hl : l.length ≤ 1048576) :
    Calls Try.prog 69 #[.slice o l.length cap] w fun e w' => e = .returned (.bool (pairOkB l)) ∧ w = w' := by
  obtain ⟨A, hA⟩ : ∃ A, pairOkB l = A := ⟨_, rfl⟩
  rw [hA]
  have HA := hide hA
  clear hA
  go_enter Try.func69, Try.ntmps69
  go_wp2
  go_loop [3] (fun iv => ∃ i : Nat, i ≤ l.length ∧ iv = .int .i64 (i : Int) ∧ Hid (∀ j, j < i → idB (l.getD j 0) = true))
    (fun iv => l.length - (intOf iv).toNat)
  case atStart => exact ⟨0, Nat.zero_le _, rfl, fun j hj => absurd hj (Nat.not_lt_zero _)⟩
  case round =>
    obtain ⟨i, hi, rfl, HI⟩ := hrel
    by_cases hlt : i < l.length
    · rcases hR with hR | ⟨b, off, rfl, hbl, hcell⟩
      · subst hR; simp at hlt
      have hc := RdL.int hcell i hlt
      have z1 : (i : Int) < (l.length : Int) := by omega
      have HX := hide (show idB (l.getD i 0) = (decide (0 ≤ l.getD i 0) && decide (l.getD i 0 < 6)) from rfl)
      have HBD := hide (fun h => pairOk_bad hlt h)
      have HNX := hide (fun (h : idB (l.getD i 0) = true) => fun j (hj : j < i + 1) => (show idB (l.getD j 0) = true from (Nat.lt_succ_iff_lt_or_eq.1 hj).elim (fun h' => HI.out j h') (fun h' => h' ▸ h)))
      clear hcell
      generalize l.getD i 0 = x at *
      by_cases h1 : x < 0
      · have hb : A = false := by rw [← HA.out]; exact HBD.out (by rw [HX.out, decide_eq_false (by omega)]; rfl)
        clear HA
        subst hb
        go_wp2
        go_ret
        exact ⟨rfl, rfl⟩
      · by_cases h2 : 6 ≤ x
        · have hb : A = false := by rw [← HA.out]; exact HBD.out (by rw [HX.out, decide_eq_false (show ¬ x < 6 by omega)]; simp)
          clear HA
          subst hb
          go_wp2
          go_ret
          exact ⟨rfl, rfl⟩
        · have HOK := hide (HNX.out (by rw [HX.out, decide_eq_true (show 0 ≤ x by omega), decide_eq_true (show x < 6 by omega)]; rfl))
          clear HX HNX HBD
          go_wp2
          go_round
          case rel => exact ⟨i + 1, by omega, by go_num, HOK.out⟩
          case measure => simp [intOf]; omega
    · have e : i = l.length := by omega
      subst e
      have hb := pairOk_ids HI.out
      rw [HA.out] at hb
      by_cases h0 : l.length = 0
      · have h0' : (l.length : Int) = 0 := by omega
        have hb' : A = true := by rw [hb, decide_eq_true h0]; rfl
        clear hb HA HI hR
        subst hb'
        go_wp2
        go_ret
        exact ⟨rfl, rfl⟩
      · by_cases h2 : l.length = 2
        · have hb' : A = true := by rw [hb, decide_eq_true h2]; simp
          have H2 := hide h2
          clear hb HA HI hR h0 h2
          subst hb'
          have h2' : (l.length : Int) = 2 := by have := H2.out; omega
          go_wp2
          go_ret
          exact ⟨rfl, rfl⟩
        · have hb' : A = false := by rw [hb, decide_eq_false h0, decide_eq_false h2]; rfl
          have h0' : ((l.length : Int) == 0) = false := beq_eq_false_iff_ne.2 (by omega)
          have h2' : ((l.length : Int) == 2) = false := beq_eq_false_iff_ne.2 (by omega)
          clear hb HA HI hR
          subst hb'
          go_wp2
          go_ret
          exact ⟨rfl, rfl⟩

theorem moved_all {aa bb : List (List Int)} : ∀ k, movedTo aa bb k = 0 → ∀ i, i < k → aa.getD i [] = bb.getD i []
  | 0, _ => fun i hi => absurd hi (Nat.not_lt_zero _)
  | k + 1, h => fun i hi => by
    have hb := (movedTo_bd aa bb k).1
    by_cases e : aa.getD k [] = bb.getD k []
    · have h1 := movedTo_same (aa := aa) (bb := bb) (k := k) rfl rfl e
      rcases Nat.lt_succ_iff_lt_or_eq.1 hi with h' | h'
      · exact moved_all k (by omega) i h'
      · rw [h']; exact e
    · have h1 := movedTo_diff (aa := aa) (bb := bb) (k := k) rfl rfl e
      omega
theorem moved_none {aa bb : List (List Int)} : ∀ k, (∀ i, i < k → aa.getD i [] = bb.getD i []) → movedTo aa bb k = 0
  | 0, _ => rfl
  | k + 1, h => by
    rw [← movedTo_same (aa := aa) (bb := bb) (k := k) rfl rfl (h k (by omega))]
    exact moved_none k (fun i hi => h i (by omega))
theorem tab_pair {ll : List (List Int)} (h : tabOkB ll = true) : ll.length = 8 ∧ ∀ i, i < 8 → pairOkB (ll.getD i []) = true := by
  unfold tabOkB at h
  simp only [Bool.and_eq_true, decide_eq_true_eq, List.all_eq_true, List.mem_range] at h
  exact h
theorem moved_eq {key : Int} {l : List Bk} {ll : List (List Int)} (hl : backsOkB l = true) (h : tabOkB ll = true) : movedI ll (newT key l) = 0 ↔ eqPtB (tabF ll) (newF key l) = true := by
  obtain ⟨h8, hp⟩ := tab_pair h
  have hm : movedI ll (newT key l) = movedTo ll (newT key l) 8 := by rw [movedI, if_pos ⟨h8, newT_len key l⟩]
  rw [hm]
  have hn : ∀ i, i < 8 → (newT key l).getD i [] = pairI key i l := fun i hi => by unfold newT; rw [rowsOf_get _ _ _ hi]
  constructor
  · intro h0
    unfold eqPtB
    rw [List.all_eq_true]
    intro i hi
    have hi' : i < 8 := by simpa using hi
    have h1 := moved_all 8 h0 i hi'
    unfold tabF newF
    rw [h1, hn i hi']
    exact beq_self_eq_true _
  · intro h0
    unfold eqPtB at h0
    rw [List.all_eq_true] at h0
    refine moved_none 8 (fun i hi => ?_)
    have h1 := eq_of_beq (h0 i (by simpa using hi))
    unfold tabF newF at h1
    rw [hn i hi, ← ipList_of (hp i hi), h1, ipList_of (pairI_ok key i hl)]
theorem moved_pool {m : Pm} (h : poolB m = true) : movedI (m.ring.getD 0 []) (newT m.key m.l) = 0 := by
  unfold poolB at h
  simp only [Bool.and_eq_true, decide_eq_true_eq, List.all_eq_true, List.mem_range] at h
  obtain ⟨⟨⟨⟨⟨h1, h2⟩, h3⟩, h4⟩, h5⟩, h6⟩ := h
  exact (moved_eq h2 (h5 0 (by omega))).2 h6
theorem pool_rest {m : Pm} (h1 : keyB m.key = true) (h2 : backsOkB m.l = true) (h3 : 1 ≤ m.ring.length) (h4 : m.ring.length ≤ 3) (h5 : ∀ i, i < m.ring.length → tabOkB (m.ring.getD i []) = true) (h6 : movedI (m.ring.getD 0 []) (newT m.key m.l) = 0) : poolB m = true :=
  poolB_yes h1 h2 h3 h4 h5 ((moved_eq h2 (h5 0 (by omega))).1 h6)

end Go.Proofs.Ytldjaapbkihibaa

/- The model's PoolOk. -/
namespace Go.Proofs.Ytldjaapbkihibaa
open Go.ChangeShapes Go.WideShapes Go.ChangeAt Go.RowKit Go.Joins
set_option linter.unusedVariables false
set_option linter.unusedSimpArgs false


set_option maxRecDepth 100000 in
set_option maxHeartbeats 16000000 in
theorem poolOk_1 (key : Int) (o : Option Addr) (cap : Nat) (l : List Bk) (oR : Option Addr) (cR : Nat) (lll : List (List (List Int))) (hnn : 1 = lll.length) (w : World) (hR : RdK w.heap.size w o l) (hG : RiR 0 w.heap.size w (.slice oR 1 cR) lll) (hf : fitPm ⟨key, l, lll⟩) (A : Bool) (hk : keyB key = true) (hbo : backsOkB l = true)
    (hno : keyB key = false ∨ backsOkB l = false ∨ lll.length < 1 ∨ 3 < lll.length ∨ (∃ i, i < lll.length ∧ tabOkB (lll.getD i []) = false) ∨ eqPtB (tabF (lll.getD 0 [])) (newF key l) = false → A = false) (hmv : A = true → movedI (lll.getD 0 []) (newT key l) = 0)
    (hys : keyB key = true → backsOkB l = true → 1 ≤ lll.length → lll.length ≤ 3 → (∀ i, i < lll.length → tabOkB (lll.getD i []) = true) → movedI (lll.getD 0 []) (newT key l) = 0 → A = true) :
    Calls Try.prog 20 #[plv key (.slice o l.length cap) (.slice oR 1 cR)] w fun e w' => e = .returned (.bool A) ∧ Below w.heap.size w w' := by
  have HNN := hide hnn
  obtain ⟨hf1, hf2, hf3, hf4, hf5⟩ := hf
  dsimp only at hf1 hf2 hf3 hf4 hf5
  have HX := hide hf4
  have HY := hide hf5
  have HNO := hide hno
  have HMV := hide hmv
  have HYS := hide hys
  have HK := hide hk
  have HBK := hide hbo
  clear hnn hf4 hf5 hf3 hf2 hno hmv hys hk hbo
  obtain ⟨W0, hW0⟩ : ∃ W, (w.alloc (.cells #[.int .i64 key, .slice o l.length cap, .slice oR 1 cR] 26)) = W := ⟨_, rfl⟩
  have hb_W0 : Below w.heap.size w W0 := by rw [← hW0]; exact ((Below.refl _ _).alloc (Nat.le_refl _) _)
  have HB := hide hb_W0
  clear hb_W0
  have zz : w.heap.size < W0.heap.size := by rw [← hW0]; simp
  have z0 : W0.cell? ⟨w.heap.size, 0, none⟩ = some (.int .i64 key) := by rw [← hW0]; simp [go_sem]
  have z1 : W0.cell? ⟨w.heap.size, 1, none⟩ = some (.slice o l.length cap) := by rw [← hW0]; simp [go_sem]
  have z2 : W0.cell? ⟨w.heap.size, 2, none⟩ = some (.slice oR 1 cR) := by rw [← hW0]; simp [go_sem]
  have HKE := hide (fun W => HK.out ▸ l3key_any key W)
  have HBO := hide (fun p : Grown W0 => HBK.out ▸ specBacksOk_any o cap l p.v ((hR.kept (HB.out.trans (p.b.mono HB.out.size)) (Nat.le_refl _)).le (Nat.le_trans HB.out.size p.b.size)) hf1)
  have HRK := hide hR
  have HG := hide hG
  clear hR hG
  have hw0 := HB.out.size
  have h1n : 1 ≤ 1 := by omega
  have h3n : 1 ≤ 3 := by omega
  have hln0 : 0 < lll.length := by rw [← HNN.out]; omega
  have hl100 := backs_len HBK.out
  obtain ⟨b, off, o', c', rfl, hbl, hcu0, hru0⟩ := HG.out.at (Nat.le_refl _) 0 hln0
  have hcu := bC HB.out hcu0 hbl
  rw [Nat.add_zero] at hcu
  have HRU := hide hru0
  have HX0 := hide (HX.out 0 hln0)
  have HY0 := hide (HY.out 0 hln0)
  have HTB := hide (fun W (hb : Below W0.heap.size W0 W) => l3table_any key o cap l W ((HRK.out.kept (HB.out.trans (hb.mono HB.out.size)) (Nat.le_refl _)).le (Nat.le_trans HB.out.size hb.size)) (by omega) HK.out HBK.out)
  have HMO := hide (fun W (hb : Below W0.heap.size W0 W) oT cT (hT : RdLL W.heap.size W oT (newT key l)) => (newT_len key l) ▸ specMoved_any o' oT c' cT (lll.getD 0 []) (newT key l) W ((HRU.out.kept (HB.out.trans (hb.mono HB.out.size)) (Nat.le_refl _)).le (Nat.le_trans HB.out.size hb.size)) hT HX0.out (by rw [newT_len]; omega) HY0.out (fun i hi => by have := newT_row key l i; omega))
  clear hcu0 hru0
  obtain ⟨m0, hm0⟩ : ∃ m, (lll.getD 0 []).length = m := ⟨_, rfl⟩
  rw [hm0] at hcu HMO
  clear hm0
  obtain ⟨r, hr⟩ : ∃ r, movedI (lll.getD 0 []) (newT key l) = r := ⟨_, rfl⟩
  rw [hr] at HMO HMV HYS
  clear hr
  have hbl' : b < W0.heap.size := by omega
  by_cases hr0 : r = 0
  · subst hr0
    go_enter Try.func20, Try.ntmps20
    go_wp2
    go_region_held3 (fun w' => w'.cell? ⟨w.heap.size, 0, none⟩ = some (.int .i64 key) ∧ w'.cell? ⟨w.heap.size, 1, none⟩ = some (.slice o l.length cap) ∧ w'.cell? ⟨w.heap.size, 2, none⟩ = some (.slice (some ⟨b, off, none⟩) 1 cR) ∧ w'.cell? ⟨b, off, none⟩ = some (.slice o' m0 c')) (first | with_reducible exact ⟨k3_0, k3_1, k3_2, k3_3⟩ | with_reducible exact ⟨k2_0, k2_1, k2_2, k2_3⟩ | with_reducible exact ⟨k1_0, k1_1, k1_2, k1_3⟩ | with_reducible exact ⟨z0, z1, z2, hcu⟩ | go_keep) (first | (go_at_call 66; refine (HKE.out _).mono ?_; rintro e _ ⟨rfl, rfl⟩) | (go_at_call 67; have hc_ := HBO.out ⟨W0.drew, Below.drew (Below.refl _ _)⟩; refine hc_.mono ?_; clear hc_; rintro e x1 ⟨rfl, hb⟩; have hp1 : Below W0.heap.size W0 x1 := (Below.drew (Below.refl _ _)).trans hb; have k1_0 := bC hp1 z0 zz; have k1_1 := bC hp1 z1 zz; have k1_2 := bC hp1 z2 zz; have k1_3 := bC hp1 hcu hbl'; clear hb) | (go_at_call 68; have hc_ := HTB.out x1 hp1; with_reducible refine hc_.mono ?_; clear hc_; rintro e x2 ⟨vT, rfl, ⟨oT, cT, rfl, hT⟩, hb⟩; have hp2 : Below W0.heap.size W0 x2 := hp1.trans (hb.mono hp1.size); have k2_0 := bC hp2 z0 zz; have k2_1 := bC hp2 z1 zz; have k2_2 := bC hp2 z2 zz; have k2_3 := bC hp2 hcu hbl'; clear hb) | (go_at_call 60; have hc_ := HMO.out x2 hp2 oT cT hT; with_reducible refine hc_.mono ?_; clear hc_; rintro e x3 ⟨rfl, hb⟩; have hp3 : Below W0.heap.size W0 x3 := hp2.trans (hb.mono hp2.size); have k3_0 := bC hp3 z0 zz; have k3_1 := bC hp3 z1 zz; have k3_2 := bC hp3 z2 zz; have k3_3 := bC hp3 hcu hbl'; clear hb))
    have HB3 := hide (HB.out.trans (hp3.mono HB.out.size))
    have HZ3 := hide hp3.size
    clear k1_0 k1_1 k1_2 k1_3 k2_0 k2_1 k2_2 k2_3 hT hp1 hp2 hp3
    go_wp2
    go_loopw [3] (fun iv wr => ∃ i : Nat, i ≤ 1 ∧ iv = .int .i64 (i : Int) ∧ Hid (∀ j, j < i → tabOkB (lll.getD j []) = true) ∧ Hid (Below x3.heap.size x3 wr))
              (fun iv _ => 1 - (intOf iv).toNat)
    case atStart => exact ⟨0, Nat.zero_le _, rfl, fun j hj => absurd hj (Nat.not_lt_zero _), Below.refl _ _⟩
    case round =>
          rename World => wo
          obtain ⟨i, hi', rfl, HOK, HBO1⟩ := hrel
          have hx3 : w.heap.size < x3.heap.size := by have := HZ3.out; omega
          have hbx3 : b < x3.heap.size := by have := HZ3.out; omega
          have y2 := bC HBO1.out k3_2 hx3
          have HBW := hide (HB3.out.trans (HBO1.out.mono HB3.out.size))
          have hso := HBO1.out.size
          by_cases hlt : i < 1
          · skip
            have hlt' : (i : Int) < (1 : Int) := by omega
            have hif : i < lll.length := by rw [← HNN.out]; exact hlt
            obtain ⟨b1, off1, o1, c1, e1, hbl1, hcu1, hru1⟩ := HG.out.at (Nat.le_refl _) i hif
            injection e1 with e1
            injection e1 with e2 e3 e4
            subst e2 e3
            clear e4
            have hci := bC HBW.out hcu1 hbl1
            have HRI := hide hru1
            have HYI := hide (HY.out i hif)
            have HNI := hide (fun h => HNO.out (.inr (.inr (.inr (.inr (.inl ⟨i, hif, h⟩))))))
            have hxi := HX.out i hif
            clear hcu1 hru1
            obtain ⟨ll, hll⟩ : ∃ ll, lll.getD i [] = ll := ⟨_, rfl⟩
            rw [hll] at hci HRI HYI HNI hxi
            have HLL := hide hll
            clear hll
            by_cases h8 : ll.length = 8
            · rw [h8] at hci
              have H8 := hide h8
              clear h8 hxi
              have hbo : b < wo.heap.size := by omega
              have hxo : w.heap.size < wo.heap.size := by omega
              go_wp2
              go_loopw [4] (fun kv wr => ∃ k : Nat, k ≤ 8 ∧ kv = .int .i64 (k : Int) ∧ Hid (∀ q, q < k → pairOkB (ll.getD q []) = true) ∧ wo = wr)
                    (fun kv _ => 8 - (intOf kv).toNat)
              case atStart => exact ⟨0, Nat.zero_le _, rfl, fun j hj => absurd hj (Nat.not_lt_zero _), rfl⟩
              case round =>
                obtain ⟨k, hk', rfl, HPK, rfl⟩ := hrel
                by_cases hlk : k < 8
                · skip
                  have hlk' : (k : Int) < 8 := by omega
                  obtain ⟨b2, off2, o9, c9, rfl, hbl2, hc9, hr9⟩ := ((HRI.out.kept HBW.out (Nat.le_refl _)).le HBW.out.size).at (Nat.le_refl _) k (by rw [H8.out]; exact hlk)
                  have HLP := hide (l4pair_any o9 c9 (ll.getD k []) wo hr9 (HYI.out k (by rw [H8.out]; exact hlk)))
                  have HNK := hide (fun h => HNI.out (tabOk_no hlk h))
                  have HPN := hide (fun (h : pairOkB (ll.getD k []) = true) => fun j (hj : j < k + 1) => (show pairOkB (ll.getD j []) = true from (Nat.lt_succ_iff_lt_or_eq.1 hj).elim (fun h' => HPK.out j h') (fun h' => h' ▸ h)))
                  clear hr9
                  obtain ⟨row, hrow⟩ : ∃ r, ll.getD k [] = r := ⟨_, rfl⟩
                  rw [hrow] at hc9 HLP HNK HPN
                  clear hrow
                  obtain ⟨rl, hrl⟩ : ∃ r, row.length = r := ⟨_, rfl⟩
                  rw [hrl] at hc9 HLP
                  clear hrl
                  cases hp : pairOkB row with
                  | false =>
                    have hAf := HNK.out hp
                    rw [hp] at HLP
                    clear HPN HNK HNI HNO HMV HYS
                    subst hAf
                    go_wp2_with fail
                    refine HLP.out.mono ?_
                    rintro e _ ⟨rfl, rfl⟩
                    go_wp2
                    go_ret
                    exact ⟨rfl, HBW.out⟩
                  | true =>
                    have HPP := hide (HPN.out hp)
                    rw [hp] at HLP
                    clear HPN HNK hp
                    go_wp2_with fail
                    refine HLP.out.mono ?_
                    rintro e _ ⟨rfl, rfl⟩
                    go_wp2
                    go_roundw
                    case rel => exact ⟨k + 1, by omega, by go_num, HPP.out, (by first | rfl | trivial)⟩
                    case measure => simp [intOf]; omega
                · skip
                  have e : k = 8 := by omega
                  subst e
                  have HTO := hide (tabOk_yes H8.out HPK.out)
                  go_wp2
                  go_roundw
                  case rel => exact ⟨i + 1, by omega, by go_num, (fun j hj => (Nat.lt_succ_iff_lt_or_eq.1 hj).elim (fun h' => HOK.out j h') (fun h' => by rw [h', HLL.out]; exact HTO.out)), HBO1.out⟩
                  case measure => simp [intOf]; omega
            · have hAf := HNI.out (show tabOkB ll = false by unfold tabOkB; rw [decide_eq_false h8, Bool.false_and])
              have h8' : ((ll.length : Int) == 8) = false := beq_eq_false_iff_ne.2 (by omega)
              have h8n : ((ll.length : Int) != 8) = true := by simp [bne, h8']
              clear HNI HNO HMV HYS
              subst hAf
              have hbo : b < wo.heap.size := by omega
              generalize ll.length = m at *
              go_wp2
              go_ret
              exact ⟨rfl, HBW.out⟩
          · skip
            have e : i = 1 := by omega
            subst e
            have hAt := HYS.out HK.out HBK.out (by show 1 ≤ lll.length; rw [← HNN.out]; exact h1n) (by show lll.length ≤ 3; rw [← HNN.out]; exact h3n) (fun j hj => HOK.out j (by rw [HNN.out]; exact hj)) (by first | rfl | trivial)
            clear HNO HMV HYS
            subst hAt
            go_wp2
            go_ret
            exact ⟨rfl, HBW.out⟩
  · have hAf : A = false := by (cases A with | false => rfl | true => exact absurd (HMV.out rfl) hr0)
    have hr0' : (r == 0) = false := beq_eq_false_iff_ne.2 hr0
    have hr1' : (r != 0) = true := by simp [bne, hr0']
    clear HMV HNO HYS
    subst hAf
    go_enter Try.func20, Try.ntmps20
    go_wp2
    go_region_held3 (fun w' => w'.cell? ⟨w.heap.size, 0, none⟩ = some (.int .i64 key) ∧ w'.cell? ⟨w.heap.size, 1, none⟩ = some (.slice o l.length cap) ∧ w'.cell? ⟨w.heap.size, 2, none⟩ = some (.slice (some ⟨b, off, none⟩) 1 cR) ∧ w'.cell? ⟨b, off, none⟩ = some (.slice o' m0 c')) (first | with_reducible exact ⟨k3_0, k3_1, k3_2, k3_3⟩ | with_reducible exact ⟨k2_0, k2_1, k2_2, k2_3⟩ | with_reducible exact ⟨k1_0, k1_1, k1_2, k1_3⟩ | with_reducible exact ⟨z0, z1, z2, hcu⟩ | go_keep) (first | (go_at_call 66; refine (HKE.out _).mono ?_; rintro e _ ⟨rfl, rfl⟩) | (go_at_call 67; have hc_ := HBO.out ⟨W0.drew, Below.drew (Below.refl _ _)⟩; refine hc_.mono ?_; clear hc_; rintro e x1 ⟨rfl, hb⟩; have hp1 : Below W0.heap.size W0 x1 := (Below.drew (Below.refl _ _)).trans hb; have k1_0 := bC hp1 z0 zz; have k1_1 := bC hp1 z1 zz; have k1_2 := bC hp1 z2 zz; have k1_3 := bC hp1 hcu hbl'; clear hb) | (go_at_call 68; have hc_ := HTB.out x1 hp1; with_reducible refine hc_.mono ?_; clear hc_; rintro e x2 ⟨vT, rfl, ⟨oT, cT, rfl, hT⟩, hb⟩; have hp2 : Below W0.heap.size W0 x2 := hp1.trans (hb.mono hp1.size); have k2_0 := bC hp2 z0 zz; have k2_1 := bC hp2 z1 zz; have k2_2 := bC hp2 z2 zz; have k2_3 := bC hp2 hcu hbl'; clear hb) | (go_at_call 60; have hc_ := HMO.out x2 hp2 oT cT hT; with_reducible refine hc_.mono ?_; clear hc_; rintro e x3 ⟨rfl, hb⟩; have hp3 : Below W0.heap.size W0 x3 := hp2.trans (hb.mono hp2.size); have k3_0 := bC hp3 z0 zz; have k3_1 := bC hp3 z1 zz; have k3_2 := bC hp3 z2 zz; have k3_3 := bC hp3 hcu hbl'; clear hb))
    have HB3 := hide (HB.out.trans (hp3.mono HB.out.size))
    clear k1_0 k1_1 k1_2 k1_3 k2_0 k2_1 k2_2 k2_3 hT hp1 hp2 hp3
    go_wp2
    go_ret
    exact ⟨rfl, HB3.out⟩

set_option maxRecDepth 100000 in
set_option maxHeartbeats 16000000 in
theorem poolOk_2 (key : Int) (o : Option Addr) (cap : Nat) (l : List Bk) (oR : Option Addr) (cR : Nat) (lll : List (List (List Int))) (hnn : 2 = lll.length) (w : World) (hR : RdK w.heap.size w o l) (hG : RiR 0 w.heap.size w (.slice oR 2 cR) lll) (hf : fitPm ⟨key, l, lll⟩) (A : Bool) (hk : keyB key = true) (hbo : backsOkB l = true)
    (hno : keyB key = false ∨ backsOkB l = false ∨ lll.length < 1 ∨ 3 < lll.length ∨ (∃ i, i < lll.length ∧ tabOkB (lll.getD i []) = false) ∨ eqPtB (tabF (lll.getD 0 [])) (newF key l) = false → A = false) (hmv : A = true → movedI (lll.getD 0 []) (newT key l) = 0)
    (hys : keyB key = true → backsOkB l = true → 1 ≤ lll.length → lll.length ≤ 3 → (∀ i, i < lll.length → tabOkB (lll.getD i []) = true) → movedI (lll.getD 0 []) (newT key l) = 0 → A = true) :
    Calls Try.prog 20 #[plv key (.slice o l.length cap) (.slice oR 2 cR)] w fun e w' => e = .returned (.bool A) ∧ Below w.heap.size w w' := by
  have HNN := hide hnn
  obtain ⟨hf1, hf2, hf3, hf4, hf5⟩ := hf
  dsimp only at hf1 hf2 hf3 hf4 hf5
  have HX := hide hf4
  have HY := hide hf5
  have HNO := hide hno
  have HMV := hide hmv
  have HYS := hide hys
  have HK := hide hk
  have HBK := hide hbo
  clear hnn hf4 hf5 hf3 hf2 hno hmv hys hk hbo
  obtain ⟨W0, hW0⟩ : ∃ W, (w.alloc (.cells #[.int .i64 key, .slice o l.length cap, .slice oR 2 cR] 26)) = W := ⟨_, rfl⟩
  have hb_W0 : Below w.heap.size w W0 := by rw [← hW0]; exact ((Below.refl _ _).alloc (Nat.le_refl _) _)
  have HB := hide hb_W0
  clear hb_W0
  have zz : w.heap.size < W0.heap.size := by rw [← hW0]; simp
  have z0 : W0.cell? ⟨w.heap.size, 0, none⟩ = some (.int .i64 key) := by rw [← hW0]; simp [go_sem]
  have z1 : W0.cell? ⟨w.heap.size, 1, none⟩ = some (.slice o l.length cap) := by rw [← hW0]; simp [go_sem]
  have z2 : W0.cell? ⟨w.heap.size, 2, none⟩ = some (.slice oR 2 cR) := by rw [← hW0]; simp [go_sem]
  have HKE := hide (fun W => HK.out ▸ l3key_any key W)
  have HBO := hide (fun p : Grown W0 => HBK.out ▸ specBacksOk_any o cap l p.v ((hR.kept (HB.out.trans (p.b.mono HB.out.size)) (Nat.le_refl _)).le (Nat.le_trans HB.out.size p.b.size)) hf1)
  have HRK := hide hR
  have HG := hide hG
  clear hR hG
  have hw0 := HB.out.size
  have h1n : 1 ≤ 2 := by omega
  have h3n : 2 ≤ 3 := by omega
  have hln0 : 0 < lll.length := by rw [← HNN.out]; omega
  have hl100 := backs_len HBK.out
  obtain ⟨b, off, o', c', rfl, hbl, hcu0, hru0⟩ := HG.out.at (Nat.le_refl _) 0 hln0
  have hcu := bC HB.out hcu0 hbl
  rw [Nat.add_zero] at hcu
  have HRU := hide hru0
  have HX0 := hide (HX.out 0 hln0)
  have HY0 := hide (HY.out 0 hln0)
  have HTB := hide (fun W (hb : Below W0.heap.size W0 W) => l3table_any key o cap l W ((HRK.out.kept (HB.out.trans (hb.mono HB.out.size)) (Nat.le_refl _)).le (Nat.le_trans HB.out.size hb.size)) (by omega) HK.out HBK.out)
  have HMO := hide (fun W (hb : Below W0.heap.size W0 W) oT cT (hT : RdLL W.heap.size W oT (newT key l)) => (newT_len key l) ▸ specMoved_any o' oT c' cT (lll.getD 0 []) (newT key l) W ((HRU.out.kept (HB.out.trans (hb.mono HB.out.size)) (Nat.le_refl _)).le (Nat.le_trans HB.out.size hb.size)) hT HX0.out (by rw [newT_len]; omega) HY0.out (fun i hi => by have := newT_row key l i; omega))
  clear hcu0 hru0
  obtain ⟨m0, hm0⟩ : ∃ m, (lll.getD 0 []).length = m := ⟨_, rfl⟩
  rw [hm0] at hcu HMO
  clear hm0
  obtain ⟨r, hr⟩ : ∃ r, movedI (lll.getD 0 []) (newT key l) = r := ⟨_, rfl⟩
  rw [hr] at HMO HMV HYS
  clear hr
  have hbl' : b < W0.heap.size := by omega
  by_cases hr0 : r = 0
  · subst hr0
    go_enter Try.func20, Try.ntmps20
    go_wp2
    go_region_held3 (fun w' => w'.cell? ⟨w.heap.size, 0, none⟩ = some (.int .i64 key) ∧ w'.cell? ⟨w.heap.size, 1, none⟩ = some (.slice o l.length cap) ∧ w'.cell? ⟨w.heap.size, 2, none⟩ = some (.slice (some ⟨b, off, none⟩) 2 cR) ∧ w'.cell? ⟨b, off, none⟩ = some (.slice o' m0 c')) (first | with_reducible exact ⟨k3_0, k3_1, k3_2, k3_3⟩ | with_reducible exact ⟨k2_0, k2_1, k2_2, k2_3⟩ | with_reducible exact ⟨k1_0, k1_1, k1_2, k1_3⟩ | with_reducible exact ⟨z0, z1, z2, hcu⟩ | go_keep) (first | (go_at_call 66; refine (HKE.out _).mono ?_; rintro e _ ⟨rfl, rfl⟩) | (go_at_call 67; have hc_ := HBO.out ⟨W0.drew, Below.drew (Below.refl _ _)⟩; refine hc_.mono ?_; clear hc_; rintro e x1 ⟨rfl, hb⟩; have hp1 : Below W0.heap.size W0 x1 := (Below.drew (Below.refl _ _)).trans hb; have k1_0 := bC hp1 z0 zz; have k1_1 := bC hp1 z1 zz; have k1_2 := bC hp1 z2 zz; have k1_3 := bC hp1 hcu hbl'; clear hb) | (go_at_call 68; have hc_ := HTB.out x1 hp1; with_reducible refine hc_.mono ?_; clear hc_; rintro e x2 ⟨vT, rfl, ⟨oT, cT, rfl, hT⟩, hb⟩; have hp2 : Below W0.heap.size W0 x2 := hp1.trans (hb.mono hp1.size); have k2_0 := bC hp2 z0 zz; have k2_1 := bC hp2 z1 zz; have k2_2 := bC hp2 z2 zz; have k2_3 := bC hp2 hcu hbl'; clear hb) | (go_at_call 60; have hc_ := HMO.out x2 hp2 oT cT hT; with_reducible refine hc_.mono ?_; clear hc_; rintro e x3 ⟨rfl, hb⟩; have hp3 : Below W0.heap.size W0 x3 := hp2.trans (hb.mono hp2.size); have k3_0 := bC hp3 z0 zz; have k3_1 := bC hp3 z1 zz; have k3_2 := bC hp3 z2 zz; have k3_3 := bC hp3 hcu hbl'; clear hb))
    have HB3 := hide (HB.out.trans (hp3.mono HB.out.size))
    have HZ3 := hide hp3.size
    clear k1_0 k1_1 k1_2 k1_3 k2_0 k2_1 k2_2 k2_3 hT hp1 hp2 hp3
    go_wp2
    go_loopw [3] (fun iv wr => ∃ i : Nat, i ≤ 2 ∧ iv = .int .i64 (i : Int) ∧ Hid (∀ j, j < i → tabOkB (lll.getD j []) = true) ∧ Hid (Below x3.heap.size x3 wr))
              (fun iv _ => 2 - (intOf iv).toNat)
    case atStart => exact ⟨0, Nat.zero_le _, rfl, fun j hj => absurd hj (Nat.not_lt_zero _), Below.refl _ _⟩
    case round =>
          rename World => wo
          obtain ⟨i, hi', rfl, HOK, HBO1⟩ := hrel
          have hx3 : w.heap.size < x3.heap.size := by have := HZ3.out; omega
          have hbx3 : b < x3.heap.size := by have := HZ3.out; omega
          have y2 := bC HBO1.out k3_2 hx3
          have HBW := hide (HB3.out.trans (HBO1.out.mono HB3.out.size))
          have hso := HBO1.out.size
          by_cases hlt : i < 2
          · skip
            have hlt' : (i : Int) < (2 : Int) := by omega
            have hif : i < lll.length := by rw [← HNN.out]; exact hlt
            obtain ⟨b1, off1, o1, c1, e1, hbl1, hcu1, hru1⟩ := HG.out.at (Nat.le_refl _) i hif
            injection e1 with e1
            injection e1 with e2 e3 e4
            subst e2 e3
            clear e4
            have hci := bC HBW.out hcu1 hbl1
            have HRI := hide hru1
            have HYI := hide (HY.out i hif)
            have HNI := hide (fun h => HNO.out (.inr (.inr (.inr (.inr (.inl ⟨i, hif, h⟩))))))
            have hxi := HX.out i hif
            clear hcu1 hru1
            obtain ⟨ll, hll⟩ : ∃ ll, lll.getD i [] = ll := ⟨_, rfl⟩
            rw [hll] at hci HRI HYI HNI hxi
            have HLL := hide hll
            clear hll
            by_cases h8 : ll.length = 8
            · rw [h8] at hci
              have H8 := hide h8
              clear h8 hxi
              have hbo : b < wo.heap.size := by omega
              have hxo : w.heap.size < wo.heap.size := by omega
              go_wp2
              go_loopw [4] (fun kv wr => ∃ k : Nat, k ≤ 8 ∧ kv = .int .i64 (k : Int) ∧ Hid (∀ q, q < k → pairOkB (ll.getD q []) = true) ∧ wo = wr)
                    (fun kv _ => 8 - (intOf kv).toNat)
              case atStart => exact ⟨0, Nat.zero_le _, rfl, fun j hj => absurd hj (Nat.not_lt_zero _), rfl⟩
              case round =>
                obtain ⟨k, hk', rfl, HPK, rfl⟩ := hrel
                by_cases hlk : k < 8
                · skip
                  have hlk' : (k : Int) < 8 := by omega
                  obtain ⟨b2, off2, o9, c9, rfl, hbl2, hc9, hr9⟩ := ((HRI.out.kept HBW.out (Nat.le_refl _)).le HBW.out.size).at (Nat.le_refl _) k (by rw [H8.out]; exact hlk)
                  have HLP := hide (l4pair_any o9 c9 (ll.getD k []) wo hr9 (HYI.out k (by rw [H8.out]; exact hlk)))
                  have HNK := hide (fun h => HNI.out (tabOk_no hlk h))
                  have HPN := hide (fun (h : pairOkB (ll.getD k []) = true) => fun j (hj : j < k + 1) => (show pairOkB (ll.getD j []) = true from (Nat.lt_succ_iff_lt_or_eq.1 hj).elim (fun h' => HPK.out j h') (fun h' => h' ▸ h)))
                  clear hr9
                  obtain ⟨row, hrow⟩ : ∃ r, ll.getD k [] = r := ⟨_, rfl⟩
                  rw [hrow] at hc9 HLP HNK HPN
                  clear hrow
                  obtain ⟨rl, hrl⟩ : ∃ r, row.length = r := ⟨_, rfl⟩
                  rw [hrl] at hc9 HLP
                  clear hrl
                  cases hp : pairOkB row with
                  | false =>
                    have hAf := HNK.out hp
                    rw [hp] at HLP
                    clear HPN HNK HNI HNO HMV HYS
                    subst hAf
                    go_wp2_with fail
                    refine HLP.out.mono ?_
                    rintro e _ ⟨rfl, rfl⟩
                    go_wp2
                    go_ret
                    exact ⟨rfl, HBW.out⟩
                  | true =>
                    have HPP := hide (HPN.out hp)
                    rw [hp] at HLP
                    clear HPN HNK hp
                    go_wp2_with fail
                    refine HLP.out.mono ?_
                    rintro e _ ⟨rfl, rfl⟩
                    go_wp2
                    go_roundw
                    case rel => exact ⟨k + 1, by omega, by go_num, HPP.out, (by first | rfl | trivial)⟩
                    case measure => simp [intOf]; omega
                · skip
                  have e : k = 8 := by omega
                  subst e
                  have HTO := hide (tabOk_yes H8.out HPK.out)
                  go_wp2
                  go_roundw
                  case rel => exact ⟨i + 1, by omega, by go_num, (fun j hj => (Nat.lt_succ_iff_lt_or_eq.1 hj).elim (fun h' => HOK.out j h') (fun h' => by rw [h', HLL.out]; exact HTO.out)), HBO1.out⟩
                  case measure => simp [intOf]; omega
            · have hAf := HNI.out (show tabOkB ll = false by unfold tabOkB; rw [decide_eq_false h8, Bool.false_and])
              have h8' : ((ll.length : Int) == 8) = false := beq_eq_false_iff_ne.2 (by omega)
              have h8n : ((ll.length : Int) != 8) = true := by simp [bne, h8']
              clear HNI HNO HMV HYS
              subst hAf
              have hbo : b < wo.heap.size := by omega
              generalize ll.length = m at *
              go_wp2
              go_ret
              exact ⟨rfl, HBW.out⟩
          · skip
            have e : i = 2 := by omega
            subst e
            have hAt := HYS.out HK.out HBK.out (by show 1 ≤ lll.length; rw [← HNN.out]; exact h1n) (by show lll.length ≤ 3; rw [← HNN.out]; exact h3n) (fun j hj => HOK.out j (by rw [HNN.out]; exact hj)) (by first | rfl | trivial)
            clear HNO HMV HYS
            subst hAt
            go_wp2
            go_ret
            exact ⟨rfl, HBW.out⟩
  · have hAf : A = false := by (cases A with | false => rfl | true => exact absurd (HMV.out rfl) hr0)
    have hr0' : (r == 0) = false := beq_eq_false_iff_ne.2 hr0
    have hr1' : (r != 0) = true := by simp [bne, hr0']
    clear HMV HNO HYS
    subst hAf
    go_enter Try.func20, Try.ntmps20
    go_wp2
    go_region_held3 (fun w' => w'.cell? ⟨w.heap.size, 0, none⟩ = some (.int .i64 key) ∧ w'.cell? ⟨w.heap.size, 1, none⟩ = some (.slice o l.length cap) ∧ w'.cell? ⟨w.heap.size, 2, none⟩ = some (.slice (some ⟨b, off, none⟩) 2 cR) ∧ w'.cell? ⟨b, off, none⟩ = some (.slice o' m0 c')) (first | with_reducible exact ⟨k3_0, k3_1, k3_2, k3_3⟩ | with_reducible exact ⟨k2_0, k2_1, k2_2, k2_3⟩ | with_reducible exact ⟨k1_0, k1_1, k1_2, k1_3⟩ | with_reducible exact ⟨z0, z1, z2, hcu⟩ | go_keep) (first | (go_at_call 66; refine (HKE.out _).mono ?_; rintro e _ ⟨rfl, rfl⟩) | (go_at_call 67; have hc_ := HBO.out ⟨W0.drew, Below.drew (Below.refl _ _)⟩; refine hc_.mono ?_; clear hc_; rintro e x1 ⟨rfl, hb⟩; have hp1 : Below W0.heap.size W0 x1 := (Below.drew (Below.refl _ _)).trans hb; have k1_0 := bC hp1 z0 zz; have k1_1 := bC hp1 z1 zz; have k1_2 := bC hp1 z2 zz; have k1_3 := bC hp1 hcu hbl'; clear hb) | (go_at_call 68; have hc_ := HTB.out x1 hp1; with_reducible refine hc_.mono ?_; clear hc_; rintro e x2 ⟨vT, rfl, ⟨oT, cT, rfl, hT⟩, hb⟩; have hp2 : Below W0.heap.size W0 x2 := hp1.trans (hb.mono hp1.size); have k2_0 := bC hp2 z0 zz; have k2_1 := bC hp2 z1 zz; have k2_2 := bC hp2 z2 zz; have k2_3 := bC hp2 hcu hbl'; clear hb) | (go_at_call 60; have hc_ := HMO.out x2 hp2 oT cT hT; with_reducible refine hc_.mono ?_; clear hc_; rintro e x3 ⟨rfl, hb⟩; have hp3 : Below W0.heap.size W0 x3 := hp2.trans (hb.mono hp2.size); have k3_0 := bC hp3 z0 zz; have k3_1 := bC hp3 z1 zz; have k3_2 := bC hp3 z2 zz; have k3_3 := bC hp3 hcu hbl'; clear hb))
    have HB3 := hide (HB.out.trans (hp3.mono HB.out.size))
    clear k1_0 k1_1 k1_2 k1_3 k2_0 k2_1 k2_2 k2_3 hT hp1 hp2 hp3
    go_wp2
    go_ret
    exact ⟨rfl, HB3.out⟩

set_option maxRecDepth 100000 in
set_option maxHeartbeats 16000000 in
theorem poolOk_3 (key : Int) (o : Option Addr) (cap : Nat) (l : List Bk) (oR : Option Addr) (cR : Nat) (lll : List (List (List Int))) (hnn : 3 = lll.length) (w : World) (hR : RdK w.heap.size w o l) (hG : RiR 0 w.heap.size w (.slice oR 3 cR) lll) (hf : fitPm ⟨key, l, lll⟩) (A : Bool) (hk : keyB key = true) (hbo : backsOkB l = true)
    (hno : keyB key = false ∨ backsOkB l = false ∨ lll.length < 1 ∨ 3 < lll.length ∨ (∃ i, i < lll.length ∧ tabOkB (lll.getD i []) = false) ∨ eqPtB (tabF (lll.getD 0 [])) (newF key l) = false → A = false) (hmv : A = true → movedI (lll.getD 0 []) (newT key l) = 0)
    (hys : keyB key = true → backsOkB l = true → 1 ≤ lll.length → lll.length ≤ 3 → (∀ i, i < lll.length → tabOkB (lll.getD i []) = true) → movedI (lll.getD 0 []) (newT key l) = 0 → A = true) :
    Calls Try.prog 20 #[plv key (.slice o l.length cap) (.slice oR 3 cR)] w fun e w' => e = .returned (.bool A) ∧ Below w.heap.size w w' := by
  have HNN := hide hnn
  obtain ⟨hf1, hf2, hf3, hf4, hf5⟩ := hf
  dsimp only at hf1 hf2 hf3 hf4 hf5
  have HX := hide hf4
  have HY := hide hf5
  have HNO := hide hno
  have HMV := hide hmv
  have HYS := hide hys
  have HK := hide hk
  have HBK := hide hbo
  clear hnn hf4 hf5 hf3 hf2 hno hmv hys hk hbo
  obtain ⟨W0, hW0⟩ : ∃ W, (w.alloc (.cells #[.int .i64 key, .slice o l.length cap, .slice oR 3 cR] 26)) = W := ⟨_, rfl⟩
  have hb_W0 : Below w.heap.size w W0 := by rw [← hW0]; exact ((Below.refl _ _).alloc (Nat.le_refl _) _)
  have HB := hide hb_W0
  clear hb_W0
  have zz : w.heap.size < W0.heap.size := by rw [← hW0]; simp
  have z0 : W0.cell? ⟨w.heap.size, 0, none⟩ = some (.int .i64 key) := by rw [← hW0]; simp [go_sem]
  have z1 : W0.cell? ⟨w.heap.size, 1, none⟩ = some (.slice o l.length cap) := by rw [← hW0]; simp [go_sem]
  have z2 : W0.cell? ⟨w.heap.size, 2, none⟩ = some (.slice oR 3 cR) := by rw [← hW0]; simp [go_sem]
  have HKE := hide (fun W => HK.out ▸ l3key_any key W)
  have HBO := hide (fun p : Grown W0 => HBK.out ▸ specBacksOk_any o cap l p.v ((hR.kept (HB.out.trans (p.b.mono HB.out.size)) (Nat.le_refl _)).le (Nat.le_trans HB.out.size p.b.size)) hf1)
  have HRK := hide hR
  have HG := hide hG
  clear hR hG
  have hw0 := HB.out.size
  have h1n : 1 ≤ 3 := by omega
  have h3n : 3 ≤ 3 := by omega
  have hln0 : 0 < lll.length := by rw [← HNN.out]; omega
  have hl100 := backs_len HBK.out
  obtain ⟨b, off, o', c', rfl, hbl, hcu0, hru0⟩ := HG.out.at (Nat.le_refl _) 0 hln0
  have hcu := bC HB.out hcu0 hbl
  rw [Nat.add_zero] at hcu
  have HRU := hide hru0
  have HX0 := hide (HX.out 0 hln0)
  have HY0 := hide (HY.out 0 hln0)
  have HTB := hide (fun W (hb : Below W0.heap.size W0 W) => l3table_any key o cap l W ((HRK.out.kept (HB.out.trans (hb.mono HB.out.size)) (Nat.le_refl _)).le (Nat.le_trans HB.out.size hb.size)) (by omega) HK.out HBK.out)
  have HMO := hide (fun W (hb : Below W0.heap.size W0 W) oT cT (hT : RdLL W.heap.size W oT (newT key l)) => (newT_len key l) ▸ specMoved_any o' oT c' cT (lll.getD 0 []) (newT key l) W ((HRU.out.kept (HB.out.trans (hb.mono HB.out.size)) (Nat.le_refl _)).le (Nat.le_trans HB.out.size hb.size)) hT HX0.out (by rw [newT_len]; omega) HY0.out (fun i hi => by have := newT_row key l i; omega))
  clear hcu0 hru0
  obtain ⟨m0, hm0⟩ : ∃ m, (lll.getD 0 []).length = m := ⟨_, rfl⟩
  rw [hm0] at hcu HMO
  clear hm0
  obtain ⟨r, hr⟩ : ∃ r, movedI (lll.getD 0 []) (newT key l) = r := ⟨_, rfl⟩
  rw [hr] at HMO HMV HYS
  clear hr
  have hbl' : b < W0.heap.size := by omega
  by_cases hr0 : r = 0
  · subst hr0
    go_enter Try.func20, Try.ntmps20
    go_wp2
    go_region_held3 (fun w' => w'.cell? ⟨w.heap.size, 0, none⟩ = some (.int .i64 key) ∧ w'.cell? ⟨w.heap.size, 1, none⟩ = some (.slice o l.length cap) ∧ w'.cell? ⟨w.heap.size, 2, none⟩ = some (.slice (some ⟨b, off, none⟩) 3 cR) ∧ w'.cell? ⟨b, off, none⟩ = some (.slice o' m0 c')) (first | with_reducible exact ⟨k3_0, k3_1, k3_2, k3_3⟩ | with_reducible exact ⟨k2_0, k2_1, k2_2, k2_3⟩ | with_reducible exact ⟨k1_0, k1_1, k1_2, k1_3⟩ | with_reducible exact ⟨z0, z1, z2, hcu⟩ | go_keep) (first | (go_at_call 66; refine (HKE.out _).mono ?_; rintro e _ ⟨rfl, rfl⟩) | (go_at_call 67; have hc_ := HBO.out ⟨W0.drew, Below.drew (Below.refl _ _)⟩; refine hc_.mono ?_; clear hc_; rintro e x1 ⟨rfl, hb⟩; have hp1 : Below W0.heap.size W0 x1 := (Below.drew (Below.refl _ _)).trans hb; have k1_0 := bC hp1 z0 zz; have k1_1 := bC hp1 z1 zz; have k1_2 := bC hp1 z2 zz; have k1_3 := bC hp1 hcu hbl'; clear hb) | (go_at_call 68; have hc_ := HTB.out x1 hp1; with_reducible refine hc_.mono ?_; clear hc_; rintro e x2 ⟨vT, rfl, ⟨oT, cT, rfl, hT⟩, hb⟩; have hp2 : Below W0.heap.size W0 x2 := hp1.trans (hb.mono hp1.size); have k2_0 := bC hp2 z0 zz; have k2_1 := bC hp2 z1 zz; have k2_2 := bC hp2 z2 zz; have k2_3 := bC hp2 hcu hbl'; clear hb) | (go_at_call 60; have hc_ := HMO.out x2 hp2 oT cT hT; with_reducible refine hc_.mono ?_; clear hc_; rintro e x3 ⟨rfl, hb⟩; have hp3 : Below W0.heap.size W0 x3 := hp2.trans (hb.mono hp2.size); have k3_0 := bC hp3 z0 zz; have k3_1 := bC hp3 z1 zz; have k3_2 := bC hp3 z2 zz; have k3_3 := bC hp3 hcu hbl'; clear hb))
    have HB3 := hide (HB.out.trans (hp3.mono HB.out.size))
    have HZ3 := hide hp3.size
    clear k1_0 k1_1 k1_2 k1_3 k2_0 k2_1 k2_2 k2_3 hT hp1 hp2 hp3
    go_wp2
    go_loopw [3] (fun iv wr => ∃ i : Nat, i ≤ 3 ∧ iv = .int .i64 (i : Int) ∧ Hid (∀ j, j < i → tabOkB (lll.getD j []) = true) ∧ Hid (Below x3.heap.size x3 wr))
              (fun iv _ => 3 - (intOf iv).toNat)
    case atStart => exact ⟨0, Nat.zero_le _, rfl, fun j hj => absurd hj (Nat.not_lt_zero _), Below.refl _ _⟩
    case round =>
          rename World => wo
          obtain ⟨i, hi', rfl, HOK, HBO1⟩ := hrel
          have hx3 : w.heap.size < x3.heap.size := by have := HZ3.out; omega
          have hbx3 : b < x3.heap.size := by have := HZ3.out; omega
          have y2 := bC HBO1.out k3_2 hx3
          have HBW := hide (HB3.out.trans (HBO1.out.mono HB3.out.size))
          have hso := HBO1.out.size
          by_cases hlt : i < 3
          · skip
            have hlt' : (i : Int) < (3 : Int) := by omega
            have hif : i < lll.length := by rw [← HNN.out]; exact hlt
            obtain ⟨b1, off1, o1, c1, e1, hbl1, hcu1, hru1⟩ := HG.out.at (Nat.le_refl _) i hif
            injection e1 with e1
            injection e1 with e2 e3 e4
            subst e2 e3
            clear e4
            have hci := bC HBW.out hcu1 hbl1
            have HRI := hide hru1
            have HYI := hide (HY.out i hif)
            have HNI := hide (fun h => HNO.out (.inr (.inr (.inr (.inr (.inl ⟨i, hif, h⟩))))))
            have hxi := HX.out i hif
            clear hcu1 hru1
            obtain ⟨ll, hll⟩ : ∃ ll, lll.getD i [] = ll := ⟨_, rfl⟩
            rw [hll] at hci HRI HYI HNI hxi
            have HLL := hide hll
            clear hll
            by_cases h8 : ll.length = 8
            · rw [h8] at hci
              have H8 := hide h8
              clear h8 hxi
              have hbo : b < wo.heap.size := by omega
              have hxo : w.heap.size < wo.heap.size := by omega
              go_wp2
              go_loopw [4] (fun kv wr => ∃ k : Nat, k ≤ 8 ∧ kv = .int .i64 (k : Int) ∧ Hid (∀ q, q < k → pairOkB (ll.getD q []) = true) ∧ wo = wr)
                    (fun kv _ => 8 - (intOf kv).toNat)
              case atStart => exact ⟨0, Nat.zero_le _, rfl, fun j hj => absurd hj (Nat.not_lt_zero _), rfl⟩
              case round =>
                obtain ⟨k, hk', rfl, HPK, rfl⟩ := hrel
                by_cases hlk : k < 8
                · skip
                  have hlk' : (k : Int) < 8 := by omega
                  obtain ⟨b2, off2, o9, c9, rfl, hbl2, hc9, hr9⟩ := ((HRI.out.kept HBW.out (Nat.le_refl _)).le HBW.out.size).at (Nat.le_refl _) k (by rw [H8.out]; exact hlk)
                  have HLP := hide (l4pair_any o9 c9 (ll.getD k []) wo hr9 (HYI.out k (by rw [H8.out]; exact hlk)))
                  have HNK := hide (fun h => HNI.out (tabOk_no hlk h))
                  have HPN := hide (fun (h : pairOkB (ll.getD k []) = true) => fun j (hj : j < k + 1) => (show pairOkB (ll.getD j []) = true from (Nat.lt_succ_iff_lt_or_eq.1 hj).elim (fun h' => HPK.out j h') (fun h' => h' ▸ h)))
                  clear hr9
                  obtain ⟨row, hrow⟩ : ∃ r, ll.getD k [] = r := ⟨_, rfl⟩
                  rw [hrow] at hc9 HLP HNK HPN
                  clear hrow
                  obtain ⟨rl, hrl⟩ : ∃ r, row.length = r := ⟨_, rfl⟩
                  rw [hrl] at hc9 HLP
                  clear hrl
                  cases hp : pairOkB row with
                  | false =>
                    have hAf := HNK.out hp
                    rw [hp] at HLP
                    clear HPN HNK HNI HNO HMV HYS
                    subst hAf
                    go_wp2_with fail
                    refine HLP.out.mono ?_
                    rintro e _ ⟨rfl, rfl⟩
                    go_wp2
                    go_ret
                    exact ⟨rfl, HBW.out⟩
                  | true =>
                    have HPP := hide (HPN.out hp)
                    rw [hp] at HLP
                    clear HPN HNK hp
                    go_wp2_with fail
                    refine HLP.out.mono ?_
                    rintro e _ ⟨rfl, rfl⟩
                    go_wp2
                    go_roundw
                    case rel => exact ⟨k + 1, by omega, by go_num, HPP.out, (by first | rfl | trivial)⟩
                    case measure => simp [intOf]; omega
                · skip
                  have e : k = 8 := by omega
                  subst e
                  have HTO := hide (tabOk_yes H8.out HPK.out)
                  go_wp2
                  go_roundw
                  case rel => exact ⟨i + 1, by omega, by go_num, (fun j hj => (Nat.lt_succ_iff_lt_or_eq.1 hj).elim (fun h' => HOK.out j h') (fun h' => by rw [h', HLL.out]; exact HTO.out)), HBO1.out⟩
                  case measure => simp [intOf]; omega
            · have hAf := HNI.out (show tabOkB ll = false by unfold tabOkB; rw [decide_eq_false h8, Bool.false_and])
              have h8' : ((ll.length : Int) == 8) = false := beq_eq_false_iff_ne.2 (by omega)
              have h8n : ((ll.length : Int) != 8) = true := by simp [bne, h8']
              clear HNI HNO HMV HYS
              subst hAf
              have hbo : b < wo.heap.size := by omega
              generalize ll.length = m at *
              go_wp2
              go_ret
              exact ⟨rfl, HBW.out⟩
          · skip
            have e : i = 3 := by omega
            subst e
            have hAt := HYS.out HK.out HBK.out (by show 1 ≤ lll.length; rw [← HNN.out]; exact h1n) (by show lll.length ≤ 3; rw [← HNN.out]; exact h3n) (fun j hj => HOK.out j (by rw [HNN.out]; exact hj)) (by first | rfl | trivial)
            clear HNO HMV HYS
            subst hAt
            go_wp2
            go_ret
            exact ⟨rfl, HBW.out⟩
  · have hAf : A = false := by (cases A with | false => rfl | true => exact absurd (HMV.out rfl) hr0)
    have hr0' : (r == 0) = false := beq_eq_false_iff_ne.2 hr0
    have hr1' : (r != 0) = true := by simp [bne, hr0']
    clear HMV HNO HYS
    subst hAf
    go_enter Try.func20, Try.ntmps20
    go_wp2
    go_region_held3 (fun w' => w'.cell? ⟨w.heap.size, 0, none⟩ = some (.int .i64 key) ∧ w'.cell? ⟨w.heap.size, 1, none⟩ = some (.slice o l.length cap) ∧ w'.cell? ⟨w.heap.size, 2, none⟩ = some (.slice (some ⟨b, off, none⟩) 3 cR) ∧ w'.cell? ⟨b, off, none⟩ = some (.slice o' m0 c')) (first | with_reducible exact ⟨k3_0, k3_1, k3_2, k3_3⟩ | with_reducible exact ⟨k2_0, k2_1, k2_2, k2_3⟩ | with_reducible exact ⟨k1_0, k1_1, k1_2, k1_3⟩ | with_reducible exact ⟨z0, z1, z2, hcu⟩ | go_keep) (first | (go_at_call 66; refine (HKE.out _).mono ?_; rintro e _ ⟨rfl, rfl⟩) | (go_at_call 67; have hc_ := HBO.out ⟨W0.drew, Below.drew (Below.refl _ _)⟩; refine hc_.mono ?_; clear hc_; rintro e x1 ⟨rfl, hb⟩; have hp1 : Below W0.heap.size W0 x1 := (Below.drew (Below.refl _ _)).trans hb; have k1_0 := bC hp1 z0 zz; have k1_1 := bC hp1 z1 zz; have k1_2 := bC hp1 z2 zz; have k1_3 := bC hp1 hcu hbl'; clear hb) | (go_at_call 68; have hc_ := HTB.out x1 hp1; with_reducible refine hc_.mono ?_; clear hc_; rintro e x2 ⟨vT, rfl, ⟨oT, cT, rfl, hT⟩, hb⟩; have hp2 : Below W0.heap.size W0 x2 := hp1.trans (hb.mono hp1.size); have k2_0 := bC hp2 z0 zz; have k2_1 := bC hp2 z1 zz; have k2_2 := bC hp2 z2 zz; have k2_3 := bC hp2 hcu hbl'; clear hb) | (go_at_call 60; have hc_ := HMO.out x2 hp2 oT cT hT; with_reducible refine hc_.mono ?_; clear hc_; rintro e x3 ⟨rfl, hb⟩; have hp3 : Below W0.heap.size W0 x3 := hp2.trans (hb.mono hp2.size); have k3_0 := bC hp3 z0 zz; have k3_1 := bC hp3 z1 zz; have k3_2 := bC hp3 z2 zz; have k3_3 := bC hp3 hcu hbl'; clear hb))
    have HB3 := hide (HB.out.trans (hp3.mono HB.out.size))
    clear k1_0 k1_1 k1_2 k1_3 k2_0 k2_1 k2_2 k2_3 hT hp1 hp2 hp3
    go_wp2
    go_ret
    exact ⟨rfl, HB3.out⟩

set_option maxRecDepth 100000 in
set_option maxHeartbeats 16000000 in
theorem specPoolOk_go (key : Int) (o : Option Addr) (cap : Nat) (l : List Bk) (oR : Option Addr) (cR : Nat) (lll : List (List (List Int))) (n : Nat) (hnn : n = lll.length) (w : World) (hR : RdK w.heap.size w o l) (hG : RiR 0 w.heap.size w (.slice oR n cR) lll) (hf : fitPm ⟨key, l, lll⟩) :
    Calls Try.prog 20 #[plv key (.slice o l.length cap) (.slice oR n cR)] w fun e w' => e = .returned (.bool (poolB ⟨key, l, lll⟩)) ∧ Below w.heap.size w w' := by
  have HNN := hide hnn
  have HFIT := hide hf
  obtain ⟨hf1, hf2, hf3, hf4, hf5⟩ := hf
  dsimp only at hf1 hf2 hf3 hf4 hf5
  rw [← hnn] at hf2
  have HX := hide hf4
  have HY := hide hf5
  clear hnn hf4 hf5 hf3
  have HNO := hide (fun h => poolB_no (m := ⟨key, l, lll⟩) h)
  have HMV := hide (fun h => moved_pool (m := ⟨key, l, lll⟩) h)
  have HYS := hide (fun h1 h2 h3 h4 h5 h6 => pool_rest (m := ⟨key, l, lll⟩) h1 h2 h3 h4 h5 h6)
  obtain ⟨A, hA⟩ : ∃ A, poolB ⟨key, l, lll⟩ = A := ⟨_, rfl⟩
  rw [hA] at HNO HMV HYS ⊢
  dsimp only at HNO HMV HYS
  clear hA
  obtain ⟨W0, hW0⟩ : ∃ W, (w.alloc (.cells #[.int .i64 key, .slice o l.length cap, .slice oR n cR] 26)) = W := ⟨_, rfl⟩
  have hb_W0 : Below w.heap.size w W0 := by rw [← hW0]; exact ((Below.refl _ _).alloc (Nat.le_refl _) _)
  have HB := hide hb_W0
  clear hb_W0
  have zz : w.heap.size < W0.heap.size := by rw [← hW0]; simp
  have z0 : W0.cell? ⟨w.heap.size, 0, none⟩ = some (.int .i64 key) := by rw [← hW0]; simp [go_sem]
  have z1 : W0.cell? ⟨w.heap.size, 1, none⟩ = some (.slice o l.length cap) := by rw [← hW0]; simp [go_sem]
  have z2 : W0.cell? ⟨w.heap.size, 2, none⟩ = some (.slice oR n cR) := by rw [← hW0]; simp [go_sem]
  have G0 := Grown.cell z0 zz
  have G1 := Grown.cell z1 zz
  have G2 := Grown.cell z2 zz
  have HKE := hide (fun W => l3key_any key W)
  have HBO := hide (fun p : Grown W0 => specBacksOk_any o cap l p.v ((hR.kept (HB.out.trans (p.b.mono HB.out.size)) (Nat.le_refl _)).le (Nat.le_trans HB.out.size p.b.size)) hf1)
  have HRK := hide hR
  have HG := hide hG
  clear hR hG
  have hw0 := HB.out.size
  cases hk : keyB key with
  | false =>
    rw [hk] at HKE
    have hAf := HNO.out (.inl hk)
    subst hAf
    go_enter Try.func20, Try.ntmps20
    go_wp2
    (refine wp_region_grown (by kernel_rfl) (by kernel_rfl) ?_; intro hne9; (repeat (go_big_quiet_step (first | (go_at_call 66; exact grown_same _ (HKE.out _)) | (go_at_call 67; exact grown_of _ (HBO.out _))))); (with_reducible refine wpQuiet_nil ?_); intro _ hw9; obtain ⟨pq, hw8⟩ := hw9; subst hw8)
    go_wp2
    go_ret
    exact ⟨rfl, HB.out.trans (pq.b.mono HB.out.size)⟩
  | true =>
    have HK := hide hk
    rw [hk] at HKE
    clear hk
    cases hbo : backsOkB l with
    | false =>
      rw [hbo] at HBO
      have hAf := HNO.out (.inr (.inl hbo))
      subst hAf
      go_enter Try.func20, Try.ntmps20
      go_wp2
      (refine wp_region_grown (by kernel_rfl) (by kernel_rfl) ?_; intro hne9; (repeat (go_big_quiet_step (first | (go_at_call 66; exact grown_same _ (HKE.out _)) | (go_at_call 67; exact grown_of _ (HBO.out _))))); (with_reducible refine wpQuiet_nil ?_); intro _ hw9; obtain ⟨pq, hw8⟩ := hw9; subst hw8)
      go_wp2
      go_ret
      exact ⟨rfl, HB.out.trans (pq.b.mono HB.out.size)⟩
    | true =>
      have HBK := hide hbo
      rw [hbo] at HBO
      clear hbo
      by_cases h1 : (n : Int) < 1
      · skip
        have hAf := HNO.out (.inr (.inr (.inl (show lll.length < 1 by have := HNN.out; omega))))
        subst hAf
        go_enter Try.func20, Try.ntmps20
        go_wp2
        (refine wp_region_grown (by kernel_rfl) (by kernel_rfl) ?_; intro hne9; (repeat (go_big_quiet_step (first | (go_at_call 66; exact grown_same _ (HKE.out _)) | (go_at_call 67; exact grown_of _ (HBO.out _))))); (with_reducible refine wpQuiet_nil ?_); intro _ hw9; obtain ⟨pq, hw8⟩ := hw9; subst hw8)
        go_wp2
        go_ret
        exact ⟨rfl, HB.out.trans (pq.b.mono HB.out.size)⟩
      have hd1 : decide ((n : Int) < 1) = false := decide_eq_false h1
      by_cases h3 : (3 : Int) < (n : Int)
      · skip
        have hAf := HNO.out (.inr (.inr (.inr (.inl (show 3 < lll.length by have := HNN.out; omega)))))
        subst hAf
        go_enter Try.func20, Try.ntmps20
        go_wp2
        (refine wp_region_grown (by kernel_rfl) (by kernel_rfl) ?_; intro hne9; (repeat (go_big_quiet_step (first | (go_at_call 66; exact grown_same _ (HKE.out _)) | (go_at_call 67; exact grown_of _ (HBO.out _))))); (with_reducible refine wpQuiet_nil ?_); intro _ hw9; obtain ⟨pq, hw8⟩ := hw9; subst hw8)
        go_wp2
        go_ret
        exact ⟨rfl, HB.out.trans (pq.b.mono HB.out.size)⟩
      have h1n : 1 ≤ n := by omega
      have h3n : n ≤ 3 := by omega
      have hfit : fitPm ⟨key, l, lll⟩ := HFIT.out
      have hcase : n = 1 ∨ n = 2 ∨ n = 3 := by omega
      rcases hcase with rfl | rfl | rfl
      · exact poolOk_1 key o cap l oR cR lll HNN.out w HRK.out HG.out hfit A HK.out HBK.out HNO.out HMV.out HYS.out
      · exact poolOk_2 key o cap l oR cR lll HNN.out w HRK.out HG.out hfit A HK.out HBK.out HNO.out HMV.out HYS.out
      · exact poolOk_3 key o cap l oR cR lll HNN.out w HRK.out HG.out hfit A HK.out HBK.out HNO.out HMV.out HYS.out

end Go.Proofs.Ytldjaapbkihibaa

/- The program's PoolOk; both by their shape. -/
namespace Go.Proofs.Ytldjaapbkihibaa
open Go.ChangeShapes Go.WideShapes Go.ChangeAt Go.RowKit Go.Joins
set_option linter.unusedVariables false
set_option linter.unusedSimpArgs false


set_option maxRecDepth 100000 in
set_option maxHeartbeats 2000000 in
theorem implPoolOk_go (key : Int) (o : Option Addr) (cap : Nat) (l : List Bk) (oR : Option Addr) (cR : Nat) (lll : List (List (List Int))) (w : World) (hR : RdK w.heap.size w o l) (hG : RiR 0 w.heap.size w (.slice oR lll.length cR) lll) (hf : fitPm ⟨key, l, lll⟩) :
    Calls Try.prog 16 #[plv key (.slice o l.length cap) (.slice oR lll.length cR)] w fun e w' => e = .returned (.bool (poolB ⟨key, l, lll⟩)) ∧ Below w.heap.size w w' := by
  obtain ⟨W0, hW0⟩ : ∃ W, (w.alloc (.cells #[.int .i64 key, .slice o l.length cap, .slice oR lll.length cR] 26)) = W := ⟨_, rfl⟩
  have hb_W0 : Below w.heap.size w W0 := by rw [← hW0]; exact ((Below.refl _ _).alloc (Nat.le_refl _) _)
  have HB := hide hb_W0
  clear hb_W0
  have zz : w.heap.size < W0.heap.size := by rw [← hW0]; simp
  have z0 : W0.cell? ⟨w.heap.size, 0, none⟩ = some (.int .i64 key) := by rw [← hW0]; simp [go_sem]
  have z1 : W0.cell? ⟨w.heap.size, 1, none⟩ = some (.slice o l.length cap) := by rw [← hW0]; simp [go_sem]
  have z2 : W0.cell? ⟨w.heap.size, 2, none⟩ = some (.slice oR lll.length cR) := by rw [← hW0]; simp [go_sem]
  obtain ⟨A, hA⟩ : ∃ A, poolB ⟨key, l, lll⟩ = A := ⟨_, rfl⟩
  rw [hA]
  have HA := hide hA
  clear hA
  have HPF := hide (poolFrom_go key o cap l oR cR lll lll.length rfl W0 ((hR.kept HB.out (Nat.le_refl _)).le HB.out.size) (RiR.mon.go (RiR.stp.go hG (Stp.of (lo := 0) (hi := 0) HB.out) (.inl (Nat.zero_le _))) (Nat.le_refl _) HB.out.size) hf)
  clear hR hG
  go_enter Try.func16, Try.ntmps16
  go_wp2_with fail
  refine HPF.out.mono ?_
  rintro e v1 ⟨vP, rfl, h1, h2, hb⟩
  have HB1 := hide (HB.out.trans (hb.mono HB.out.size))
  clear hb HPF
  dsimp only at h1 h2
  rw [HA.out] at h1 h2 ⊢
  clear HA
  obtain ⟨ky, ob, nb, cb, oq, nq, cq, e9⟩ : ∃ ky ob nb cb oq nq cq, vP = polv ky (.slice ob nb cb) (.slice oq nq cq) := by (cases A with | true => (obtain ⟨o2, c2, e, _⟩ := h1 rfl; exact ⟨_, _, _, _, _, _, _, e⟩) | false => exact ⟨_, _, _, _, _, _, _, h2 rfl⟩)
  subst e9
  clear h1 h2
  go_wp2
  go_ret
  exact ⟨rfl, HB1.out.alloc HB1.out.size _⟩

theorem specPoolOk_sh (v : Value) (m : Pm) (w : World) (hR : RdPm w.heap.size w v m) (hf : fitPm m) :
    Calls Try.prog 20 #[v] w fun e w' => e = .returned (.bool (poolB m)) ∧ Below w.heap.size w w' := by
  obtain ⟨vb, vr, rfl, hb, rr⟩ := hR
  obtain ⟨o, c, rfl, r⟩ := hb.open
  obtain ⟨oR, cR, rfl⟩ := RiR.len rr
  exact specPoolOk_go m.key o c m.l oR cR m.ring m.ring.length rfl w r rr hf

theorem implPoolOk_sh (v : Value) (m : Pm) (w : World) (hR : RdPm w.heap.size w v m) (hf : fitPm m) :
    Calls Try.prog 16 #[v] w fun e w' => e = .returned (.bool (poolB m)) ∧ Below w.heap.size w w' := by
  obtain ⟨vb, vr, rfl, hb, rr⟩ := hR
  obtain ⟨o, c, rfl, r⟩ := hb.open
  obtain ⟨oR, cR, rfl⟩ := RiR.len rr
  exact implPoolOk_go m.key o c m.l oR cR m.ring w r rr hf

end Go.Proofs.Ytldjaapbkihibaa

/- The model's JournalOk. -/
namespace Go.Proofs.Ytldjaapbkihibaa
open Go.ChangeShapes Go.WideShapes Go.ChangeAt Go.RowKit Go.Joins
set_option linter.unusedVariables false
set_option linter.unusedSimpArgs false

/-- The box of a pool whose lists are the call's own. -/
structure PBox (w : World) (base B : Nat) (key : Int) (l : List Bk) (hs : List Hd) (o : Option Addr) (c : Nat) (oR : Option Addr) (cR : Nat) : Prop where
  box : w.heap[B]? = some (.cells #[.int .i64 key, .slice o l.length c, .slice oR hs.length cR] 26 (0, 0))
  backs : ownK w base (.slice o l.length c) l
  ring : ownL layH 37 w base (.slice oR hs.length cR) hs
theorem PBox.kept {w w' : World} {base B : Nat} {key : Int} {l : List Bk} {hs : List Hd} {o oR : Option Addr} {c cR : Nat} (h : PBox w base B key l hs o c oR cR) (hb : Below w.heap.size w w') : PBox w' base B key l hs o c oR cR :=
  ⟨(hb.block B (Array.getElem?_eq_some_iff.1 h.box).1).trans h.box, own_kept h.backs hb, own_kept h.ring hb⟩
/-- The box set anew. -/
theorem PBox.set {w : World} {base B : Nat} {key : Int} {l : List Bk} {hs : List Hd} {o oR : Option Addr} {c n cR : Nat} {z : Array Value} (hB : w.heap[B]? = some (.cells z 26 (0, 0))) (hz : z.size = 3) (h1 : ownK w base (.slice o l.length c) l) (h2 : ownL layH 37 w base (.slice oR n cR) hs) (hn : n = hs.length) : PBox (setP w B (.int .i64 key) (.slice o l.length c) (.slice oR n cR)) base B key l hs o c oR cR := by
  subst hn
  have b1 := box_put hB 0 (.int .i64 key)
  have b2 := box_put b1 1 (.slice o l.length c)
  have b3 := box_put b2 2 (.slice oR hs.length cR)
  refine ⟨?_, own_putB (own_putB (own_putB h1 hB neP4 0 _) b1 neP4 1 _) b2 neP4 2 _, own_putB (own_putB (own_putB h2 hB neP1 0 _) b1 neP1 1 _) b2 neP1 2 _⟩
  rw [b3]
  match z, hz with
  | ⟨[x, y, u]⟩, _ => rfl
theorem capH {w : World} {base : Nat} {o : Option Addr} {n c : Nat} {hs : List Hd} (h : ownL layH 37 w base (.slice o n c) hs) : o = none → c = 0 := fun e => (InRow.cap (InRow.of h)) n c (by rw [e])
theorem setP_below {C : Nat} {w W : World} {B : Nat} (h : Below C w W) (hB : C ≤ B) (x y z : Value) : Below C w (setP W B x y z) := ((h.setCell (p := ⟨B, 0, none⟩) hB _).setCell (p := ⟨B, 1, none⟩) hB _).setCell (p := ⟨B, 2, none⟩) hB _

theorem finJ {cur W : World} {base B : Nat} {key : Int} {m : List Bk} {hs2 : List Hd} {o2 oR2 : Option Addr} {c2 n2 cR2 : Nat} {z0 z1 z2 : Value} (hZ : W.heap[B]? = some (.cells #[z0, z1, z2] 26 (0, 0))) (hx : Below cur.heap.size cur W) (hB : cur.heap.size ≤ B) (h1 : ownK W base (.slice o2 m.length c2) m) (h2 : ownL layH 37 W base (.slice oR2 n2 cR2) hs2) (hn : n2 = hs2.length) (h3 : hs2.length ≤ 3) :
    ∃ B' hs' o' c' oR' cR', Value.pointer (some ⟨B, 0, none⟩) = .pointer (some ⟨B', 0, none⟩) ∧ Value.bool true = .bool true ∧ Hid (PBox (setP W B (.int .i64 key) (.slice o2 m.length c2) (.slice oR2 n2 cR2)) base B' key m hs' o' c' oR' cR') ∧ Hid (Below cur.heap.size cur (setP W B (.int .i64 key) (.slice o2 m.length c2) (.slice oR2 n2 cR2))) ∧ cur.heap.size ≤ B' ∧ Hid (hs'.length ≤ 3) :=
  ⟨B, hs2, o2, c2, oR2, cR2, rfl, rfl, PBox.set hZ rfl h1 h2 hn, setP_below hx hB _ _ _, hB, h3⟩
theorem finJn {cur W : World} {base : Nat} {key : Int} {m : List Bk} {hs2 : List Hd} {o2 oR2 : Option Addr} {c2 n2 cR2 : Nat} (hx : Below cur.heap.size cur W) (h1 : ownK W base (.slice o2 m.length c2) m) (h2 : ownL layH 37 W base (.slice oR2 n2 cR2) hs2) (hn : n2 = hs2.length) (h3 : hs2.length ≤ 3) :
    ∃ B' hs' o' c' oR' cR', Value.pointer (some ⟨W.heap.size, 0, none⟩) = .pointer (some ⟨B', 0, none⟩) ∧ Value.bool true = .bool true ∧ Hid (PBox (W.alloc (.cells #[.int .i64 key, .slice o2 m.length c2, .slice oR2 n2 cR2] 26)) base B' key m hs' o' c' oR' cR') ∧ Hid (Below cur.heap.size cur (W.alloc (.cells #[.int .i64 key, .slice o2 m.length c2, .slice oR2 n2 cR2] 26))) ∧ cur.heap.size ≤ B' ∧ Hid (hs'.length ≤ 3) := by
  subst hn
  exact ⟨W.heap.size, hs2, o2, c2, oR2, cR2, rfl, rfl, ⟨World.alloc_heap_new W _, World.ownsRow.alloc h1 _, World.ownsRow.alloc h2 _⟩, hx.alloc hx.size _, hx.size, h3⟩

set_option maxRecDepth 100000 in
set_option maxHeartbeats 16000000 in
theorem specJ_loop (key safe : Int) (b off cap : Nat) (cs : List Cd) (w : World) (hbl : cs.length ≠ 0 → b < w.heap.size) (hcell : ∀ i, i < cs.length → ∀ j, j < layC.k → w.cell? ⟨b, off + i * layC.k + j, none⟩ = (layC.cs (cs.getD i layC.d))[j]?) (hk : keyB key = true) (hl : cs.length ≤ 100) (h0 : 0 ≤ safe) (h1 : safe ≤ (cs.length : Int)) (ob : Option Addr) (hob : cs.length ≠ 0 → ob = some ⟨b, off, none⟩) :
    Calls Try.prog 23 #[jrn key (.slice ob cs.length cap) safe] w fun e w' => e = .returned (.bool (runTo cs cs.length).isSome) ∧ Below w.heap.size w w' := by
  have hik := l3key_any key
  rw [hk] at hik
  have HC := hide hcell
  have HOB := hide hob
  have HBL := hide hbl
  have q1 : decide (100 < (cs.length : Int)) = false := decide_eq_false (by omega)
  have q2 : decide (safe < 0) = false := decide_eq_false (by omega)
  have q3 : decide ((cs.length : Int) < safe) = false := decide_eq_false (by omega)
  have HN := hide hl
  clear hcell hob hbl h0 h1
  obtain ⟨W0, hW0⟩ : ∃ W, (w.alloc (.cells #[.int .i64 key, .slice ob cs.length cap, .int .i64 safe] 47)) = W := ⟨_, rfl⟩
  have hb_W0 : Below w.heap.size w W0 := by rw [← hW0]; exact ((Below.refl _ _).alloc (Nat.le_refl _) _)
  have HB := hide hb_W0
  clear hb_W0
  have zz : w.heap.size < W0.heap.size := by rw [← hW0]; simp
  have z0 : W0.cell? ⟨w.heap.size, 0, none⟩ = some (.int .i64 key) := by rw [← hW0]; simp [go_sem]
  have z1 : W0.cell? ⟨w.heap.size, 1, none⟩ = some (.slice ob cs.length cap) := by rw [← hW0]; simp [go_sem]
  have z2 : W0.cell? ⟨w.heap.size, 2, none⟩ = some (.int .i64 safe) := by rw [← hW0]; simp [go_sem]
  have HL := hide (l4new_any key W0 hk)
  have hz0 := zz
  go_enter Try.func23, Try.ntmps23
  go_wp2_with (go_at_call 66; refine (hik _).mono ?_; rintro e w9 ⟨rfl, rfl⟩)
  refine (HL.out).mono ?_
  rintro e v1 ⟨gR, rfl, hring, hb⟩
  have HRG := hide hring
  have hs1 := hb.size
  clear hring
  replace z0 := bC hb z0 zz
  replace z1 := bC hb z1 zz
  replace z2 := bC hb z2 zz
  replace zz := Nat.lt_of_lt_of_le zz hb.size
  replace HB := hide (HB.out.trans (hb.mono HB.out.size))
  clear hb
  have z1v := z1
  have zzv := zz
  have HB1W := HB
  obtain ⟨W1, hW1⟩ : ∃ W, (v1.alloc (.cells #[.int .i64 key, .slice none 0 0, .slice (some ⟨gR, 0, none⟩) 1 1] 26)) = W := ⟨_, rfl⟩
  have hb_W1 : Below v1.heap.size v1 W1 := by rw [← hW1]; exact ((Below.refl _ _).alloc (Nat.le_refl _) _)
  replace z0 := bC hb_W1 z0 zz
  replace z1 := bC hb_W1 z1 zz
  replace z2 := bC hb_W1 z2 zz
  replace zz := Nat.lt_of_lt_of_le zz hb_W1.size
  replace HB := hide (HB.out.trans (hb_W1.mono HB.out.size))
  clear hb_W1
  have zp : v1.heap.size < W1.heap.size := by rw [← hW1]; simp
  have p0 : W1.cell? ⟨v1.heap.size, 0, none⟩ = some (.int .i64 key) := by rw [← hW1]; simp [go_sem]
  have p1 : W1.cell? ⟨v1.heap.size, 1, none⟩ = some (.slice none 0 0) := by rw [← hW1]; simp [go_sem]
  have p2 : W1.cell? ⟨v1.heap.size, 2, none⟩ = some (.slice (some ⟨gR, 0, none⟩) 1 1) := by rw [← hW1]; simp [go_sem]
  obtain ⟨o3, c3, hs3, rg1, _, _⟩ := HRG.out
  have hb1 : Below v1.heap.size v1 W1 := by rw [← hW1]; exact (Below.refl _ _).alloc (Nat.le_refl _) _
  have HP : Hid (PBox W1 w.heap.size v1.heap.size key [] [(o3, 8, c3)] none 0 (some ⟨gR, 0, none⟩) 1) := ⟨by rw [← hW1]; exact World.alloc_heap_new v1 _, World.ownsRow_nil _ _ _ _, own_mono (own_kept rg1 hb1) (by omega)⟩
  clear rg1 HRG hb1
  go_wp2
  go_loopw [4] (fun iv wr => ∃ (t : Nat) (l : List Bk) (hs : List Hd) (o : Option Addr) (c : Nat) (oR : Option Addr) (cR : Nat), t ≤ cs.length ∧ iv = .int .i64 (t : Int) ∧ Hid (PBox wr w.heap.size v1.heap.size key l hs o c oR cR) ∧ Hid (runTo cs t = some l) ∧ Hid (hs.length ≤ 3) ∧ Hid (Below v1.heap.size v1 wr))
    (fun iv _ => cs.length - (intOf iv).toNat)
  case atStart => exact ⟨0, [], _, _, _, _, _, Nat.zero_le _, rfl, HP.out, rfl, (Nat.le_of_ble_eq_true rfl), by rw [← hW1]; exact (Below.refl _ _).alloc (Nat.le_refl _) _⟩
  case round =>
    obtain ⟨t, l, hs, o, c, oR, cR, htl, rfl, HPB, HRUN, HS3, HBR⟩ := hrel
    have hv1 := HBR.out.size
    have HBB : Hid (Below w.heap.size w wr) := (HB1W.out).trans (HBR.out.mono HB1W.out.size)
    have y1 := bC HBR.out z1v zzv
    by_cases hlt : t < cs.length
    · skip
      clear z0 z1 z2 zz p0 p1 p2 zp hW0 hW1 HP hik HB
      have hlt' : (t : Int) < (cs.length : Int) := by omega
      have ht0 : (0 : Int) ≤ (t : Int) := by omega
      have hob := HOB.out (by omega)
      have hbl := HBL.out (by omega)
      subst hob
      obtain ⟨hbo, hll⟩ := runTo_ok t l (by omega) HRUN.out
      obtain ⟨c0, c1, c2⟩ := RdL.cmd (C := w.heap.size) HC.out t hlt
      replace c0 := (HBB.out.cell (p := ⟨b, off + t * 3, none⟩) hbl).trans c0
      replace c1 := (HBB.out.cell (p := ⟨b, off + t * 3 + 1, none⟩) hbl).trans c1
      replace c2 := (HBB.out.cell (p := ⟨b, off + t * 3 + 2, none⟩) hbl).trans c2
      have HNX := hide (runTo_succ hlt)
      obtain ⟨x, y, u, hxyu⟩ : ∃ x y u, cs.getD t (0, 0, 0) = (x, y, u) := ⟨_, _, _, rfl⟩
      rw [hxyu] at c0 c1 c2 HNX
      have HST := hide (fun h => run_stop hlt (hxyu ▸ h) : stepO (runTo cs t) (x, y, u) = none → (runTo cs cs.length).isSome = false)
      rw [HRUN.out] at HNX HST
      simp only [stepO, Option.bind_some] at c0 c1 c2 HNX HST
      clear hxyu HRUN
      have HPC := hide (specPoolCmdOk_any x y u)
      cases hc : cmdOkB x y u with
      | false =>
        rw [hc] at HST HPC
        have HEND := hide (HST.out (by simp))
        clear HST HNX
        have HB := HBB
        go_wp2_with fail
        refine (HPC.out _).mono ?_
        rintro e w2 ⟨rfl, hb⟩
        replace HB := hide (HB.out.trans (hb.mono HB.out.size))
        clear hb
        go_wp2
        go_ret
        exact ⟨by rw [HEND.out]; rfl, HB.out⟩
      | true =>
        rw [hc] at HST HNX HPC
        simp only [if_true] at HST HNX
        go_wp2_with fail
        refine (HPC.out _).mono ?_
        rintro e w2 ⟨rfl, hb⟩
        have hs2 := hb.size
        have HPB2 := hide (HPB.out.kept hb)
        have HBR2 := hide (HBR.out.trans (hb.mono hv1))
        have HBB2 := hide (HBB.out.trans (hb.mono HBB.out.size))
        replace y1 := bC hb y1 (show w.heap.size < wr.heap.size by have := HB1W.out.size; omega)
        replace c0 := bC hb c0 (show b < wr.heap.size by have := HBB.out.size; omega)
        replace c1 := bC hb c1 (show b < wr.heap.size by have := HBB.out.size; omega)
        replace c2 := bC hb c2 (show b < wr.heap.size by have := HBB.out.size; omega)
        clear hb HPB HBR HBB HPC
        have p0 : w2.cell? ⟨v1.heap.size, 0, none⟩ = some (.int .i64 key) := bx_cell HPB2.out.box 0 _ rfl
        have p1 : w2.cell? ⟨v1.heap.size, 1, none⟩ = some (.slice o l.length c) := bx_cell HPB2.out.box 1 _ rfl
        have p2 : w2.cell? ⟨v1.heap.size, 2, none⟩ = some (.slice oR hs.length cR) := bx_cell HPB2.out.box 2 _ rfl
        have hpz : v1.heap.size < w2.heap.size := (Array.getElem?_eq_some_iff.1 HPB2.out.box).1
        have hyz : w.heap.size < w2.heap.size := by have := HB1W.out.size; omega
        have hbz : b < w2.heap.size := by omega
        have hzv : v1.heap.size ≤ w2.heap.size := by omega
        have HRB := hide (ownL.rds (L := layK) HPB2.out.backs)
        have HRR := hide (ownL.rds (L := layH) HPB2.out.ring)
        have hcb := own_capK HPB2.out.backs
        have hcr := capH HPB2.out.ring
        cases hdo : doL l x y u with
        | none =>
          rw [hdo] at HST
          have HEND := hide (HST.out rfl)
          have HY := hide (fun W (hb : Below w2.heap.size w2 W) => l4do_no key o c l oR hs.length cR x y u W hbo hdo (by have := HN.out; omega) ((HRB.out.kept hb (Nat.le_refl _)).le hb.size))
          clear HST HNX hdo HRR hcb hcr
          go_upto_region 9 with fail
          go_cut [5, 6] from 47 to 56 (fun s5 s6 wx => s6 = .bool false ∧ Hid (Below w2.heap.size w2 wx))
          case first =>
            go_region_held3 (fun w' => w'.cell? ⟨v1.heap.size, 0, none⟩ = some (.int .i64 key) ∧ w'.cell? ⟨v1.heap.size, 1, none⟩ = some (.slice o l.length c) ∧ w'.cell? ⟨v1.heap.size, 2, none⟩ = some (.slice oR hs.length cR) ∧ w'.cell? ⟨w.heap.size, 1, none⟩ = some (.slice (some ⟨b, off, none⟩) cs.length cap) ∧ w'.cell? ⟨b, off + t * 3, none⟩ = some (.int .i64 x) ∧ w'.cell? ⟨b, off + t * 3 + 1, none⟩ = some (.int .i64 y) ∧ w'.cell? ⟨b, off + t * 3 + 2, none⟩ = some (.int .i64 u)) (first | with_reducible exact ⟨k0_0, k0_1, k0_2, k0_3, k0_4, k0_5, k0_6⟩ | with_reducible exact ⟨p0, p1, p2, y1, c0, c1, c2⟩ | with_reducible exact ⟨s0_0, s0_1, s0_2, s0_3, s0_4, s0_5, s0_6⟩ | go_keep) (first | (go_at_call 74; have hc_ := HY.out w2.drew (Below.drew (Below.refl _ _)); with_reducible refine hc_.mono ?_; clear hc_; rintro e x0 ⟨rfl, hb⟩; have hp0 : Below w2.heap.size w2 x0 := Below.trans (show Below w2.heap.size w2 w2.drew from (Below.drew (Below.refl _ _))) (hb.mono (by simp)); have sp0 := hp0.size; have k0_0 := bC hp0 p0 hpz; have k0_1 := bC hp0 p1 hpz; have k0_2 := bC hp0 p2 hpz; have k0_3 := bC hp0 y1 hyz; have k0_4 := bC hp0 c0 hbz; have k0_5 := bC hp0 c1 hbz; have k0_6 := bC hp0 c2 hbz; clear hb) | (go_at_call 74; have hc_ := HY.out (w2.alloc (.cells #[.int .i64 0, .slice none 0 0, .slice none 0 0] 26)).drew (Below.drew ((Below.refl _ _).alloc (Nat.le_refl _) _)); with_reducible refine hc_.mono ?_; clear hc_; rintro e x0 ⟨rfl, hb⟩; have hp0 : Below w2.heap.size w2 x0 := Below.trans (show Below w2.heap.size w2 (w2.alloc (.cells #[.int .i64 0, .slice none 0 0, .slice none 0 0] 26)).drew from (Below.drew ((Below.refl _ _).alloc (Nat.le_refl _) _))) (hb.mono (by simp)); have sp0 := hp0.size; have k0_0 := bC hp0 p0 hpz; have k0_1 := bC hp0 p1 hpz; have k0_2 := bC hp0 p2 hpz; have k0_3 := bC hp0 y1 hyz; have k0_4 := bC hp0 c0 hbz; have k0_5 := bC hp0 c1 hbz; have k0_6 := bC hp0 c2 hbz; have hZ0 := box_newA hb; have hzl0 := (Array.getElem?_eq_some_iff.1 hZ0).1; have hzc_0 := bx_cell hZ0 0 _ rfl; have hzf_0 := bx_frozen hZ0 0; have hzc_1 := bx_cell hZ0 1 _ rfl; have hzf_1 := bx_frozen hZ0 1; have hzc_2 := bx_cell hZ0 2 _ rfl; have hzf_2 := bx_frozen hZ0 2; have s0_0 : (((x0.setCell ⟨w2.heap.size, 0, none⟩ (.int .i64 key)).setCell ⟨w2.heap.size, 1, none⟩ (.slice o l.length c)).setCell ⟨w2.heap.size, 2, none⟩ (.slice oR hs.length cR)).cell? ⟨v1.heap.size, 0, none⟩ = some (.int .i64 key) := setP_cell k0_0 hpz; have s0_1 : (((x0.setCell ⟨w2.heap.size, 0, none⟩ (.int .i64 key)).setCell ⟨w2.heap.size, 1, none⟩ (.slice o l.length c)).setCell ⟨w2.heap.size, 2, none⟩ (.slice oR hs.length cR)).cell? ⟨v1.heap.size, 1, none⟩ = some (.slice o l.length c) := setP_cell k0_1 hpz; have s0_2 : (((x0.setCell ⟨w2.heap.size, 0, none⟩ (.int .i64 key)).setCell ⟨w2.heap.size, 1, none⟩ (.slice o l.length c)).setCell ⟨w2.heap.size, 2, none⟩ (.slice oR hs.length cR)).cell? ⟨v1.heap.size, 2, none⟩ = some (.slice oR hs.length cR) := setP_cell k0_2 hpz; have s0_3 : (((x0.setCell ⟨w2.heap.size, 0, none⟩ (.int .i64 key)).setCell ⟨w2.heap.size, 1, none⟩ (.slice o l.length c)).setCell ⟨w2.heap.size, 2, none⟩ (.slice oR hs.length cR)).cell? ⟨w.heap.size, 1, none⟩ = some (.slice (some ⟨b, off, none⟩) cs.length cap) := setP_cell k0_3 hyz; have s0_4 : (((x0.setCell ⟨w2.heap.size, 0, none⟩ (.int .i64 key)).setCell ⟨w2.heap.size, 1, none⟩ (.slice o l.length c)).setCell ⟨w2.heap.size, 2, none⟩ (.slice oR hs.length cR)).cell? ⟨b, off + t * 3, none⟩ = some (.int .i64 x) := setP_cell k0_4 hbz; have s0_5 : (((x0.setCell ⟨w2.heap.size, 0, none⟩ (.int .i64 key)).setCell ⟨w2.heap.size, 1, none⟩ (.slice o l.length c)).setCell ⟨w2.heap.size, 2, none⟩ (.slice oR hs.length cR)).cell? ⟨b, off + t * 3 + 1, none⟩ = some (.int .i64 y) := setP_cell k0_5 hbz; have s0_6 : (((x0.setCell ⟨w2.heap.size, 0, none⟩ (.int .i64 key)).setCell ⟨w2.heap.size, 1, none⟩ (.slice o l.length c)).setCell ⟨w2.heap.size, 2, none⟩ (.slice oR hs.length cR)).cell? ⟨b, off + t * 3 + 2, none⟩ = some (.int .i64 u) := setP_cell k0_6 hbz; clear hb))
            all_goals (go_wp2_with fail; go_meet)
            all_goals first
              | with_reducible exact ⟨rfl, hide (setP_below hp0 (Nat.le_refl _) _ _ _)⟩
              | with_reducible exact ⟨rfl, hide (hp0.alloc hp0.size _)⟩
          case rest =>
          obtain ⟨rfl, Hbl⟩ := hcut
          have HBw := hide (HBB2.out.trans (Hbl.out.mono HBB2.out.size))
          go_wp2
          go_ret
          exact ⟨by rw [HEND.out]; rfl, HBw.out⟩
        | some m =>
          rw [hdo] at HNX
          have hs3 := HS3.out
          have HY := hide (fun W (hb : Below w2.heap.size w2 W) => l4do_yes key o c l oR cR hs x y u m W hk hbo hc hdo (by have := HN.out; omega) ((HRB.out.kept hb (Nat.le_refl _)).le hb.size) ((HRR.out.kept hb (Nat.le_refl _)).le hb.size) hcr hs3)
          clear HST hdo hc HRB HRR hcb
          go_upto_region 9 with fail
          go_cut [5, 6] from 47 to 56 (fun s5 s6 wx => ∃ B hs' o' c' oR' cR', s5 = .pointer (some ⟨B, 0, none⟩) ∧ s6 = .bool true ∧ Hid (PBox wx w.heap.size B key m hs' o' c' oR' cR') ∧ Hid (Below w2.heap.size w2 wx) ∧ w2.heap.size ≤ B ∧ Hid (hs'.length ≤ 3))
          case first =>
            go_region_held3 (fun w' => w'.cell? ⟨v1.heap.size, 0, none⟩ = some (.int .i64 key) ∧ w'.cell? ⟨v1.heap.size, 1, none⟩ = some (.slice o l.length c) ∧ w'.cell? ⟨v1.heap.size, 2, none⟩ = some (.slice oR hs.length cR) ∧ w'.cell? ⟨w.heap.size, 1, none⟩ = some (.slice (some ⟨b, off, none⟩) cs.length cap) ∧ w'.cell? ⟨b, off + t * 3, none⟩ = some (.int .i64 x) ∧ w'.cell? ⟨b, off + t * 3 + 1, none⟩ = some (.int .i64 y) ∧ w'.cell? ⟨b, off + t * 3 + 2, none⟩ = some (.int .i64 u)) (first | with_reducible exact ⟨k0_0, k0_1, k0_2, k0_3, k0_4, k0_5, k0_6⟩ | with_reducible exact ⟨p0, p1, p2, y1, c0, c1, c2⟩ | with_reducible exact ⟨s0_0, s0_1, s0_2, s0_3, s0_4, s0_5, s0_6⟩ | go_keep) (first | (go_at_call 74; have hc_ := HY.out w2.drew (Below.drew (Below.refl _ _)); with_reducible refine hc_.mono ?_; clear hc_; rintro e x0 ⟨o2, d2, oR2, n2, dR2, o3, d3, hs3, rfl, hn2, ow2, owR, _, _, hb⟩; have hp0 : Below w2.heap.size w2 x0 := Below.trans (show Below w2.heap.size w2 w2.drew from (Below.drew (Below.refl _ _))) (hb.mono (by simp)); have sp0 := hp0.size; have ow2 := own_mono ow2 (show w.heap.size ≤ _ by (try simp) <;> omega); have owR := own_mono owR (show w.heap.size ≤ _ by (try simp) <;> omega); have hl3 := List.length_take_le 3 ((o3, 8, d3) :: hs); generalize List.take 3 ((o3, 8, d3) :: hs) = hs2 at hn2 owR hl3; subst hn2; have k0_0 := bC hp0 p0 hpz; have k0_1 := bC hp0 p1 hpz; have k0_2 := bC hp0 p2 hpz; have k0_3 := bC hp0 y1 hyz; have k0_4 := bC hp0 c0 hbz; have k0_5 := bC hp0 c1 hbz; have k0_6 := bC hp0 c2 hbz; clear hb) | (go_at_call 74; have hc_ := HY.out (w2.alloc (.cells #[.int .i64 0, .slice none 0 0, .slice none 0 0] 26)).drew (Below.drew ((Below.refl _ _).alloc (Nat.le_refl _) _)); with_reducible refine hc_.mono ?_; clear hc_; rintro e x0 ⟨o2, d2, oR2, n2, dR2, o3, d3, hs3, rfl, hn2, ow2, owR, _, _, hb⟩; have hp0 : Below w2.heap.size w2 x0 := Below.trans (show Below w2.heap.size w2 (w2.alloc (.cells #[.int .i64 0, .slice none 0 0, .slice none 0 0] 26)).drew from (Below.drew ((Below.refl _ _).alloc (Nat.le_refl _) _))) (hb.mono (by simp)); have sp0 := hp0.size; have ow2 := own_mono ow2 (show w.heap.size ≤ _ by (try simp) <;> omega); have owR := own_mono owR (show w.heap.size ≤ _ by (try simp) <;> omega); have hl3 := List.length_take_le 3 ((o3, 8, d3) :: hs); generalize List.take 3 ((o3, 8, d3) :: hs) = hs2 at hn2 owR hl3; subst hn2; have k0_0 := bC hp0 p0 hpz; have k0_1 := bC hp0 p1 hpz; have k0_2 := bC hp0 p2 hpz; have k0_3 := bC hp0 y1 hyz; have k0_4 := bC hp0 c0 hbz; have k0_5 := bC hp0 c1 hbz; have k0_6 := bC hp0 c2 hbz; have hZ0 := box_newA hb; have hzl0 := (Array.getElem?_eq_some_iff.1 hZ0).1; have hzc_0 := bx_cell hZ0 0 _ rfl; have hzf_0 := bx_frozen hZ0 0; have hzc_1 := bx_cell hZ0 1 _ rfl; have hzf_1 := bx_frozen hZ0 1; have hzc_2 := bx_cell hZ0 2 _ rfl; have hzf_2 := bx_frozen hZ0 2; have s0_0 : (((x0.setCell ⟨w2.heap.size, 0, none⟩ (.int .i64 key)).setCell ⟨w2.heap.size, 1, none⟩ (.slice o2 m.length d2)).setCell ⟨w2.heap.size, 2, none⟩ (.slice oR2 hs2.length dR2)).cell? ⟨v1.heap.size, 0, none⟩ = some (.int .i64 key) := setP_cell k0_0 hpz; have s0_1 : (((x0.setCell ⟨w2.heap.size, 0, none⟩ (.int .i64 key)).setCell ⟨w2.heap.size, 1, none⟩ (.slice o2 m.length d2)).setCell ⟨w2.heap.size, 2, none⟩ (.slice oR2 hs2.length dR2)).cell? ⟨v1.heap.size, 1, none⟩ = some (.slice o l.length c) := setP_cell k0_1 hpz; have s0_2 : (((x0.setCell ⟨w2.heap.size, 0, none⟩ (.int .i64 key)).setCell ⟨w2.heap.size, 1, none⟩ (.slice o2 m.length d2)).setCell ⟨w2.heap.size, 2, none⟩ (.slice oR2 hs2.length dR2)).cell? ⟨v1.heap.size, 2, none⟩ = some (.slice oR hs.length cR) := setP_cell k0_2 hpz; have s0_3 : (((x0.setCell ⟨w2.heap.size, 0, none⟩ (.int .i64 key)).setCell ⟨w2.heap.size, 1, none⟩ (.slice o2 m.length d2)).setCell ⟨w2.heap.size, 2, none⟩ (.slice oR2 hs2.length dR2)).cell? ⟨w.heap.size, 1, none⟩ = some (.slice (some ⟨b, off, none⟩) cs.length cap) := setP_cell k0_3 hyz; have s0_4 : (((x0.setCell ⟨w2.heap.size, 0, none⟩ (.int .i64 key)).setCell ⟨w2.heap.size, 1, none⟩ (.slice o2 m.length d2)).setCell ⟨w2.heap.size, 2, none⟩ (.slice oR2 hs2.length dR2)).cell? ⟨b, off + t * 3, none⟩ = some (.int .i64 x) := setP_cell k0_4 hbz; have s0_5 : (((x0.setCell ⟨w2.heap.size, 0, none⟩ (.int .i64 key)).setCell ⟨w2.heap.size, 1, none⟩ (.slice o2 m.length d2)).setCell ⟨w2.heap.size, 2, none⟩ (.slice oR2 hs2.length dR2)).cell? ⟨b, off + t * 3 + 1, none⟩ = some (.int .i64 y) := setP_cell k0_5 hbz; have s0_6 : (((x0.setCell ⟨w2.heap.size, 0, none⟩ (.int .i64 key)).setCell ⟨w2.heap.size, 1, none⟩ (.slice o2 m.length d2)).setCell ⟨w2.heap.size, 2, none⟩ (.slice oR2 hs2.length dR2)).cell? ⟨b, off + t * 3 + 2, none⟩ = some (.int .i64 u) := setP_cell k0_6 hbz; clear hb))
            all_goals (go_wp2_with fail; go_meet)
            all_goals first
              | with_reducible exact finJ hZ0 hp0 (Nat.le_refl _) ow2 owR rfl hl3
              | with_reducible exact finJn hp0 ow2 owR rfl hl3
          case rest =>
          obtain ⟨B, hs', o', c', oR', cR', rfl, rfl, HPX, Hbl, hB1, HS3'⟩ := hcut
          have HBw := hide (HBB2.out.trans (Hbl.out.mono HBB2.out.size))
          have hbp := (Hbl.out.block v1.heap.size hpz).trans HPB2.out.box
          have x0 := bx_cell HPX.out.box 0 _ rfl
          have x1 := bx_cell HPX.out.box 1 _ rfl
          have x2 := bx_cell HPX.out.box 2 _ rfl
          have d0 := bx_cell hbp 0 _ rfl
          have d1 := bx_cell hbp 1 _ rfl
          have d2 := bx_cell hbp 2 _ rfl
          have f0 := bx_frozen hbp 0
          have f1 := bx_frozen hbp 1
          have f2 := bx_frozen hbp 2
          have HPN := hide (PBox.set (key := key) hbp rfl HPX.out.backs HPX.out.ring rfl)
          have HBN := hide (setP_below (HBR2.out.trans (Hbl.out.mono hzv)) (Nat.le_refl _) (.int .i64 key) (.slice o' m.length c') (.slice oR' hs'.length cR'))
          clear p0 p1 p2 y1 c0 c1 c2 hbp
          go_wp2
          go_roundw
          case rel => exact ⟨t + 1, m, hs', o', c', oR', cR', by omega, by go_num, HPN.out, HNX.out, HS3'.out, HBN.out⟩
          case measure => simp [intOf]; omega
    · have e : t = cs.length := by omega
      subst e
      have HRS := hide (show (runTo cs cs.length).isSome = true by rw [HRUN.out]; rfl)
      clear z0 z1 z2 zz p0 p1 p2 zp hW0 hW1 HP hik HB HRUN
      have hlz : ¬ ((cs.length : Int) < (cs.length : Int)) := by omega
      go_wp2
      go_ret
      exact ⟨by rw [HRS.out]; rfl, HBB.out⟩

set_option maxRecDepth 100000 in
set_option maxHeartbeats 4000000 in
theorem specJournalOk_any (key safe : Int) (o : Option Addr) (cap : Nat) (cs : List Cd) (w : World) (hR : RdC w.heap.size w o cs) (hl : cs.length ≤ 1048576) :
    Calls Try.prog 23 #[jrn key (.slice o cs.length cap) safe] w fun e w' => e = .returned (.bool (journalB key cs safe)) ∧ Below w.heap.size w w' := by
  by_cases hall : keyB key = true ∧ cs.length ≤ 100 ∧ 0 ≤ safe ∧ safe ≤ (cs.length : Int)
  · obtain ⟨h1, h2, h3, h4⟩ := hall
    have e : journalB key cs safe = (runTo cs cs.length).isSome := by unfold journalB; simp [h1, h2, h3, h4]
    rw [e]
    rcases hR with hR | ⟨b, off, rfl, hbl, hcell⟩
    · subst hR
      exact specJ_loop key safe 0 0 cap [] w (fun h => absurd rfl h) (fun i hi => absurd hi (Nat.not_lt_zero _)) h1 h2 h3 h4 o (fun h => absurd rfl h)
    · exact specJ_loop key safe b off cap cs w (fun _ => hbl) hcell h1 h2 h3 h4 _ (fun _ => rfl)
  have HE := hide (show journalB key cs safe = false by
    rw [Bool.eq_false_iff]; intro h; unfold journalB at h; simp only [Bool.and_eq_true, decide_eq_true_eq] at h; exact hall ⟨h.1.1.1.1, h.1.1.1.2, h.1.1.2, h.1.2⟩)
  have hik := l3key_any key
  obtain ⟨W0, hW0⟩ : ∃ W, (w.alloc (.cells #[.int .i64 key, .slice o cs.length cap, .int .i64 safe] 47)) = W := ⟨_, rfl⟩
  have hb_W0 : Below w.heap.size w W0 := by rw [← hW0]; exact ((Below.refl _ _).alloc (Nat.le_refl _) _)
  have HB := hide hb_W0
  clear hb_W0
  have zz : w.heap.size < W0.heap.size := by rw [← hW0]; simp
  have z0 : W0.cell? ⟨w.heap.size, 0, none⟩ = some (.int .i64 key) := by rw [← hW0]; simp [go_sem]
  have z1 : W0.cell? ⟨w.heap.size, 1, none⟩ = some (.slice o cs.length cap) := by rw [← hW0]; simp [go_sem]
  have z2 : W0.cell? ⟨w.heap.size, 2, none⟩ = some (.int .i64 safe) := by rw [← hW0]; simp [go_sem]
  clear hR
  cases hk : keyB key with
  | false =>
    rw [hk] at hik
    clear hall
    go_enter Try.func23, Try.ntmps23
    go_wp2_with (go_at_call 66; refine (hik _).mono ?_; rintro e w9 ⟨rfl, rfl⟩)
    go_ret
    exact ⟨by rw [HE.out]; rfl, HB.out⟩
  | true =>
    by_cases h2 : cs.length ≤ 100
    · by_cases h3 : 0 ≤ safe
      · by_cases h4 : safe ≤ (cs.length : Int)
        · exact absurd ⟨hk, h2, h3, h4⟩ hall
        · skip
          rw [hk] at hik
          have q1 : decide (100 < (cs.length : Int)) = false := decide_eq_false (by omega)
          have q2 : decide (safe < 0) = false := decide_eq_false (by omega)
          have q3 : decide ((cs.length : Int) < safe) = true := decide_eq_true (by omega)
          clear hall
          go_enter Try.func23, Try.ntmps23
          go_wp2_with (go_at_call 66; refine (hik _).mono ?_; rintro e w9 ⟨rfl, rfl⟩)
          go_ret
          exact ⟨by rw [HE.out]; rfl, HB.out⟩
      · skip
        rw [hk] at hik
        have q1 : decide (100 < (cs.length : Int)) = false := decide_eq_false (by omega)
        have q2 : decide (safe < 0) = true := decide_eq_true (by omega)
        clear hall
        go_enter Try.func23, Try.ntmps23
        go_wp2_with (go_at_call 66; refine (hik _).mono ?_; rintro e w9 ⟨rfl, rfl⟩)
        go_ret
        exact ⟨by rw [HE.out]; rfl, HB.out⟩
    · skip
      rw [hk] at hik
      have q1 : decide (100 < (cs.length : Int)) = true := decide_eq_true (by omega)
      clear hall
      go_enter Try.func23, Try.ntmps23
      go_wp2_with (go_at_call 66; refine (hik _).mono ?_; rintro e w9 ⟨rfl, rfl⟩)
      go_ret
      exact ⟨by rw [HE.out]; rfl, HB.out⟩

theorem specJournalOk_sh (v : Value) (m : Jm) (w : World) (hR : RdJm w.heap.size w v m) (hf : fitJm m) :
    Calls Try.prog 23 #[v] w fun e w' => e = .returned (.bool (journalB m.key m.l m.safe)) ∧ Below w.heap.size w w' := by
  obtain ⟨vl, rfl, ⟨o, c, rfl, r⟩⟩ := hR
  exact specJournalOk_any m.key m.safe o c m.l w r hf

end Go.Proofs.Ytldjaapbkihibaa

/- A journal's own copy in the model; Cut, on both sides. -/
namespace Go.Proofs.Ytldjaapbkihibaa
open Go.ChangeShapes Go.WideShapes Go.ChangeAt Go.RowKit Go.Joins
set_option linter.unusedVariables false
set_option linter.unusedSimpArgs false

theorem own_none2 {α : Type} {L : Lay α} (w : World) (e : TypeId) : ownL L e (w.alloc (.cells #[] e)) w.heap.size (.slice (some ⟨w.heap.size, 0, none⟩) 0 0) ([] : List α) := own_none0 w e
def cutN (m : Jm) (keep : Int) : Int := if keep < (m.l.length : Int) - m.safe then m.safe + keep else m.l.length
def jm0 : Jm := ⟨0, [], 0⟩
def cutB (m : Jm) (keep : Int) : Bool := journalB m.key m.l m.safe && decide (0 ≤ keep)
/-- What Cut tells. -/
def cutM (m : Jm) (keep : Int) : Jm := if cutB m keep = true then ⟨m.key, m.l.take (cutN m keep).toNat, cutN m keep⟩ else jm0
theorem journal_facts {key : Int} {cs : List Cd} {safe : Int} (h : journalB key cs safe = true) : keyB key = true ∧ cs.length ≤ 100 ∧ 0 ≤ safe ∧ safe ≤ (cs.length : Int) := by
  unfold journalB at h
  simp only [Bool.and_eq_true, decide_eq_true_eq] at h
  exact ⟨h.1.1.1.1, h.1.1.1.2, h.1.1.2, h.1.2⟩
theorem cutM_fit {m : Jm} (keep : Int) (h : fitJm m) : (cutM m keep).l.length ≤ 1048576 := by
  unfold cutM
  unfold fitJm at h
  split
  · simp; omega
  · decide
theorem rdC_take {C : Nat} {w : World} {o : Option Addr} {l : List Cd} (n : Nat) (h : RdC C w o l) : RdC C w o (l.take n) := by
  rcases h with h | ⟨b, off, ho, hlt, r⟩
  · left; rw [h]; simp
  · refine .inr ⟨b, off, ho, hlt, fun i hi j hj => ?_⟩
    have h1 : i < n := by simp at hi; omega
    have h2 : i < l.length := by simp at hi; omega
    rw [r i h2 j hj]
    simp [List.getD_eq_getElem?_getD, List.getElem?_take, h1]

/-- A journal whose list has room for itself; one of nothing has none. -/
def roomJm (v : Value) : Prop := ∃ k o n c s, v = jrn k (.slice o n c) s ∧ n ≤ c ∧ (o = none → c = 0)
theorem InJm.room {lo hi : Nat} {w : World} {v : Value} {m : Jm} (h : InJm lo hi w v m) : roomJm v := by
  obtain ⟨vl, e, h1⟩ := h
  rcases h1.1.2 with ⟨e1, e2⟩ | ⟨g, cap, cur, e1, hb, hc, h4, h5, h6, h7⟩
  · exact ⟨_, none, 0, 0, _, by rw [e, e1], Nat.le_refl _, fun _ => rfl⟩
  · exact ⟨_, some ⟨g, 0, none⟩, m.l.length, cap, _, by rw [e, e1], h4, fun h => by cases h⟩
theorem roomJm.two {k s : Int} {o : Option Addr} {n c : Nat} (h : roomJm (jrn k (.slice o n c) s)) : n ≤ c ∧ (o = none → c = 0) := by
  obtain ⟨k', o', n', c', s', e, h1, h2⟩ := h
  injection e with e
  simp at e
  obtain ⟨_, ⟨e2, e3, e4⟩, _⟩ := e
  subst e2 e3 e4
  exact ⟨h1, h2⟩
def cutI (l : List Cd) (safe keep : Int) : Int := if keep < (l.length : Int) - safe then safe + keep else l.length
theorem own_putJ {w : World} {base s n : Nat} {v : Value} {xs : List Value} {B : Nat} {c : Array Value} (h : w.ownsRow base 28 s v n xs) (hB : w.heap[B]? = some (.cells c 47 (0, 0))) (j : Nat) (u : Value) : (w.setCell ⟨B, j, none⟩ u).ownsRow base 28 s v n xs :=
  World.ownsRow.kept h (grown_set w B j u) (own_box h hB (by decide))
theorem finC {cur W : World} {B : Nat} {key : Int} {o2 : Option Addr} {n c2 : Nat} {l : List Cd} {z0 z1 z2 : Value} (hZ : W.heap[B]? = some (.cells #[z0, z1, z2] 47 (0, 0))) (hx : Below cur.heap.size cur W) (hB : cur.heap.size ≤ B) (ho : ownC W cur.heap.size (.slice o2 n c2) l) :
    ∃ B' o' c', Value.pointer (some ⟨B, 0, none⟩) = .pointer (some ⟨B', 0, none⟩) ∧ Hid ((setP W B (.int .i64 key) (.slice o2 n c2) (.int .i64 0)).heap[B']? = some (.cells #[.int .i64 key, .slice o' n c', .int .i64 0] 47 (0, 0))) ∧ Hid (Below cur.heap.size cur (setP W B (.int .i64 key) (.slice o2 n c2) (.int .i64 0))) ∧ cur.heap.size ≤ B' ∧ Hid (ownC (setP W B (.int .i64 key) (.slice o2 n c2) (.int .i64 0)) cur.heap.size (.slice o' n c') l) := by
  have h1 := box_put hZ 0 (.int .i64 key)
  have h2 := box_put h1 1 (.slice o2 n c2)
  have h3 := box_put h2 2 (.int .i64 0)
  exact ⟨B, o2, c2, rfl, h3, setP_below hx hB _ _ _, hB, own_putJ (own_putJ (own_putJ ho hZ 0 _) h1 1 _) h2 2 _⟩
theorem finCn {cur W : World} {key : Int} {o2 : Option Addr} {n c2 : Nat} {l : List Cd} (hx : Below cur.heap.size cur W) (ho : ownC W cur.heap.size (.slice o2 n c2) l) :
    ∃ B' o' c', Value.pointer (some ⟨W.heap.size, 0, none⟩) = .pointer (some ⟨B', 0, none⟩) ∧ Hid ((W.alloc (.cells #[.int .i64 key, .slice o2 n c2, .int .i64 0] 47)).heap[B']? = some (.cells #[.int .i64 key, .slice o' n c', .int .i64 0] 47 (0, 0))) ∧ Hid (Below cur.heap.size cur (W.alloc (.cells #[.int .i64 key, .slice o2 n c2, .int .i64 0] 47))) ∧ cur.heap.size ≤ B' ∧ Hid (ownC (W.alloc (.cells #[.int .i64 key, .slice o2 n c2, .int .i64 0] 47)) cur.heap.size (.slice o' n c') l) :=
  ⟨W.heap.size, o2, c2, rfl, World.alloc_heap_new W _, hx.alloc hx.size _, hx.size, World.ownsRow.alloc ho _⟩
theorem cloneN_any (o : Option Addr) (cap : Nat) (l : List Cd) (n : Nat) (hnl : n = l.length) (w : World) (hR : RdC w.heap.size w o l) (hn : o = none → cap = 0) (hl : l.length ≤ 1048576) :
    Calls Try.prog 82 #[.slice o n cap] w fun e w' => ∃ o2 c2, e = .returned (.slice o2 n c2) ∧ ownC w' w.heap.size (.slice o2 n c2) l ∧ Below w.heap.size w w' := by
  subst hnl
  refine (cloneCmds_any o cap l w hR hn hl).mono ?_
  rintro e w' ⟨v, rfl, h1, h2⟩
  obtain ⟨o2, c2, e2, _⟩ := ownL.open (L := layC) h1
  subst e2
  exact ⟨o2, c2, rfl, h1, h2⟩

set_option maxRecDepth 100000 in
set_option maxHeartbeats 8000000 in
theorem implCut_nil (key keep : Int) (w : World) (hkp : 0 ≤ keep) (hok : ∀ W : World, Below w.heap.size w W → Calls Try.prog 24 #[jrn key (.slice none 0 0) 0] W fun e w' => e = .returned (.bool true) ∧ Below W.heap.size W w') :
    Calls Try.prog 33 #[jrn key (.slice none 0 0) 0, .int .i64 keep] w fun e w' => ∃ o2 c2, e = .returned (jrn key (.slice o2 0 c2) 0) ∧ ownC w' w.heap.size (.slice o2 0 c2) ([] : List Cd) ∧ Below w.heap.size w w' := by
  obtain ⟨W0, hW0⟩ : ∃ W, ((w.alloc (.cells #[.int .i64 key, .slice none 0 0, .int .i64 0] 47)).alloc (.cells #[.int .i64 0, .slice none 0 0, .int .i64 0] 47)) = W := ⟨_, rfl⟩
  have hb_W0 : Below w.heap.size w W0 := by rw [← hW0]; exact (((Below.refl _ _).alloc (Nat.le_refl _) _).alloc (by simp <;> omega) _)
  have HB := hide hb_W0
  clear hb_W0
  have zz : w.heap.size < W0.heap.size := by rw [← hW0]; simp <;> omega
  have z0 : W0.cell? ⟨w.heap.size, 0, none⟩ = some (.int .i64 key) := by rw [← hW0]; simp [go_sem]
  have z1 : W0.cell? ⟨w.heap.size, 1, none⟩ = some (.slice none 0 0) := by rw [← hW0]; simp [go_sem]
  have z2 : W0.cell? ⟨w.heap.size, 2, none⟩ = some (.int .i64 0) := by rw [← hW0]; simp [go_sem]
  have zr : w.heap.size + 1 < W0.heap.size := by rw [← hW0]; simp
  have r0 : W0.cell? ⟨w.heap.size + 1, 0, none⟩ = some (.int .i64 0) := by rw [← hW0]; simp [go_sem]
  have r1 : W0.cell? ⟨w.heap.size + 1, 1, none⟩ = some (.slice none 0 0) := by rw [← hW0]; simp [go_sem]
  have r2 : W0.cell? ⟨w.heap.size + 1, 2, none⟩ = some (.int .i64 0) := by rw [← hW0]; simp [go_sem]
  have fr0 : W0.frozen? ⟨w.heap.size + 1, 0, none⟩ = false := by rw [← hW0]; simp [go_sem]
  have fr1 : W0.frozen? ⟨w.heap.size + 1, 1, none⟩ = false := by rw [← hW0]; simp [go_sem]
  have fr2 : W0.frozen? ⟨w.heap.size + 1, 2, none⟩ = false := by rw [← hW0]; simp [go_sem]
  have hzr := zr
  have HOK := hide (hok W0 HB.out)
  clear hok
  have hkd : ¬ (keep < 0) := by omega
  have hkd2 : decide (keep < 0) = false := decide_eq_false hkd
  have hmn : min keep 0 = 0 := by omega
  have hkz : ¬ (keep < 0 - 0) := by omega
  have hkz2 : decide (keep < 0) = false := decide_eq_false (by omega)
  go_enter Try.func33, Try.ntmps33
  go_wp2_with fail
  refine (HOK.out).mono ?_
  rintro e v1 ⟨rfl, hb⟩
  have hs1 := hb.size
  replace z0 := bC hb z0 zz
  replace z1 := bC hb z1 zz
  replace z2 := bC hb z2 zz
  replace zz := Nat.lt_of_lt_of_le zz hb.size
  replace r0 := bC hb r0 zr
  replace r1 := bC hb r1 zr
  replace r2 := bC hb r2 zr
  replace fr0 := bF hb fr0 zr
  replace fr1 := bF hb fr1 zr
  replace fr2 := bF hb fr2 zr
  replace zr := Nat.lt_of_lt_of_le zr hb.size
  replace HB := hide (HB.out.trans (hb.mono HB.out.size))
  clear hb
  go_wp2
  go_region_held3 (fun w' => w'.cell? ⟨w.heap.size, 0, none⟩ = some (.int .i64 key) ∧ w'.cell? ⟨w.heap.size, 1, none⟩ = some (.slice none 0 0) ∧ w'.cell? ⟨w.heap.size, 2, none⟩ = some (.int .i64 0)) (first | with_reducible exact ⟨k0, k1, k2⟩ | with_reducible exact ⟨z0, z1, z2⟩ | with_reducible exact ⟨s0, s1, s2⟩ | go_keep) (first | (go_at_call 82; have hc_ := cloneN_any none 0 ([] : List Cd) 0 rfl v1.drew (.inl rfl) (fun _ => rfl) (by simp); with_reducible refine hc_.mono ?_; clear hc_; rintro e x0 ⟨o2, c2, rfl, ow2, hb⟩; have hp0 : Below v1.heap.size v1 x0 := Below.trans (show Below v1.heap.size v1 v1.drew from Below.drew (Below.refl _ _)) (hb.mono (by simp)); have ow2 := own_mono ow2 (show v1.heap.size ≤ _ by simp); have k0 := bC hp0 z0 zz; have k1 := bC hp0 z1 zz; have k2 := bC hp0 z2 zz; have qc0 := bC hp0 r0 zr; have qc1 := bC hp0 r1 zr; have qc2 := bC hp0 r2 zr; have fqc0 := bF hp0 fr0 zr; have fqc1 := bF hp0 fr1 zr; have fqc2 := bF hp0 fr2 zr; have s0 : (((x0.setCell ⟨w.heap.size + 1, 0, none⟩ (.int .i64 key)).setCell ⟨w.heap.size + 1, 1, none⟩ (.slice o2 0 c2)).setCell ⟨w.heap.size + 1, 2, none⟩ (.int .i64 0)).cell? ⟨w.heap.size, 0, none⟩ = some (.int .i64 key) := setP_cell k0 (Nat.lt_succ_self _); have s1 : (((x0.setCell ⟨w.heap.size + 1, 0, none⟩ (.int .i64 key)).setCell ⟨w.heap.size + 1, 1, none⟩ (.slice o2 0 c2)).setCell ⟨w.heap.size + 1, 2, none⟩ (.int .i64 0)).cell? ⟨w.heap.size, 1, none⟩ = some (.slice none 0 0) := setP_cell k1 (Nat.lt_succ_self _); have s2 : (((x0.setCell ⟨w.heap.size + 1, 0, none⟩ (.int .i64 key)).setCell ⟨w.heap.size + 1, 1, none⟩ (.slice o2 0 c2)).setCell ⟨w.heap.size + 1, 2, none⟩ (.int .i64 0)).cell? ⟨w.heap.size, 2, none⟩ = some (.int .i64 0) := setP_cell k2 (Nat.lt_succ_self _); have HO5 := hide ow2; have HP0 := hide hp0; clear hb ow2 hp0))
  have hcz : w.heap.size + 1 < v1.heap.size := zr
  go_wp2
  refine bodyPost_ret (v := jrn key (.slice o2 0 c2) 0) (by simp [results, Try.results33, go_sem, qc0, qc1, qc2]) rfl ⟨o2, c2, rfl, own_mono (own_low (own_low (own_low HO5.out hcz 0 _) hcz 1 _) hcz 2 _) (by omega), setP_below (HB.out.trans (HP0.out.mono HB.out.size)) (Nat.le_succ _) _ _ _⟩

set_option maxRecDepth 100000 in
set_option maxHeartbeats 8000000 in
theorem implCut_go (key safe keep : Int) (ad : Addr) (c : Nat) (l : List Cd) (n : Nat) (w : World) (hR : RdC w.heap.size w (some ad) l) (hlc : l.length ≤ c) (hl : l.length ≤ 100) (h0 : 0 ≤ safe) (h1 : safe ≤ (l.length : Int)) (hkp : 0 ≤ keep) (hn : (n : Int) = cutI l safe keep) (hok : ∀ W : World, Below w.heap.size w W → Calls Try.prog 24 #[jrn key (.slice (some ad) l.length c) safe] W fun e w' => e = .returned (.bool true) ∧ Below W.heap.size W w') :
    Calls Try.prog 33 #[jrn key (.slice (some ad) l.length c) safe, .int .i64 keep] w fun e w' => ∃ o2 c2, e = .returned (jrn key (.slice o2 n c2) (n : Int)) ∧ ownC w' w.heap.size (.slice o2 n c2) (l.take n) ∧ Below w.heap.size w w' := by
  obtain ⟨W0, hW0⟩ : ∃ W, ((w.alloc (.cells #[.int .i64 key, .slice (some ad) l.length c, .int .i64 safe] 47)).alloc (.cells #[.int .i64 0, .slice none 0 0, .int .i64 0] 47)) = W := ⟨_, rfl⟩
  have hb_W0 : Below w.heap.size w W0 := by rw [← hW0]; exact (((Below.refl _ _).alloc (Nat.le_refl _) _).alloc (by simp <;> omega) _)
  have HB := hide hb_W0
  clear hb_W0
  have zz : w.heap.size < W0.heap.size := by rw [← hW0]; simp <;> omega
  have z0 : W0.cell? ⟨w.heap.size, 0, none⟩ = some (.int .i64 key) := by rw [← hW0]; simp [go_sem]
  have z1 : W0.cell? ⟨w.heap.size, 1, none⟩ = some (.slice (some ad) l.length c) := by rw [← hW0]; simp [go_sem]
  have z2 : W0.cell? ⟨w.heap.size, 2, none⟩ = some (.int .i64 safe) := by rw [← hW0]; simp [go_sem]
  have zr : w.heap.size + 1 < W0.heap.size := by rw [← hW0]; simp
  have r0 : W0.cell? ⟨w.heap.size + 1, 0, none⟩ = some (.int .i64 0) := by rw [← hW0]; simp [go_sem]
  have r1 : W0.cell? ⟨w.heap.size + 1, 1, none⟩ = some (.slice none 0 0) := by rw [← hW0]; simp [go_sem]
  have r2 : W0.cell? ⟨w.heap.size + 1, 2, none⟩ = some (.int .i64 0) := by rw [← hW0]; simp [go_sem]
  have fr0 : W0.frozen? ⟨w.heap.size + 1, 0, none⟩ = false := by rw [← hW0]; simp [go_sem]
  have fr1 : W0.frozen? ⟨w.heap.size + 1, 1, none⟩ = false := by rw [← hW0]; simp [go_sem]
  have fr2 : W0.frozen? ⟨w.heap.size + 1, 2, none⟩ = false := by rw [← hW0]; simp [go_sem]
  have hzr := zr
  have HOK := hide (hok W0 HB.out)
  clear hok
  have hkd : ¬ (keep < 0) := by omega
  have hkd2 : decide (keep < 0) = false := decide_eq_false hkd
  have hnl : n ≤ l.length := by have := hn; unfold cutI at this; split at this <;> omega
  have hn0 : (0 : Int) ≤ (n : Int) := by omega
  have hn1 : (n : Int) ≤ (l.length : Int) := by omega
  have hn2 : (n : Int) ≤ (c : Int) := by omega
  have hnc : n ≤ c := by omega
  have HRT := hide (rdC_take n hR)
  have HTL := hide (show n = (l.take n).length by simp; omega)
  have HL2 := hide (show (l.take n).length ≤ 1048576 by simp; omega)
  have w1 : IntKind.i64.wrap ((l.length : Int) - safe) = (l.length : Int) - safe := by rw [IntKind.wrap_i64]; omega
  have HCN := hide (show (n : Int) = if keep < (l.length : Int) - safe then safe + keep else l.length from hn)
  clear hn hR
  have w2 : IntKind.i64.wrap (safe + min keep ((l.length : Int) - safe)) = (n : Int) := by have := HCN.out; rw [IntKind.wrap_i64]; split at this <;> omega
  go_enter Try.func33, Try.ntmps33
  go_wp2_with fail
  refine (HOK.out).mono ?_
  rintro e v1 ⟨rfl, hb⟩
  have hs1 := hb.size
  replace z0 := bC hb z0 zz
  replace z1 := bC hb z1 zz
  replace z2 := bC hb z2 zz
  replace zz := Nat.lt_of_lt_of_le zz hb.size
  replace r0 := bC hb r0 zr
  replace r1 := bC hb r1 zr
  replace r2 := bC hb r2 zr
  replace fr0 := bF hb fr0 zr
  replace fr1 := bF hb fr1 zr
  replace fr2 := bF hb fr2 zr
  replace zr := Nat.lt_of_lt_of_le zr hb.size
  replace HB := hide (HB.out.trans (hb.mono HB.out.size))
  clear hb
  go_wp2
  go_region_held3 (fun w' => w'.cell? ⟨w.heap.size, 0, none⟩ = some (.int .i64 key) ∧ w'.cell? ⟨w.heap.size, 1, none⟩ = some (.slice (some ad) l.length c) ∧ w'.cell? ⟨w.heap.size, 2, none⟩ = some (.int .i64 safe)) (first | with_reducible exact ⟨k0, k1, k2⟩ | with_reducible exact ⟨z0, z1, z2⟩ | with_reducible exact ⟨s0, s1, s2⟩ | go_keep) (first | (go_at_call 82; have hc_ := cloneN_any (some ad) c (l.take n) n HTL.out v1.drew ((HRT.out.kept (HB.out.trans ((show Below v1.heap.size v1 v1.drew from Below.drew (Below.refl _ _)).mono HB.out.size)) (Nat.le_refl _)).le ((HB.out.trans ((show Below v1.heap.size v1 v1.drew from Below.drew (Below.refl _ _)).mono HB.out.size))).size) (fun h => by cases h) HL2.out; with_reducible refine hc_.mono ?_; clear hc_; rintro e x0 ⟨o2, c2, rfl, ow2, hb⟩; have hp0 : Below v1.heap.size v1 x0 := Below.trans (show Below v1.heap.size v1 v1.drew from Below.drew (Below.refl _ _)) (hb.mono (by simp)); have ow2 := own_mono ow2 (show v1.heap.size ≤ _ by simp); have k0 := bC hp0 z0 zz; have k1 := bC hp0 z1 zz; have k2 := bC hp0 z2 zz; have qc0 := bC hp0 r0 zr; have qc1 := bC hp0 r1 zr; have qc2 := bC hp0 r2 zr; have fqc0 := bF hp0 fr0 zr; have fqc1 := bF hp0 fr1 zr; have fqc2 := bF hp0 fr2 zr; have s0 : (((x0.setCell ⟨w.heap.size + 1, 0, none⟩ (.int .i64 key)).setCell ⟨w.heap.size + 1, 1, none⟩ (.slice o2 n c2)).setCell ⟨w.heap.size + 1, 2, none⟩ (.int .i64 (n : Int))).cell? ⟨w.heap.size, 0, none⟩ = some (.int .i64 key) := setP_cell k0 (Nat.lt_succ_self _); have s1 : (((x0.setCell ⟨w.heap.size + 1, 0, none⟩ (.int .i64 key)).setCell ⟨w.heap.size + 1, 1, none⟩ (.slice o2 n c2)).setCell ⟨w.heap.size + 1, 2, none⟩ (.int .i64 (n : Int))).cell? ⟨w.heap.size, 1, none⟩ = some (.slice (some ad) l.length c) := setP_cell k1 (Nat.lt_succ_self _); have s2 : (((x0.setCell ⟨w.heap.size + 1, 0, none⟩ (.int .i64 key)).setCell ⟨w.heap.size + 1, 1, none⟩ (.slice o2 n c2)).setCell ⟨w.heap.size + 1, 2, none⟩ (.int .i64 (n : Int))).cell? ⟨w.heap.size, 2, none⟩ = some (.int .i64 safe) := setP_cell k2 (Nat.lt_succ_self _); have HO5 := hide ow2; have HP0 := hide hp0; clear hb ow2 hp0))
  have hcz : w.heap.size + 1 < v1.heap.size := zr
  go_wp2
  refine bodyPost_ret (v := jrn key (.slice o2 n c2) (n : Int)) (by simp [results, Try.results33, go_sem, qc0, qc1, qc2]) rfl ⟨o2, c2, rfl, own_mono (own_low (own_low (own_low HO5.out hcz 0 _) hcz 1 _) hcz 2 _) (by omega), setP_below (HB.out.trans (HP0.out.mono HB.out.size)) (Nat.le_succ _) _ _ _⟩

set_option maxRecDepth 100000 in
set_option maxHeartbeats 4000000 in
theorem implCut_sh (v : Value) (m : Jm) (keep : Int) (w : World) (hR : RdJm w.heap.size w v m) (hcp : roomJm v) (hf : fitJm m) :
    Calls Try.prog 33 #[v, .int .i64 keep] w fun e w' => ∃ v', e = .returned v' ∧ InJm w.heap.size w'.heap.size w' v' (cutM m keep) ∧ Below w.heap.size w w' := by
  have hok := fun W (hb : Below w.heap.size w W) => implJournalOk_sh v m W ((hR.kept hb (Nat.le_refl _)).le hb.size) hf
  obtain ⟨vl, rfl, ⟨o, c, rfl, r⟩⟩ := hR
  obtain ⟨hlc, hcap⟩ := hcp.two
  obtain ⟨key, l, safe⟩ := m
  dsimp only at *
  have HCM := hide (show cutM ⟨key, l, safe⟩ keep = if (journalB key l safe && decide (0 ≤ keep)) = true then ⟨key, l.take (cutN ⟨key, l, safe⟩ keep).toNat, cutN ⟨key, l, safe⟩ keep⟩ else jm0 from rfl)
  by_cases hall : (journalB key l safe && decide (0 ≤ keep)) = true
  · rw [if_pos hall] at HCM
    simp only [Bool.and_eq_true, decide_eq_true_eq] at hall
    obtain ⟨hj, hkp⟩ := hall
    rw [hj] at hok
    obtain ⟨hk, hl, h0, h1⟩ := journal_facts hj
    obtain ⟨n, hn⟩ : ∃ n : Nat, cutN ⟨key, l, safe⟩ keep = (n : Int) := ⟨(cutN ⟨key, l, safe⟩ keep).toNat, by unfold cutN; dsimp only; split <;> omega⟩
    rw [hn, Int.toNat_natCast] at HCM
    have hnl : n ≤ l.length := by have := hn; unfold cutN at this; dsimp only at this; split at this <;> omega
    have e1 : (l.take n).length = n := by simp; omega
    rw [HCM.out]
    cases o with
    | none =>
      have hc0 := hcap rfl
      subst hc0
      have hl0 : l = [] := List.eq_nil_of_length_eq_zero (by omega)
      subst hl0
      have hs0 : safe = 0 := by simp at h1; omega
      subst hs0
      have hn0 : n = 0 := by simpa using hnl
      subst hn0
      refine (implCut_nil key keep w hkp hok).mono ?_
      rintro e w' ⟨o2, c2, rfl, ho, hb⟩
      exact ⟨_, rfl, ⟨_, rfl, InRow.of ho⟩, hb⟩
    | some ad =>
      refine (implCut_go key safe keep ad c l n w r hlc hl h0 h1 hkp (show (n : Int) = cutI l safe keep from hn.symm) hok).mono ?_
      rintro e w' ⟨o2, c2, rfl, ho, hb⟩
      exact ⟨_, rfl, ⟨_, rfl, InRow.of ho⟩, hb⟩
  · rw [if_neg hall] at HCM
    have HALL := hide hall
    obtain ⟨W0, hW0⟩ : ∃ W, ((w.alloc (.cells #[.int .i64 key, .slice o l.length c, .int .i64 safe] 47)).alloc (.cells #[.int .i64 0, .slice none 0 0, .int .i64 0] 47)) = W := ⟨_, rfl⟩
    have hb_W0 : Below w.heap.size w W0 := by rw [← hW0]; exact (((Below.refl _ _).alloc (Nat.le_refl _) _).alloc (by simp <;> omega) _)
    have HB := hide hb_W0
    clear hb_W0
    have zz : w.heap.size < W0.heap.size := by rw [← hW0]; simp <;> omega
    have z0 : W0.cell? ⟨w.heap.size, 0, none⟩ = some (.int .i64 key) := by rw [← hW0]; simp [go_sem]
    have z1 : W0.cell? ⟨w.heap.size, 1, none⟩ = some (.slice o l.length c) := by rw [← hW0]; simp [go_sem]
    have z2 : W0.cell? ⟨w.heap.size, 2, none⟩ = some (.int .i64 safe) := by rw [← hW0]; simp [go_sem]
    have zr : w.heap.size + 1 < W0.heap.size := by rw [← hW0]; simp
    have r0 : W0.cell? ⟨w.heap.size + 1, 0, none⟩ = some (.int .i64 0) := by rw [← hW0]; simp [go_sem]
    have r1 : W0.cell? ⟨w.heap.size + 1, 1, none⟩ = some (.slice none 0 0) := by rw [← hW0]; simp [go_sem]
    have r2 : W0.cell? ⟨w.heap.size + 1, 2, none⟩ = some (.int .i64 0) := by rw [← hW0]; simp [go_sem]
    have fr0 : W0.frozen? ⟨w.heap.size + 1, 0, none⟩ = false := by rw [← hW0]; simp [go_sem]
    have fr1 : W0.frozen? ⟨w.heap.size + 1, 1, none⟩ = false := by rw [← hW0]; simp [go_sem]
    have fr2 : W0.frozen? ⟨w.heap.size + 1, 2, none⟩ = false := by rw [← hW0]; simp [go_sem]
    have HOK := hide (hok W0 HB.out)
    clear hok r
    cases hj : journalB key l safe with
    | false =>
      rw [hj] at HOK
      clear hj hall HALL
      go_enter Try.func33, Try.ntmps33
      go_wp2_with fail
      refine (HOK.out).mono ?_
      rintro e v1 ⟨rfl, hb⟩
      replace z0 := bC hb z0 zz
      replace z1 := bC hb z1 zz
      replace z2 := bC hb z2 zz
      replace zz := Nat.lt_of_lt_of_le zz hb.size
      replace r0 := bC hb r0 zr
      replace r1 := bC hb r1 zr
      replace r2 := bC hb r2 zr
      replace fr0 := bF hb fr0 zr
      replace fr1 := bF hb fr1 zr
      replace fr2 := bF hb fr2 zr
      replace zr := Nat.lt_of_lt_of_le zr hb.size
      replace HB := hide (HB.out.trans (hb.mono HB.out.size))
      clear hb
      go_wp2
      refine bodyPost_ret (v := jrn 0 (.slice none 0 0) 0) (by simp [results, Try.results33, go_sem, r0, r1, r2]) rfl ⟨_, rfl, ?_, setP_below HB.out (Nat.le_succ _) _ _ _⟩
      rw [HCM.out]
      exact ⟨_, rfl, World.ownsRow_nil _ _ _ _, fun b e => by cases e⟩
    | true =>
      have hkd : keep < 0 := by have := HALL.out; rw [hj] at this; simp at this; omega
      rw [hj] at HOK
      clear hj hall HALL
      go_enter Try.func33, Try.ntmps33
      go_wp2_with fail
      refine (HOK.out).mono ?_
      rintro e v1 ⟨rfl, hb⟩
      replace z0 := bC hb z0 zz
      replace z1 := bC hb z1 zz
      replace z2 := bC hb z2 zz
      replace zz := Nat.lt_of_lt_of_le zz hb.size
      replace r0 := bC hb r0 zr
      replace r1 := bC hb r1 zr
      replace r2 := bC hb r2 zr
      replace fr0 := bF hb fr0 zr
      replace fr1 := bF hb fr1 zr
      replace fr2 := bF hb fr2 zr
      replace zr := Nat.lt_of_lt_of_le zr hb.size
      replace HB := hide (HB.out.trans (hb.mono HB.out.size))
      clear hb
      go_wp2
      refine bodyPost_ret (v := jrn 0 (.slice none 0 0) 0) (by simp [results, Try.results33, go_sem, r0, r1, r2]) rfl ⟨_, rfl, ?_, setP_below HB.out (Nat.le_succ _) _ _ _⟩
      rw [HCM.out]
      exact ⟨_, rfl, World.ownsRow_nil _ _ _ _, fun b e => by cases e⟩

end Go.Proofs.Ytldjaapbkihibaa

/- The model's l4replay: the pool that commands come to. -/
namespace Go.Proofs.Ytldjaapbkihibaa
open Go.ChangeShapes Go.WideShapes Go.ChangeAt Go.RowKit Go.Joins
set_option linter.unusedVariables false
set_option linter.unusedSimpArgs false

/-- Tables of the call's own: each is the one of a list of those who serve. -/
def PTabs (w : World) (base : Nat) (key : Int) (hs : List Hd) (R : List (List Bk)) : Prop := hs.length = R.length ∧ ∀ i, i < R.length → ∃ o3 c3 hs8, hs.getD i (none, 0, 0) = (o3, 8, c3) ∧ ownL layH 43 w base (.slice o3 8 c3) hs8 ∧ Tab (fun b => pairI key b (R.getD i [])) 8 w base hs8
theorem PTabs.kept {w w' : World} {base : Nat} {key : Int} {hs : List Hd} {R : List (List Bk)} (h : PTabs w base key hs R) (hb : Below w.heap.size w w') : PTabs w' base key hs R :=
  ⟨h.1, fun i hi => by obtain ⟨o3, c3, hs8, e, h1, h2⟩ := h.2 i hi; exact ⟨o3, c3, hs8, e, own_kept h1 hb, h2.kept hb⟩⟩
theorem PTabs.putB {w : World} {base : Nat} {key : Int} {hs : List Hd} {R : List (List Bk)} {B : Nat} {c : Array Value} (h : PTabs w base key hs R) (hB : w.heap[B]? = some (.cells c 26 (0, 0))) (j : Nat) (u : Value) : PTabs (w.setCell ⟨B, j, none⟩ u) base key hs R :=
  ⟨h.1, fun i hi => by obtain ⟨o3, c3, hs8, e, h1, h2⟩ := h.2 i hi; exact ⟨o3, c3, hs8, e, own_putB h1 hB neP2 j u, h2.grown (grown_set w B j u) (fun q hq => own_box (h2.row q hq) hB neP3)⟩⟩
theorem PTabs.setP {w : World} {base : Nat} {key : Int} {hs : List Hd} {R : List (List Bk)} {B : Nat} {c : Array Value} (h : PTabs w base key hs R) (hB : w.heap[B]? = some (.cells c 26 (0, 0))) (x y z : Value) : PTabs (Go.Proofs.Ytldjaapbkihibaa.setP w B x y z) base key hs R :=
  ((h.putB hB 0 x).putB (box_put hB 0 x) 1 y).putB (box_put (box_put hB 0 x) 1 y) 2 z
theorem PTabs.low {w : World} {base : Nat} {key : Int} {hs : List Hd} {R : List (List Bk)} {B : Nat} (h : PTabs w base key hs R) (hB : B < base) (j : Nat) (u : Value) : PTabs (w.setCell ⟨B, j, none⟩ u) base key hs R :=
  ⟨h.1, fun i hi => by
    obtain ⟨o3, c3, hs8, e, h1, h2⟩ := h.2 i hi
    refine ⟨o3, c3, hs8, e, own_low h1 hB j u, h2.grown (grown_set w B j u) (fun q hq => ?_)⟩
    cases hob : (hv hs8 q).ownBlock with
    | none => exact .inl rfl
    | some b => exact .inr (fun e => by have := ((h2.row q hq).lt b hob).1; injection e with e; omega)⟩
theorem PTabs.mono {w : World} {base b2 : Nat} {key : Int} {hs : List Hd} {R : List (List Bk)} (h : PTabs w base key hs R) (hb : b2 ≤ base) : PTabs w b2 key hs R :=
  ⟨h.1, fun i hi => by obtain ⟨o3, c3, hs8, e, h1, h2⟩ := h.2 i hi; exact ⟨o3, c3, hs8, e, own_mono h1 hb, Tab.mono h2 hb⟩⟩
theorem PTabs.cons {w : World} {base : Nat} {key : Int} {hs hs8 : List Hd} {R : List (List Bk)} {m : List Bk} {o3 : Option Addr} {c3 : Nat} (h : PTabs w base key hs R) (h1 : ownL layH 43 w base (.slice o3 8 c3) hs8) (h2 : Tab (fun b => pairI key b m) 8 w base hs8) : PTabs w base key ((o3, 8, c3) :: hs) (m :: R) :=
  ⟨by simp [h.1], fun i hi => by
    cases i with
    | zero => exact ⟨o3, c3, hs8, rfl, h1, h2⟩
    | succ i => simpa using h.2 i (by simpa using hi)⟩
theorem PTabs.take {w : World} {base : Nat} {key : Int} {hs : List Hd} {R : List (List Bk)} (n : Nat) (h : PTabs w base key hs R) : PTabs w base key (hs.take n) (R.take n) :=
  ⟨by simp [h.1], fun i hi => by
    have h1 : i < n := by simp at hi; omega
    have h2 : i < R.length := by simp at hi; omega
    have e1 : (hs.take n).getD i (none, 0, 0) = hs.getD i (none, 0, 0) := by simp [List.getD_eq_getElem?_getD, List.getElem?_take, h1]
    have e2 : (R.take n).getD i [] = R.getD i [] := by simp [List.getD_eq_getElem?_getD, List.getElem?_take, h1]
    rw [e1, e2]; exact h.2 i h2⟩
theorem ptabs_next {w x : World} {base b2 : Nat} {key : Int} {hs hs8 : List Hd} {R : List (List Bk)} {m : List Bk} {o3 : Option Addr} {c3 : Nat} (h : PTabs w base key hs R) (hb : Below w.heap.size w x) (h1 : ownL layH 43 x b2 (.slice o3 8 c3) hs8) (h2 : Tab (fun b => pairI key b m) 8 x b2 hs8) (hle : base ≤ b2) : PTabs x base key (((o3, 8, c3) :: hs).take 3) ((m :: R).take 3) :=
  ((h.kept hb).cons (own_mono h1 hle) (Tab.mono h2 hle)).take 3
/-- Those who served at the last times, the latest first. -/
def ringR (cs : List Cd) : Nat → List (List Bk)
  | 0 => [[]]
  | t + 1 => (servedOf cs (t + 1) :: ringR cs t).take 3
theorem runTo_back {cs : List Cd} {t : Nat} (h : (runTo cs cs.length).isSome = true) (ht : t ≤ cs.length) : ∃ l, runTo cs t = some l := by
  cases hr : runTo cs t with
  | some l => exact ⟨l, rfl⟩
  | none => rw [runTo_none hr ht] at h; cases h
theorem runTo_step {cs : List Cd} {t : Nat} {l : List Bk} (h : (runTo cs cs.length).isSome = true) (ht : t < cs.length) (hl : runTo cs t = some l) : ∃ m, cmdOkB (cs.getD t (0, 0, 0)).1 (cs.getD t (0, 0, 0)).2.1 (cs.getD t (0, 0, 0)).2.2 = true ∧ doL l (cs.getD t (0, 0, 0)).1 (cs.getD t (0, 0, 0)).2.1 (cs.getD t (0, 0, 0)).2.2 = some m ∧ runTo cs (t + 1) = some m := by
  obtain ⟨m, hm⟩ := runTo_back h (show t + 1 ≤ cs.length by omega)
  have hs := runTo_succ ht
  rw [hm, hl] at hs
  simp only [stepO, Option.bind_some] at hs
  split at hs
  · next hc => exact ⟨m, hc, hs.symm, hm⟩
  · cases hs

set_option maxRecDepth 100000 in
set_option maxHeartbeats 16000000 in
theorem l4replay_go (key : Int) (b off cap : Nat) (cs : List Cd) (w : World) (hbl : cs.length ≠ 0 → b < w.heap.size) (hcell : ∀ i, i < cs.length → ∀ j, j < layC.k → w.cell? ⟨b, off + i * layC.k + j, none⟩ = (layC.cs (cs.getD i layC.d))[j]?) (hk : keyB key = true) (hl : cs.length ≤ 100) (hrun : (runTo cs cs.length).isSome = true) (ob : Option Addr) (hob : cs.length ≠ 0 → ob = some ⟨b, off, none⟩) :
    Calls Try.prog 97 #[.int .i64 key, .slice ob cs.length cap] w fun e w' => ∃ o c oR cR hs, e = .returned (plv key (.slice o (servedOf cs cs.length).length c) (.slice oR hs.length cR)) ∧ ownK w' w.heap.size (.slice o (servedOf cs cs.length).length c) (servedOf cs cs.length) ∧ ownL layH 37 w' w.heap.size (.slice oR hs.length cR) hs ∧ PTabs w' w.heap.size key hs (ringR cs cs.length) ∧ hs.length ≤ 3 ∧ Below w.heap.size w w' := by
  have HC := hide hcell
  have HOB := hide hob
  have HBL := hide hbl
  have HN := hide hl
  have HRUN := hide hrun
  clear hcell hob hbl hrun
  obtain ⟨W0, hW0⟩ : ∃ W, (w.alloc (.cells #[.int .i64 0, .slice none 0 0, .slice none 0 0] 26)) = W := ⟨_, rfl⟩
  have hb_W0 : Below w.heap.size w W0 := by rw [← hW0]; exact ((Below.refl _ _).alloc (Nat.le_refl _) _)
  have HB := hide hb_W0
  clear hb_W0
  have zr : w.heap.size < W0.heap.size := by rw [← hW0]; simp
  have r0 : W0.cell? ⟨w.heap.size, 0, none⟩ = some (.int .i64 0) := by rw [← hW0]; simp [go_sem]
  have r1 : W0.cell? ⟨w.heap.size, 1, none⟩ = some (.slice none 0 0) := by rw [← hW0]; simp [go_sem]
  have r2 : W0.cell? ⟨w.heap.size, 2, none⟩ = some (.slice none 0 0) := by rw [← hW0]; simp [go_sem]
  have fr0 : W0.frozen? ⟨w.heap.size, 0, none⟩ = false := by rw [← hW0]; simp [go_sem]
  have fr1 : W0.frozen? ⟨w.heap.size, 1, none⟩ = false := by rw [← hW0]; simp [go_sem]
  have fr2 : W0.frozen? ⟨w.heap.size, 2, none⟩ = false := by rw [← hW0]; simp [go_sem]
  have hz0 := zr
  have HL := hide (l4new_any key W0 hk)
  go_enter Try.func97, Try.ntmps97
  go_wp2_with fail
  refine (HL.out).mono ?_
  rintro e v1 ⟨gR, rfl, hring, hb⟩
  have HRG := hide hring
  have hs1 := hb.size
  clear hring
  replace r0 := bC hb r0 zr
  replace r1 := bC hb r1 zr
  replace r2 := bC hb r2 zr
  replace fr0 := bF hb fr0 zr
  replace fr1 := bF hb fr1 zr
  replace fr2 := bF hb fr2 zr
  replace zr := Nat.lt_of_lt_of_le zr hb.size
  replace HB := hide (HB.out.trans (hb.mono HB.out.size))
  clear hb
  have r0v := r0
  have r1v := r1
  have r2v := r2
  have f0v := fr0
  have f1v := fr1
  have f2v := fr2
  have zrv := zr
  have HB1 := HB
  obtain ⟨W1, hW1⟩ : ∃ W, (v1.alloc (.cells #[.int .i64 key, .slice none 0 0, .slice (some ⟨gR, 0, none⟩) 1 1] 26)) = W := ⟨_, rfl⟩
  have hb_W1 : Below v1.heap.size v1 W1 := by rw [← hW1]; exact ((Below.refl _ _).alloc (Nat.le_refl _) _)
  replace r0 := bC hb_W1 r0 zr
  replace r1 := bC hb_W1 r1 zr
  replace r2 := bC hb_W1 r2 zr
  replace fr0 := bF hb_W1 fr0 zr
  replace fr1 := bF hb_W1 fr1 zr
  replace fr2 := bF hb_W1 fr2 zr
  replace zr := Nat.lt_of_lt_of_le zr hb_W1.size
  replace HB := hide (HB.out.trans (hb_W1.mono HB.out.size))
  clear hb_W1
  have zp : v1.heap.size < W1.heap.size := by rw [← hW1]; simp
  have p0 : W1.cell? ⟨v1.heap.size, 0, none⟩ = some (.int .i64 key) := by rw [← hW1]; simp [go_sem]
  have p1 : W1.cell? ⟨v1.heap.size, 1, none⟩ = some (.slice none 0 0) := by rw [← hW1]; simp [go_sem]
  have p2 : W1.cell? ⟨v1.heap.size, 2, none⟩ = some (.slice (some ⟨gR, 0, none⟩) 1 1) := by rw [← hW1]; simp [go_sem]
  obtain ⟨o3, c3, hs3, rg1, rg2, rg3⟩ := HRG.out
  have hb1 : Below v1.heap.size v1 W1 := by rw [← hW1]; exact (Below.refl _ _).alloc (Nat.le_refl _) _
  have HP : Hid (PBox W1 W0.heap.size v1.heap.size key [] [(o3, 8, c3)] none 0 (some ⟨gR, 0, none⟩) 1) := ⟨by rw [← hW1]; exact World.alloc_heap_new v1 _, World.ownsRow_nil _ _ _ _, own_kept rg1 hb1⟩
  have HPT : Hid (PTabs W1 W0.heap.size key [(o3, 8, c3)] (ringR cs 0)) := (PTabs.cons (R := []) (hs := []) ⟨rfl, fun i hi => absurd hi (Nat.not_lt_zero _)⟩ rg2 rg3).kept hb1
  clear rg1 rg2 rg3 HRG hb1
  go_wp2
  go_loopw [6] (fun iv wr => ∃ (t : Nat) (l : List Bk) (hs : List Hd) (o : Option Addr) (c : Nat) (oR : Option Addr) (cR : Nat), t ≤ cs.length ∧ iv = .int .i64 (t : Int) ∧ Hid (PBox wr W0.heap.size v1.heap.size key l hs o c oR cR) ∧ Hid (PTabs wr W0.heap.size key hs (ringR cs t)) ∧ Hid (runTo cs t = some l) ∧ Hid (hs.length ≤ 3) ∧ Hid (Below v1.heap.size v1 wr))
    (fun iv _ => cs.length - (intOf iv).toNat)
  case atStart => exact ⟨0, [], _, _, _, _, _, Nat.zero_le _, rfl, HP.out, HPT.out, rfl, (Nat.le_of_ble_eq_true rfl), by rw [← hW1]; exact (Below.refl _ _).alloc (Nat.le_refl _) _⟩
  case round =>
    obtain ⟨t, l, hs, o, c, oR, cR, htl, rfl, HPB, HPTB, HRT, HS3, HBR⟩ := hrel
    have hv1 := HBR.out.size
    clear r0 r1 r2 fr0 fr1 fr2 zr p0 p1 p2 zp hW0 hW1 HP HPT HB
    have HBB : Hid (Below w.heap.size w wr) := HB1.out.trans (HBR.out.mono HB1.out.size)
    have hpz : v1.heap.size < wr.heap.size := (Array.getElem?_eq_some_iff.1 HPB.out.box).1
    by_cases hlt : t < cs.length
    · skip
      have hlt' : (t : Int) < (cs.length : Int) := by omega
      have ht0 : (0 : Int) ≤ (t : Int) := by omega
      have hob := HOB.out (by omega)
      have hbl := HBL.out (by omega)
      subst hob
      obtain ⟨hbo, hll⟩ := runTo_ok t l (by omega) HRT.out
      obtain ⟨m, hc, hdo, hnx⟩ := runTo_step HRUN.out hlt HRT.out
      obtain ⟨c0, c1, c2⟩ := RdL.cmd (C := w.heap.size) HC.out t hlt
      replace c0 := (HBB.out.cell (p := ⟨b, off + t * 3, none⟩) hbl).trans c0
      replace c1 := (HBB.out.cell (p := ⟨b, off + t * 3 + 1, none⟩) hbl).trans c1
      replace c2 := (HBB.out.cell (p := ⟨b, off + t * 3 + 2, none⟩) hbl).trans c2
      obtain ⟨x, y, u, hxyu⟩ : ∃ x y u, cs.getD t (0, 0, 0) = (x, y, u) := ⟨_, _, _, rfl⟩
      rw [hxyu] at c0 c1 c2 hc hdo
      dsimp only at c0 c1 c2 hc hdo
      clear hxyu
      have HNX := hide hnx
      have HRN := hide (show ringR cs (t + 1) = (m :: ringR cs t).take 3 by rw [ringR]; unfold servedOf; rw [hnx]; rfl)
      clear hnx
      have hs3 := HS3.out
      have hbz : b < wr.heap.size := by have := HBB.out.size; omega
      have hbp : b < v1.heap.size := by have := HB1.out.size; omega
      have HRB := hide (ownL.rds (L := layK) HPB.out.backs)
      have HRR := hide (ownL.rds (L := layH) HPB.out.ring)
      have hcr := capH HPB.out.ring
      have HY := hide (fun W (hb : Below wr.heap.size wr W) => l4do_yes key o c l oR cR hs x y u m W hk hbo hc hdo (by have := HN.out; omega) ((HRB.out.kept hb (Nat.le_refl _)).le hb.size) ((HRR.out.kept hb (Nat.le_refl _)).le hb.size) hcr hs3)
      clear hc hdo hcr HRB HRR
      have p0 : wr.cell? ⟨v1.heap.size, 0, none⟩ = some (.int .i64 key) := bx_cell HPB.out.box 0 _ rfl
      have p1 : wr.cell? ⟨v1.heap.size, 1, none⟩ = some (.slice o l.length c) := bx_cell HPB.out.box 1 _ rfl
      have p2 : wr.cell? ⟨v1.heap.size, 2, none⟩ = some (.slice oR hs.length cR) := bx_cell HPB.out.box 2 _ rfl
      have hW0v : W0.heap.size ≤ wr.heap.size := by omega
      go_wp2
      go_region_with (first | (go_at_call 74; have hc_ := HY.out wr.drew (Below.drew (Below.refl _ _)); with_reducible refine hc_.mono ?_; clear hc_; rintro e x0 ⟨o2, d2, oR2, n2, dR2, o3, d3, hs3', rfl, hn2, ow2, owR, ow3, tb3, hb⟩; have hp0 : Below wr.heap.size wr x0 := Below.trans (show Below wr.heap.size wr wr.drew from Below.drew (Below.refl _ _)) (hb.mono (by simp)); have sp0 := hp0.size; have ow2 := own_mono ow2 (show W0.heap.size ≤ _ by (try simp) <;> omega); have owR := own_mono owR (show W0.heap.size ≤ _ by (try simp) <;> omega); have pt := ptabs_next HPTB.out hp0 ow3 tb3 (show W0.heap.size ≤ _ by (try simp) <;> omega); rw [← HRN.out] at pt; have hl3 := List.length_take_le 3 ((o3, 8, d3) :: hs); generalize List.take 3 ((o3, 8, d3) :: hs) = hs2 at hn2 owR hl3 pt; subst hn2; have k0 := bC hp0 c0 hbz; have k1 := bC hp0 c1 hbz; have k2 := bC hp0 c2 hbz; have hbx := (hp0.block v1.heap.size hpz).trans HPB.out.box; have pc0 : x0.cell? ⟨v1.heap.size, 0, none⟩ = some (.int .i64 key) := bx_cell hbx 0 _ rfl; have pf0 := bx_frozen hbx 0; have pc1 : x0.cell? ⟨v1.heap.size, 1, none⟩ = some (.slice o l.length c) := bx_cell hbx 1 _ rfl; have pf1 := bx_frozen hbx 1; have pc2 : x0.cell? ⟨v1.heap.size, 2, none⟩ = some (.slice oR hs.length cR) := bx_cell hbx 2 _ rfl; have pf2 := bx_frozen hbx 2; have s0 : (((x0.setCell ⟨v1.heap.size, 0, none⟩ (.int .i64 key)).setCell ⟨v1.heap.size, 1, none⟩ (.slice o2 m.length d2)).setCell ⟨v1.heap.size, 2, none⟩ (.slice oR2 hs2.length dR2)).cell? ⟨b, off + t * 3, none⟩ = some (.int .i64 x) := setP_cell k0 hbp; have s1 : (((x0.setCell ⟨v1.heap.size, 0, none⟩ (.int .i64 key)).setCell ⟨v1.heap.size, 1, none⟩ (.slice o2 m.length d2)).setCell ⟨v1.heap.size, 2, none⟩ (.slice oR2 hs2.length dR2)).cell? ⟨b, off + t * 3 + 1, none⟩ = some (.int .i64 y) := setP_cell k1 hbp; have s2 : (((x0.setCell ⟨v1.heap.size, 0, none⟩ (.int .i64 key)).setCell ⟨v1.heap.size, 1, none⟩ (.slice o2 m.length d2)).setCell ⟨v1.heap.size, 2, none⟩ (.slice oR2 hs2.length dR2)).cell? ⟨b, off + t * 3 + 2, none⟩ = some (.int .i64 u) := setP_cell k2 hbp; have HPN := hide (PBox.set (key := key) hbx rfl ow2 owR rfl); have HPTN := hide (PTabs.setP pt hbx (.int .i64 key) (.slice o2 m.length d2) (.slice oR2 hs2.length dR2)); have HL3 := hide hl3; have HP0 := hide hp0; clear hb ow2 owR ow3 tb3 pt hl3 hp0 hbx))
      all_goals (have HBN := hide (setP_below (HBR.out.trans (HP0.out.mono hv1)) (Nat.le_refl _) (.int .i64 key) (.slice o2 m.length d2) (.slice oR2 hs2.length dR2)); go_wp2; go_roundw; (case rel => exact ⟨t + 1, m, hs2, o2, d2, oR2, dR2, by omega, by go_num, HPN.out, HPTN.out, HNX.out, HL3.out, HBN.out⟩); (case measure => (simp [intOf]; omega)))
    · have e : t = cs.length := by omega
      subst e
      have hlz : ¬ ((cs.length : Int) < (cs.length : Int)) := by omega
      have hsv : servedOf cs cs.length = l := by unfold servedOf; rw [HRT.out]; rfl
      have HSV := hide hsv
      clear hsv
      have p0 : wr.cell? ⟨v1.heap.size, 0, none⟩ = some (.int .i64 key) := bx_cell HPB.out.box 0 _ rfl
      have p1 : wr.cell? ⟨v1.heap.size, 1, none⟩ = some (.slice o l.length c) := bx_cell HPB.out.box 1 _ rfl
      have p2 : wr.cell? ⟨v1.heap.size, 2, none⟩ = some (.slice oR hs.length cR) := bx_cell HPB.out.box 2 _ rfl
      have q0 := bC HBR.out r0v zrv
      have fq0 := bF HBR.out f0v zrv
      have q1 := bC HBR.out r1v zrv
      have fq1 := bF HBR.out f1v zrv
      have q2 := bC HBR.out r2v zrv
      have fq2 := bF HBR.out f2v zrv
      go_wp2
      refine bodyPost_ret (v := plv key (.slice o l.length c) (.slice oR hs.length cR)) (by simp [results, Try.results97, go_sem, q0, q1, q2]) rfl ⟨o, c, oR, cR, hs, by rw [HSV.out], ?_, ?_, ?_, HS3.out, setP_below HBB.out (Nat.le_refl _) _ _ _⟩
      · rw [HSV.out]; exact own_mono (own_low (own_low (own_low HPB.out.backs hz0 0 _) hz0 1 _) hz0 2 _) (by omega)
      · exact own_mono (own_low (own_low (own_low HPB.out.ring hz0 0 _) hz0 1 _) hz0 2 _) (by omega)
      · exact PTabs.mono (((HPTB.out.low hz0 0 _).low hz0 1 _).low hz0 2 _) (by omega)

end Go.Proofs.Ytldjaapbkihibaa

/- Note, on both sides. -/
namespace Go.Proofs.Ytldjaapbkihibaa
open Go.ChangeShapes Go.WideShapes Go.ChangeAt Go.RowKit Go.Joins
set_option linter.unusedVariables false
set_option linter.unusedSimpArgs false

def noteD (key : Int) (l : List Cd) (k i g : Int) : Bool := (doL (servedOf l l.length) k i g).isSome && !decide (100 ≤ l.length)
def noteB (m : Jm) (k i g : Int) : Bool := journalB m.key m.l m.safe && cmdOkB k i g
/-- What Note tells. -/
def noteM (m : Jm) (k i g : Int) : Jm := if noteB m k i g = true then (if noteD m.key m.l k i g = true then ⟨m.key, m.l ++ [(k, i, g)], (m.l.length : Int) + 1⟩ else m) else jm0
def noteF (m : Jm) (k i g : Int) : Bool := noteB m k i g && noteD m.key m.l k i g
theorem noteM_fit {m : Jm} (k i g : Int) (h : fitJm m) : (noteM m k i g).l.length ≤ 1048576 := by
  unfold noteM
  split
  · split
    · next hb hd =>
      unfold noteB at hb
      simp only [Bool.and_eq_true] at hb
      have := (journal_facts hb.1).2.1
      simp; omega
    · exact h
  · decide
theorem rd_oneC {w : World} {x y z : Int} {T : TypeId} : RdC (w.alloc (.cells #[.int .i64 x, .int .i64 y, .int .i64 z] T)).heap.size (w.alloc (.cells #[.int .i64 x, .int .i64 y, .int .i64 z] T)) (some ⟨w.heap.size, 0, none⟩) [(x, y, z)] :=
  .inr ⟨w.heap.size, 0, rfl, by simp, fun i hi j hj => by
    have e1 : i = 0 := by simpa using hi
    subst e1
    match j, hj with
    | 0, _ => simp [layC]
    | 1, _ => simp [layC]
    | 2, _ => simp [layC]⟩
theorem journal_run {key : Int} {cs : List Cd} {safe : Int} (h : journalB key cs safe = true) : (runTo cs cs.length).isSome = true := by
  unfold journalB at h
  simp only [Bool.and_eq_true] at h
  exact h.2
theorem served_facts {key : Int} {cs : List Cd} {safe : Int} (h : journalB key cs safe = true) : backsOkB (servedOf cs cs.length) = true ∧ (servedOf cs cs.length).length ≤ 100 := by
  obtain ⟨l, hl⟩ := runTo_back (journal_run h) (Nat.le_refl _)
  have h1 := runTo_ok cs.length l (Nat.le_refl _) hl
  have h2 := (journal_facts h).2.1
  unfold servedOf
  rw [hl]
  exact ⟨h1.1, by simp only [Option.getD_some]; omega⟩
theorem l4replay_any (key : Int) (o : Option Addr) (cap : Nat) (cs : List Cd) (w : World) (hR : RdC w.heap.size w o cs) (hk : keyB key = true) (hl : cs.length ≤ 100) (hrun : (runTo cs cs.length).isSome = true) :
    Calls Try.prog 97 #[.int .i64 key, .slice o cs.length cap] w fun e w' => ∃ o c oR cR hs, e = .returned (plv key (.slice o (servedOf cs cs.length).length c) (.slice oR hs.length cR)) ∧ ownK w' w.heap.size (.slice o (servedOf cs cs.length).length c) (servedOf cs cs.length) ∧ ownL layH 37 w' w.heap.size (.slice oR hs.length cR) hs ∧ PTabs w' w.heap.size key hs (ringR cs cs.length) ∧ hs.length ≤ 3 ∧ Below w.heap.size w w' := by
  rcases hR with hR | ⟨b, off, rfl, hbl, hcell⟩
  · subst hR
    exact l4replay_go key 0 0 cap [] w (fun h => absurd rfl h) (fun i hi => absurd hi (Nat.not_lt_zero _)) hk hl hrun o (fun h => absurd rfl h)
  · exact l4replay_go key b off cap cs w (fun _ => hbl) hcell hk hl hrun _ (fun _ => rfl)

set_option maxRecDepth 100000 in
set_option maxHeartbeats 4000000 in
theorem cloneJournal_any (key safe : Int) (o : Option Addr) (cap : Nat) (l : List Cd) (w : World) (hR : RdC w.heap.size w o l) (hn : o = none → cap = 0) (hl : l.length ≤ 1048576) :
    Calls Try.prog 80 #[jrn key (.slice o l.length cap) safe] w fun e w' => ∃ o2 c2, e = .returned (jrn key (.slice o2 l.length c2) safe) ∧ ownC w' w.heap.size (.slice o2 l.length c2) l ∧ Below w.heap.size w w' := by
  obtain ⟨W0, hW0⟩ : ∃ W, ((w.alloc (.cells #[.int .i64 key, .slice o l.length cap, .int .i64 safe] 47)).alloc (.cells #[.int .i64 0, .slice none 0 0, .int .i64 0] 47)) = W := ⟨_, rfl⟩
  have hb_W0 : Below w.heap.size w W0 := by rw [← hW0]; exact (((Below.refl _ _).alloc (Nat.le_refl _) _).alloc (by simp <;> omega) _)
  have HB := hide hb_W0
  clear hb_W0
  have zz : w.heap.size < W0.heap.size := by rw [← hW0]; simp <;> omega
  have z0 : W0.cell? ⟨w.heap.size, 0, none⟩ = some (.int .i64 key) := by rw [← hW0]; simp [go_sem]
  have z1 : W0.cell? ⟨w.heap.size, 1, none⟩ = some (.slice o l.length cap) := by rw [← hW0]; simp [go_sem]
  have z2 : W0.cell? ⟨w.heap.size, 2, none⟩ = some (.int .i64 safe) := by rw [← hW0]; simp [go_sem]
  have fz0 : W0.frozen? ⟨w.heap.size, 0, none⟩ = false := by rw [← hW0]; simp [go_sem]
  have fz1 : W0.frozen? ⟨w.heap.size, 1, none⟩ = false := by rw [← hW0]; simp [go_sem]
  have fz2 : W0.frozen? ⟨w.heap.size, 2, none⟩ = false := by rw [← hW0]; simp [go_sem]
  have zr : w.heap.size + 1 < W0.heap.size := by rw [← hW0]; simp
  have r0 : W0.cell? ⟨w.heap.size + 1, 0, none⟩ = some (.int .i64 0) := by rw [← hW0]; simp [go_sem]
  have r1 : W0.cell? ⟨w.heap.size + 1, 1, none⟩ = some (.slice none 0 0) := by rw [← hW0]; simp [go_sem]
  have r2 : W0.cell? ⟨w.heap.size + 1, 2, none⟩ = some (.int .i64 0) := by rw [← hW0]; simp [go_sem]
  have fr0 : W0.frozen? ⟨w.heap.size + 1, 0, none⟩ = false := by rw [← hW0]; simp [go_sem]
  have fr1 : W0.frozen? ⟨w.heap.size + 1, 1, none⟩ = false := by rw [← hW0]; simp [go_sem]
  have fr2 : W0.frozen? ⟨w.heap.size + 1, 2, none⟩ = false := by rw [← hW0]; simp [go_sem]
  have hzr := zr
  have HCL := hide (cloneN_any o cap l l.length rfl W0 ((hR.kept HB.out (Nat.le_refl _)).le HB.out.size) hn hl)
  clear hR
  go_enter Try.func80, Try.ntmps80
  go_wp2_with fail
  refine (HCL.out).mono ?_
  rintro e v1 ⟨o2, c2, rfl, ow2, hb⟩
  have HO := hide ow2
  have hs1 := hb.size
  clear ow2
  replace z0 := bC hb z0 zz
  replace z1 := bC hb z1 zz
  replace z2 := bC hb z2 zz
  replace fz0 := bF hb fz0 zz
  replace fz1 := bF hb fz1 zz
  replace fz2 := bF hb fz2 zz
  replace zz := Nat.lt_of_lt_of_le zz hb.size
  replace r0 := bC hb r0 zr
  replace r1 := bC hb r1 zr
  replace r2 := bC hb r2 zr
  replace fr0 := bF hb fr0 zr
  replace fr1 := bF hb fr1 zr
  replace fr2 := bF hb fr2 zr
  replace zr := Nat.lt_of_lt_of_le zr hb.size
  replace HB := hide (HB.out.trans (hb.mono HB.out.size))
  clear hb
  have hzz : w.heap.size < W0.heap.size := by omega
  go_wp2
  refine bodyPost_ret (v := jrn key (.slice o2 l.length c2) safe) (by simp [results, Try.results80, go_sem, r0, r1, r2]) rfl ⟨o2, c2, rfl, own_mono (own_low (own_low (own_low (own_low HO.out hzz 1 _) hzr 0 _) hzr 1 _) hzr 2 _) (by omega), setP_below (HB.out.setCell (p := ⟨w.heap.size, 1, none⟩) (Nat.le_refl _) _) (Nat.le_succ _) _ _ _⟩

set_option maxRecDepth 100000 in
set_option maxHeartbeats 16000000 in
theorem implNote_sh (v : Value) (m : Jm) (k i g : Int) (w : World) (hR : RdJm w.heap.size w v m) (hcp : capJm v) (hf : fitJm m) :
    Calls Try.prog 30 #[v, cmd k i g] w fun e w' => ∃ v', e = .returned (.tuple #[v', .bool (noteF m k i g)]) ∧ InJm w.heap.size w'.heap.size w' v' (noteM m k i g) ∧ Below w.heap.size w w' := by
  have hR0 := hR
  obtain ⟨vl, rfl, ⟨o, c, rfl, r⟩⟩ := hR0
  have hcap := hcp.one
  clear hcp
  obtain ⟨key, l, safe⟩ := m
  dsimp only at *
  have HNM := hide (show noteM ⟨key, l, safe⟩ k i g = if (journalB key l safe && cmdOkB k i g) = true then (if noteD key l k i g = true then ⟨key, l ++ [(k, i, g)], (l.length : Int) + 1⟩ else ⟨key, l, safe⟩) else jm0 from rfl)
  have HNF := hide (show noteF ⟨key, l, safe⟩ k i g = ((journalB key l safe && cmdOkB k i g) && noteD key l k i g) from rfl)
  have HND := hide (show noteD key l k i g = ((doL (servedOf l l.length) k i g).isSome && !decide (100 ≤ l.length)) from rfl)
  have HFA := hide (fun h : journalB key l safe = true => And.intro (journal_facts h) (And.intro (journal_run h) (served_facts h)))
  unfold fitJm at hf
  dsimp only at hf
  obtain ⟨W0, hW0⟩ : ∃ W, (((w.alloc (.cells #[.int .i64 key, .slice o l.length c, .int .i64 safe] 47)).alloc (.cells #[.int .i64 k, .int .i64 i, .int .i64 g] 28)).alloc (.cells #[.int .i64 0, .slice none 0 0, .int .i64 0] 47)) = W := ⟨_, rfl⟩
  have hb_W0 : Below w.heap.size w W0 := by rw [← hW0]; exact ((((Below.refl _ _).alloc (Nat.le_refl _) _).alloc (by simp <;> omega) _).alloc (by simp <;> omega) _)
  have HB := hide hb_W0
  clear hb_W0
  have zz : w.heap.size < W0.heap.size := by rw [← hW0]; simp <;> omega
  have z0 : W0.cell? ⟨w.heap.size, 0, none⟩ = some (.int .i64 key) := by rw [← hW0]; simp [go_sem]
  have z1 : W0.cell? ⟨w.heap.size, 1, none⟩ = some (.slice o l.length c) := by rw [← hW0]; simp [go_sem]
  have z2 : W0.cell? ⟨w.heap.size, 2, none⟩ = some (.int .i64 safe) := by rw [← hW0]; simp [go_sem]
  have zu : w.heap.size + 1 < W0.heap.size := by rw [← hW0]; simp <;> omega
  have u0 : W0.cell? ⟨w.heap.size + 1, 0, none⟩ = some (.int .i64 k) := by rw [← hW0]; simp [go_sem]
  have u1 : W0.cell? ⟨w.heap.size + 1, 1, none⟩ = some (.int .i64 i) := by rw [← hW0]; simp [go_sem]
  have u2 : W0.cell? ⟨w.heap.size + 1, 2, none⟩ = some (.int .i64 g) := by rw [← hW0]; simp [go_sem]
  have zr : w.heap.size + 1 + 1 < W0.heap.size := by rw [← hW0]; simp
  have r0 : W0.cell? ⟨w.heap.size + 1 + 1, 0, none⟩ = some (.int .i64 0) := by rw [← hW0]; simp [go_sem]
  have r1 : W0.cell? ⟨w.heap.size + 1 + 1, 1, none⟩ = some (.slice none 0 0) := by rw [← hW0]; simp [go_sem]
  have r2 : W0.cell? ⟨w.heap.size + 1 + 1, 2, none⟩ = some (.int .i64 0) := by rw [← hW0]; simp [go_sem]
  have fr0 : W0.frozen? ⟨w.heap.size + 1 + 1, 0, none⟩ = false := by rw [← hW0]; simp [go_sem]
  have fr1 : W0.frozen? ⟨w.heap.size + 1 + 1, 1, none⟩ = false := by rw [← hW0]; simp [go_sem]
  have fr2 : W0.frozen? ⟨w.heap.size + 1 + 1, 2, none⟩ = false := by rw [← hW0]; simp [go_sem]
  have hzr := zr
  have HTU := hide (turns_any key safe o c l W0 ((r.kept HB.out (Nat.le_refl _)).le HB.out.size) hf)
  have HDE := hide (fun W => deedOf_any k i g W)
  have HRL := hide r
  clear r hR
  cases hj : journalB key l safe with
  | false =>
    rw [hj] at HTU HNM HNF
    clear HFA hj
    generalize cmdOkB k i g = ck at *
    go_enter Try.func30, Try.ntmps30
    go_wp2_with fail
    refine (HTU.out).mono ?_
    rintro e v1 ⟨v9, rfl, _, hb⟩
    replace z0 := bC hb z0 zz
    replace z1 := bC hb z1 zz
    replace z2 := bC hb z2 zz
    replace zz := Nat.lt_of_lt_of_le zz hb.size
    replace u0 := bC hb u0 zu
    replace u1 := bC hb u1 zu
    replace u2 := bC hb u2 zu
    replace zu := Nat.lt_of_lt_of_le zu hb.size
    replace r0 := bC hb r0 zr
    replace r1 := bC hb r1 zr
    replace r2 := bC hb r2 zr
    replace fr0 := bF hb fr0 zr
    replace fr1 := bF hb fr1 zr
    replace fr2 := bF hb fr2 zr
    replace zr := Nat.lt_of_lt_of_le zr hb.size
    replace HB := hide (HB.out.trans (hb.mono HB.out.size))
    clear hb
    go_wp2_with fail
    refine (HDE.out v1).mono ?_
    rintro e v2 ⟨rfl, hb⟩
    replace z0 := bC hb z0 zz
    replace z1 := bC hb z1 zz
    replace z2 := bC hb z2 zz
    replace zz := Nat.lt_of_lt_of_le zz hb.size
    replace u0 := bC hb u0 zu
    replace u1 := bC hb u1 zu
    replace u2 := bC hb u2 zu
    replace zu := Nat.lt_of_lt_of_le zu hb.size
    replace r0 := bC hb r0 zr
    replace r1 := bC hb r1 zr
    replace r2 := bC hb r2 zr
    replace fr0 := bF hb fr0 zr
    replace fr1 := bF hb fr1 zr
    replace fr2 := bF hb fr2 zr
    replace zr := Nat.lt_of_lt_of_le zr hb.size
    replace HB := hide (HB.out.trans (hb.mono HB.out.size))
    clear hb
    generalize (if ck = true then deedV k i g else .nilIface) = dv
    go_wp2
    refine bodyPost_ret (v := .tuple #[jrn 0 (.slice none 0 0) 0, .bool false]) (by simp [results, Try.results30, go_sem, r0, r1, r2]) rfl ⟨jrn 0 (.slice none 0 0) 0, by rw [HNF.out]; simp, ?_, setP_below HB.out (by omega) _ _ _⟩
    rw [HNM.out, if_neg (by simp)]
    exact ⟨_, rfl, World.ownsRow_nil _ _ _ _, fun b e => by cases e⟩
  | true =>
    obtain ⟨⟨hk, hl, h0, h1⟩, hrun, hbo, hsl⟩ := HFA.out hj
    rw [hj] at HTU HNM HNF
    clear HFA hj
    cases hc : cmdOkB k i g with
    | false =>
      rw [hc] at HDE HNM HNF
      simp only [Bool.false_eq_true, if_false] at HDE
      go_enter Try.func30, Try.ntmps30
      go_wp2_with fail
      refine (HTU.out).mono ?_
      rintro e v1 ⟨v9, rfl, _, hb⟩
      replace z0 := bC hb z0 zz
      replace z1 := bC hb z1 zz
      replace z2 := bC hb z2 zz
      replace zz := Nat.lt_of_lt_of_le zz hb.size
      replace u0 := bC hb u0 zu
      replace u1 := bC hb u1 zu
      replace u2 := bC hb u2 zu
      replace zu := Nat.lt_of_lt_of_le zu hb.size
      replace r0 := bC hb r0 zr
      replace r1 := bC hb r1 zr
      replace r2 := bC hb r2 zr
      replace fr0 := bF hb fr0 zr
      replace fr1 := bF hb fr1 zr
      replace fr2 := bF hb fr2 zr
      replace zr := Nat.lt_of_lt_of_le zr hb.size
      replace HB := hide (HB.out.trans (hb.mono HB.out.size))
      clear hb
      go_wp2_with fail
      refine (HDE.out v1).mono ?_
      rintro e v2 ⟨rfl, hb⟩
      replace z0 := bC hb z0 zz
      replace z1 := bC hb z1 zz
      replace z2 := bC hb z2 zz
      replace zz := Nat.lt_of_lt_of_le zz hb.size
      replace u0 := bC hb u0 zu
      replace u1 := bC hb u1 zu
      replace u2 := bC hb u2 zu
      replace zu := Nat.lt_of_lt_of_le zu hb.size
      replace r0 := bC hb r0 zr
      replace r1 := bC hb r1 zr
      replace r2 := bC hb r2 zr
      replace fr0 := bF hb fr0 zr
      replace fr1 := bF hb fr1 zr
      replace fr2 := bF hb fr2 zr
      replace zr := Nat.lt_of_lt_of_le zr hb.size
      replace HB := hide (HB.out.trans (hb.mono HB.out.size))
      clear hb
      go_wp2
      refine bodyPost_ret (v := .tuple #[jrn 0 (.slice none 0 0) 0, .bool false]) (by simp [results, Try.results30, go_sem, r0, r1, r2]) rfl ⟨jrn 0 (.slice none 0 0) 0, by rw [HNF.out]; simp, ?_, setP_below HB.out (by omega) _ _ _⟩
      rw [HNM.out, if_neg (by simp)]
      exact ⟨_, rfl, World.ownsRow_nil _ _ _ _, fun b e => by cases e⟩
    | true =>
      have HBA := hide (fun o c W h1 h2 => backsAfter_any o c (servedOf l l.length) k i g W h1 h2 (by omega) hc)
      rw [hc] at HDE HNM HNF
      simp only [if_true] at HDE
      generalize deedV k i g = dv at *
      obtain ⟨sv, hsv⟩ : ∃ s, servedOf l l.length = s := ⟨_, rfl⟩
      rw [hsv] at HBA HND hbo hsl
      have HSV := hide hsv
      clear hc hsv
      go_enter Try.func30, Try.ntmps30
      go_wp2_with fail
      refine (HTU.out).mono ?_
      rintro e v1 ⟨v9, rfl, hown9, hb⟩
      obtain ⟨hs, ho9, hs9⟩ := hown9 (by simp)
      have HO9 := hide ho9
      have HS9 := hide hs9
      have hs1 := hb.size
      clear hown9 ho9 hs9
      replace z0 := bC hb z0 zz
      replace z1 := bC hb z1 zz
      replace z2 := bC hb z2 zz
      replace zz := Nat.lt_of_lt_of_le zz hb.size
      replace u0 := bC hb u0 zu
      replace u1 := bC hb u1 zu
      replace u2 := bC hb u2 zu
      replace zu := Nat.lt_of_lt_of_le zu hb.size
      replace r0 := bC hb r0 zr
      replace r1 := bC hb r1 zr
      replace r2 := bC hb r2 zr
      replace fr0 := bF hb fr0 zr
      replace fr1 := bF hb fr1 zr
      replace fr2 := bF hb fr2 zr
      replace zr := Nat.lt_of_lt_of_le zr hb.size
      replace HB := hide (HB.out.trans (hb.mono HB.out.size))
      clear hb
      have HLN := hide HS9.out.len
      obtain ⟨g9, c9, e9⟩ := own_someH HO9.out (by rw [HLN.out]; omega)
      subst e9
      go_wp2_with fail
      refine (HDE.out v1).mono ?_
      rintro e v2 ⟨rfl, hb⟩
      have hs2 := hb.size
      replace z0 := bC hb z0 zz
      replace z1 := bC hb z1 zz
      replace z2 := bC hb z2 zz
      replace zz := Nat.lt_of_lt_of_le zz hb.size
      replace u0 := bC hb u0 zu
      replace u1 := bC hb u1 zu
      replace u2 := bC hb u2 zu
      replace zu := Nat.lt_of_lt_of_le zu hb.size
      replace r0 := bC hb r0 zr
      replace r1 := bC hb r1 zr
      replace r2 := bC hb r2 zr
      replace fr0 := bF hb fr0 zr
      replace fr1 := bF hb fr1 zr
      replace fr2 := bF hb fr2 zr
      replace zr := Nat.lt_of_lt_of_le zr hb.size
      replace HS9 := hide (HS9.out.kept hb)
      replace HO9 := hide (own_kept HO9.out hb)
      replace HB := hide (HB.out.trans (hb.mono HB.out.size))
      clear hb
      have HCJ := hide (cloneJournal_any key safe o c l v2 ((HRL.out.kept HB.out (Nat.le_refl _)).le HB.out.size) hcap hf)
      go_wp2_with fail
      refine (HCJ.out).mono ?_
      rintro e v3 ⟨o2, c2, rfl, ow2, hb⟩
      have HOX := hide ow2
      have hs3 := hb.size
      clear ow2
      replace z0 := bC hb z0 zz
      replace z1 := bC hb z1 zz
      replace z2 := bC hb z2 zz
      replace zz := Nat.lt_of_lt_of_le zz hb.size
      replace u0 := bC hb u0 zu
      replace u1 := bC hb u1 zu
      replace u2 := bC hb u2 zu
      replace zu := Nat.lt_of_lt_of_le zu hb.size
      replace r0 := bC hb r0 zr
      replace r1 := bC hb r1 zr
      replace r2 := bC hb r2 zr
      replace fr0 := bF hb fr0 zr
      replace fr1 := bF hb fr1 zr
      replace fr2 := bF hb fr2 zr
      replace zr := Nat.lt_of_lt_of_le zr hb.size
      replace HS9 := hide (HS9.out.kept hb)
      replace HO9 := hide (own_kept HO9.out hb)
      replace HB := hide (HB.out.trans (hb.mono HB.out.size))
      clear hb
      have HLTX := hide (fun b (e : (Value.slice o2 l.length c2).ownBlock = some b) => (HOX.out.lt b e).2)
      obtain ⟨W4, hW4⟩ : ∃ W, (v3.alloc (.cells #[.int .i64 key, .slice o2 l.length c2, .int .i64 safe] 47)) = W := ⟨_, rfl⟩
      have hb_W4 : Below v3.heap.size v3 W4 := by rw [← hW4]; exact ((Below.refl _ _).alloc (Nat.le_refl _) _)
      replace z0 := bC hb_W4 z0 zz
      replace z1 := bC hb_W4 z1 zz
      replace z2 := bC hb_W4 z2 zz
      replace zz := Nat.lt_of_lt_of_le zz hb_W4.size
      replace u0 := bC hb_W4 u0 zu
      replace u1 := bC hb_W4 u1 zu
      replace u2 := bC hb_W4 u2 zu
      replace zu := Nat.lt_of_lt_of_le zu hb_W4.size
      replace r0 := bC hb_W4 r0 zr
      replace r1 := bC hb_W4 r1 zr
      replace r2 := bC hb_W4 r2 zr
      replace fr0 := bF hb_W4 fr0 zr
      replace fr1 := bF hb_W4 fr1 zr
      replace fr2 := bF hb_W4 fr2 zr
      replace zr := Nat.lt_of_lt_of_le zr hb_W4.size
      replace HS9 := hide (HS9.out.kept hb_W4)
      replace HO9 := hide (own_kept HO9.out hb_W4)
      replace HOX := hide (own_kept HOX.out hb_W4)
      replace HB := hide (HB.out.trans (hb_W4.mono HB.out.size))
      clear hb_W4
      have zx : v3.heap.size < W4.heap.size := by rw [← hW4]; simp
      have x0 : W4.cell? ⟨v3.heap.size, 0, none⟩ = some (.int .i64 key) := by rw [← hW4]; simp [go_sem]
      have x1 : W4.cell? ⟨v3.heap.size, 1, none⟩ = some (.slice o2 l.length c2) := by rw [← hW4]; simp [go_sem]
      have x2 : W4.cell? ⟨v3.heap.size, 2, none⟩ = some (.int .i64 safe) := by rw [← hW4]; simp [go_sem]
      have hx4 : W4.heap[v3.heap.size]? = some (.cells #[.int .i64 key, .slice o2 l.length c2, .int .i64 safe] 47 (0, 0)) := by rw [← hW4]; exact World.alloc_heap_new v3 _
      have hs4 : v3.heap.size < W4.heap.size := zx
      obtain ⟨o', c', e', hr'⟩ := ownL.open (L := layK) (HS9.out.row l.length (by omega))
      have hown := HS9.out.row l.length (by omega)
      rw [HSV.out] at e' hr' hown
      rw [e'] at hown
      have hcl := head_cell HO9.out l.length (by rw [HLN.out]; omega)
      rw [e'] at hcl
      have hnk : (l.length : Int) < (hs.length : Int) := by have := HLN.out; omega
      have HA2 := hide (HBA.out o' c' W4 hr' (own_capK hown))
      clear hr' hown e' HBA
      cases hdo : doL sv k i g with
      | none =>
        rw [hdo] at HA2 HND
        simp only [Option.isSome_none] at HA2
        have HNDl := hide (show noteD key l k i g = false by rw [HND.out]; rfl)
        clear hdo
        go_wp2_with fail
        refine (HA2.out).mono ?_
        rintro e v4 ⟨v5, rfl, _, hb⟩
        have hs5 := hb.size
        replace z0 := bC hb z0 zz
        replace z1 := bC hb z1 zz
        replace z2 := bC hb z2 zz
        replace zz := Nat.lt_of_lt_of_le zz hb.size
        replace u0 := bC hb u0 zu
        replace u1 := bC hb u1 zu
        replace u2 := bC hb u2 zu
        replace zu := Nat.lt_of_lt_of_le zu hb.size
        replace r0 := bC hb r0 zr
        replace r1 := bC hb r1 zr
        replace r2 := bC hb r2 zr
        replace fr0 := bF hb fr0 zr
        replace fr1 := bF hb fr1 zr
        replace fr2 := bF hb fr2 zr
        replace zr := Nat.lt_of_lt_of_le zr hb.size
        replace x0 := bC hb x0 zx
        replace x1 := bC hb x1 zx
        replace x2 := bC hb x2 zx
        replace zx := Nat.lt_of_lt_of_le zx hb.size
        replace HS9 := hide (HS9.out.kept hb)
        replace HO9 := hide (own_kept HO9.out hb)
        replace HOX := hide (own_kept HOX.out hb)
        replace HB := hide (HB.out.trans (hb.mono HB.out.size))
        clear hb
        have hrb : w.heap.size + 1 + 1 < v2.heap.size := by omega
        go_wp2
        refine bodyPost_ret (v := .tuple #[jrn key (.slice o2 l.length c2) safe, .bool false]) (by simp [results, Try.results30, go_sem, r0, r1, r2]) rfl ⟨jrn key (.slice o2 l.length c2) safe, by rw [HNF.out, HNDl.out]; simp, ?_, setP_below HB.out (by omega) _ _ _⟩
        rw [HNM.out, if_pos (by simp), if_neg (by rw [HNDl.out]; simp)]
        exact ⟨_, rfl, InRow.of (own_mono (own_low (own_low (own_low HOX.out hrb 0 _) hrb 1 _) hrb 2 _) (by omega))⟩
      | some mm =>
        rw [hdo] at HA2 HND
        simp only [Option.isSome_some] at HA2
        clear hdo
        by_cases h100 : l.length = 100
        · have HNDl := hide (show noteD key l k i g = false by rw [HND.out, h100]; rfl)
          have h100' : (l.length : Int) = 100 := by omega
          have h100d : ((l.length : Int) == 100) = true := beq_iff_eq.2 h100'
          clear h100 h100'
          go_wp2_with fail
          refine (HA2.out).mono ?_
          rintro e v4 ⟨v5, rfl, _, hb⟩
          have hs5 := hb.size
          replace z0 := bC hb z0 zz
          replace z1 := bC hb z1 zz
          replace z2 := bC hb z2 zz
          replace zz := Nat.lt_of_lt_of_le zz hb.size
          replace u0 := bC hb u0 zu
          replace u1 := bC hb u1 zu
          replace u2 := bC hb u2 zu
          replace zu := Nat.lt_of_lt_of_le zu hb.size
          replace r0 := bC hb r0 zr
          replace r1 := bC hb r1 zr
          replace r2 := bC hb r2 zr
          replace fr0 := bF hb fr0 zr
          replace fr1 := bF hb fr1 zr
          replace fr2 := bF hb fr2 zr
          replace zr := Nat.lt_of_lt_of_le zr hb.size
          replace x0 := bC hb x0 zx
          replace x1 := bC hb x1 zx
          replace x2 := bC hb x2 zx
          replace zx := Nat.lt_of_lt_of_le zx hb.size
          replace HS9 := hide (HS9.out.kept hb)
          replace HO9 := hide (own_kept HO9.out hb)
          replace HOX := hide (own_kept HOX.out hb)
          replace HB := hide (HB.out.trans (hb.mono HB.out.size))
          clear hb
          have hrb : w.heap.size + 1 + 1 < v2.heap.size := by omega
          go_wp2
          refine bodyPost_ret (v := .tuple #[jrn key (.slice o2 l.length c2) safe, .bool false]) (by simp [results, Try.results30, go_sem, r0, r1, r2]) rfl ⟨jrn key (.slice o2 l.length c2) safe, by rw [HNF.out, HNDl.out]; simp, ?_, setP_below HB.out (by omega) _ _ _⟩
          rw [HNM.out, if_pos (by simp), if_neg (by rw [HNDl.out]; simp)]
          exact ⟨_, rfl, InRow.of (own_mono (own_low (own_low (own_low HOX.out hrb 0 _) hrb 1 _) hrb 2 _) (by omega))⟩
        · have HNDl := hide (show noteD key l k i g = true by rw [HND.out, decide_eq_false (by omega)]; rfl)
          have h100d : ((l.length : Int) == 100) = false := beq_eq_false_iff_ne.2 (by omega)
          go_wp2_with fail
          refine (HA2.out).mono ?_
          rintro e v4 ⟨v5, rfl, _, hb⟩
          have hs5 := hb.size
          have hx5 := (hb.block _ (show _ < W4.heap.size from hs4)).trans hx4
          replace z0 := bC hb z0 zz
          replace z1 := bC hb z1 zz
          replace z2 := bC hb z2 zz
          replace zz := Nat.lt_of_lt_of_le zz hb.size
          replace u0 := bC hb u0 zu
          replace u1 := bC hb u1 zu
          replace u2 := bC hb u2 zu
          replace zu := Nat.lt_of_lt_of_le zu hb.size
          replace r0 := bC hb r0 zr
          replace r1 := bC hb r1 zr
          replace r2 := bC hb r2 zr
          replace fr0 := bF hb fr0 zr
          replace fr1 := bF hb fr1 zr
          replace fr2 := bF hb fr2 zr
          replace zr := Nat.lt_of_lt_of_le zr hb.size
          replace x0 := bC hb x0 zx
          replace x1 := bC hb x1 zx
          replace x2 := bC hb x2 zx
          replace zx := Nat.lt_of_lt_of_le zx hb.size
          replace HS9 := hide (HS9.out.kept hb)
          replace HO9 := hide (own_kept HO9.out hb)
          replace HOX := hide (own_kept HOX.out hb)
          replace HB := hide (HB.out.trans (hb.mono HB.out.size))
          clear hb
          have hrb : w.heap.size + 1 + 1 < v2.heap.size := by omega
          have hxb := hx5
          go_wp2_with (at_builtin; refine wpList_append_lay appC0 rfl (.tmp 53) (.tmp 55) rfl v2.heap.size _ l rfl (World.ownsRow.alloc HOX.out (.cells #[.int .i64 k, .int .i64 i, .int .i64 g] 28)) (some ⟨v4.heap.size, 0, none⟩) 1 (v4.alloc (.cells #[.int .i64 k, .int .i64 i, .int .i64 g] 28)).heap.size [(k, i, g)] 1 rfl rfl (fun h => by cases h) rd_oneC (by simp; omega) (by simp; omega) ?_)
          intro v6 w6 ho6 hg6 _
          obtain ⟨o6, c6, e6, _⟩ := ownL.open (L := layC) ho6
          rw [show (l ++ [(k, i, g)]).length = l.length + 1 by simp] at e6
          subst e6
          have hb6 : Below v2.heap.size v4 w6 := ((Below.refl v4.heap.size v4).alloc (Nat.le_refl _) (.cells #[.int .i64 k, .int .i64 i, .int .i64 g] 28)).mono (by omega) |>.grown hg6 (by simp; omega) (fun k h => (HOX.out.lt k h).1)
          have hx6 : w6.heap[v3.heap.size]? = some (.cells #[.int .i64 key, .slice o2 l.length c2, .int .i64 safe] 47 (0, 0)) := (hg6.block _ (by have := (Array.getElem?_eq_some_iff.1 hxb).1; simp; omega) (fun e => by have := HLTX.out _ e.symm; omega)).trans ((Below.heap_alloc _ _ _ (Array.getElem?_eq_some_iff.1 hxb).1).trans hxb)
          have HO6 : Hid (ownC w6 v2.heap.size (.slice o6 (l.length + 1) c6) (l ++ [(k, i, g)])) := ho6
          clear ho6 hg6
          replace r0 := bC hb6 r0 (show _ < _ by omega)
          replace fr0 := bF hb6 fr0 (show _ < _ by omega)
          replace r1 := bC hb6 r1 (show _ < _ by omega)
          replace fr1 := bF hb6 fr1 (show _ < _ by omega)
          replace r2 := bC hb6 r2 (show _ < _ by omega)
          replace fr2 := bF hb6 fr2 (show _ < _ by omega)
          have HB6 := hide (HB.out.trans (hb6.mono (by omega)))
          clear hb6 HB
          obtain ⟨W7, hW7⟩ : ∃ W, w6.setCell ⟨v3.heap.size, 1, none⟩ (.slice o6 (l.length + 1) c6) = W := ⟨_, rfl⟩
          have h7 : W7.heap[v3.heap.size]? = some (.cells #[.int .i64 key, .slice o6 (l.length + 1) c6, .int .i64 safe] 47 (0, 0)) := by rw [← hW7]; exact box_put hx6 1 _
          obtain ⟨W8, hW8⟩ : ∃ W, W7.setCell ⟨v3.heap.size, 2, none⟩ (.int .i64 ((l.length : Int) + 1)) = W := ⟨_, rfl⟩
          have h8 : W8.heap[v3.heap.size]? = some (.cells #[.int .i64 key, .slice o6 (l.length + 1) c6, .int .i64 ((l.length : Int) + 1)] 47 (0, 0)) := by rw [← hW8]; exact box_put h7 2 _
          have a60 : w6.cell? ⟨v3.heap.size, 0, none⟩ = some (.int .i64 key) := bx_cell hx6 0 _ rfl
          have g60 := bx_frozen hx6 0
          have a61 : w6.cell? ⟨v3.heap.size, 1, none⟩ = some (.slice o2 l.length c2) := bx_cell hx6 1 _ rfl
          have g61 := bx_frozen hx6 1
          have a62 : w6.cell? ⟨v3.heap.size, 2, none⟩ = some (.int .i64 safe) := bx_cell hx6 2 _ rfl
          have g62 := bx_frozen hx6 2
          have a70 : W7.cell? ⟨v3.heap.size, 0, none⟩ = some (.int .i64 key) := bx_cell h7 0 _ rfl
          have g70 := bx_frozen h7 0
          have a71 : W7.cell? ⟨v3.heap.size, 1, none⟩ = some (.slice o6 (l.length + 1) c6) := bx_cell h7 1 _ rfl
          have g71 := bx_frozen h7 1
          have a72 : W7.cell? ⟨v3.heap.size, 2, none⟩ = some (.int .i64 safe) := bx_cell h7 2 _ rfl
          have g72 := bx_frozen h7 2
          have a80 : W8.cell? ⟨v3.heap.size, 0, none⟩ = some (.int .i64 key) := bx_cell h8 0 _ rfl
          have a81 : W8.cell? ⟨v3.heap.size, 1, none⟩ = some (.slice o6 (l.length + 1) c6) := bx_cell h8 1 _ rfl
          have a82 : W8.cell? ⟨v3.heap.size, 2, none⟩ = some (.int .i64 ((l.length : Int) + 1)) := bx_cell h8 2 _ rfl
          have hneB : w.heap.size + 1 + 1 ≠ v3.heap.size := by omega
          have q80 : W8.cell? ⟨w.heap.size + 1 + 1, 0, none⟩ = some (.int .i64 0) := by rw [← hW8, ← hW7]; exact (cell_far hneB).trans ((cell_far hneB).trans r0)
          have p80 : W8.frozen? ⟨w.heap.size + 1 + 1, 0, none⟩ = false := by rw [← hW8, ← hW7]; exact (frozen_far hneB).trans ((frozen_far hneB).trans fr0)
          have q81 : W8.cell? ⟨w.heap.size + 1 + 1, 1, none⟩ = some (.slice none 0 0) := by rw [← hW8, ← hW7]; exact (cell_far hneB).trans ((cell_far hneB).trans r1)
          have p81 : W8.frozen? ⟨w.heap.size + 1 + 1, 1, none⟩ = false := by rw [← hW8, ← hW7]; exact (frozen_far hneB).trans ((frozen_far hneB).trans fr1)
          have q82 : W8.cell? ⟨w.heap.size + 1 + 1, 2, none⟩ = some (.int .i64 0) := by rw [← hW8, ← hW7]; exact (cell_far hneB).trans ((cell_far hneB).trans r2)
          have p82 : W8.frozen? ⟨w.heap.size + 1 + 1, 2, none⟩ = false := by rw [← hW8, ← hW7]; exact (frozen_far hneB).trans ((frozen_far hneB).trans fr2)
          have HO8 : Hid (ownC W8 v2.heap.size (.slice o6 (l.length + 1) c6) (l ++ [(k, i, g)])) := by rw [← hW8, ← hW7]; exact own_putJ (own_putJ HO6.out hx6 1 _) (box_put hx6 1 _) 2 _
          have HB8 : Hid (Below w.heap.size w W8) := by rw [← hW8, ← hW7]; exact (HB6.out.setCell (p := ⟨v3.heap.size, 1, none⟩) (show w.heap.size ≤ v3.heap.size by omega) _).setCell (p := ⟨v3.heap.size, 2, none⟩) (show w.heap.size ≤ v3.heap.size by omega) _
          clear r0 fr0 r1 fr1 r2 fr2
          go_wp2
          refine bodyPost_ret (v := .tuple #[jrn key (.slice o6 (l.length + 1) c6) ((l.length : Int) + 1), .bool true]) (by simp [results, Try.results30, go_sem, q80, q81, q82]) rfl ⟨jrn key (.slice o6 (l.length + 1) c6) ((l.length : Int) + 1), by rw [HNF.out, HNDl.out]; simp, ?_, setP_below HB8.out (by omega) _ _ _⟩
          rw [HNM.out, if_pos (by simp), if_pos HNDl.out]
          exact ⟨_, rfl, InRow.of (own_mono (own_low (own_low (own_low HO8.out hrb 0 _) hrb 1 _) hrb 2 _) (by omega))⟩

end Go.Proofs.Ytldjaapbkihibaa

/- Replay, on both sides. -/
namespace Go.Proofs.Ytldjaapbkihibaa
open Go.ChangeShapes Go.WideShapes Go.ChangeAt Go.RowKit Go.Joins
set_option linter.unusedVariables false
set_option linter.unusedSimpArgs false

def replayM (m : Jm) : Pm := if journalB m.key m.l m.safe = true then ⟨m.key, servedOf m.l m.l.length, ringT m.key (ringR m.l m.l.length)⟩ else pm0
theorem ringR_len (cs : List Cd) : ∀ n, (ringR cs n).length ≤ 3
  | 0 => by simp [ringR]
  | n + 1 => by rw [ringR, List.length_take]; omega
theorem replay_fit (m : Jm) : fitPm (replayM m) := by
  unfold replayM
  split
  · next h => exact ringT_fit m.key _ _ (by have := (served_facts h).2; omega) (ringR_len _ _)
  · exact ⟨by simp [pm0], by simp [pm0], by simp [pm0, szR, sumN], fun i hi => absurd hi (Nat.not_lt_zero _), fun i hi => absurd hi (Nat.not_lt_zero _)⟩
theorem ptabs_g {w : World} {base : Nat} {key : Int} {hs : List Hd} {R : List (List Bk)} (h : PTabs w base key hs R) : GTabs w base hs (ringT key R) := by
  refine ⟨by rw [h.1]; simp [ringT], fun i hi => ?_⟩
  have hi' : i < R.length := by simpa [ringT] using hi
  obtain ⟨o3, c3, hs8, e, h1, h2⟩ := h.2 i hi'
  rw [ringT_get _ _ _ hi']
  exact ⟨o3, c3, hs8, by rw [newT_len]; exact e, by rw [newT_len]; exact h1, tab_new h2⟩
/-- Those who served from the a-th time on, the latest first. -/
def lastS (cs : List Cd) (a : Nat) : Nat → List (List Bk)
  | 0 => []
  | j + 1 => servedOf cs (a + j) :: lastS cs a j
theorem lastS_len (cs : List Cd) (a : Nat) : ∀ j, (lastS cs a j).length = j
  | 0 => rfl
  | j + 1 => by simp [lastS, lastS_len cs a j]
theorem lastS_step (cs : List Cd) (a j : Nat) (key : Int) (hj : j ≤ 2) : newF key (servedOf cs (a + j)) :: ((lastS cs a j).map (newF key)).take 2 = (lastS cs a (j + 1)).map (newF key) := by
  rw [List.take_of_length_le (by rw [List.length_map, lastS_len]; exact hj)]
  rfl
theorem served_zero (cs : List Cd) : servedOf cs 0 = [] := rfl
theorem ringR_three (cs : List Cd) : ∀ n, ringR cs (n + 2) = [servedOf cs (n + 2), servedOf cs (n + 1), servedOf cs n]
  | 0 => rfl
  | n + 1 => by rw [ringR, ringR_three cs n]; rfl
theorem ringR_last (cs : List Cd) (n : Nat) : ringR cs n = lastS cs (n + 1 - 3) (n + 1 - (n + 1 - 3)) := by
  match n with
  | 0 => rfl
  | 1 => rfl
  | n + 2 =>
    rw [ringR_three, show n + 2 + 1 - 3 = n by omega, show n + 2 + 1 - n = 3 by omega]
    simp [lastS]
theorem lastS_ok {cs : List Cd} {a : Nat} (h : ∀ q, q < cs.length + 1 → backsOkB (servedOf cs q) = true) : ∀ j, a + j ≤ cs.length + 1 → ∀ l ∈ lastS cs a j, backsOkB l = true
  | 0, _ => fun l hl => by simp [lastS] at hl
  | j + 1, hj => fun l hl => by
    rcases List.mem_cons.1 hl with rfl | hl
    · exact h _ (by omega)
    · exact lastS_ok h j (by omega) l hl
theorem last_tabs {key : Int} {L : List (List Bk)} (h : ∀ l ∈ L, backsOkB l = true) : (L.map (newF key)).map ptLL = ringT key L := by
  rw [List.map_map]
  exact List.map_congr_left (fun l hl => ptLL_new key (h l hl))
theorem served_each {key safe : Int} {cs : List Cd} (h : journalB key cs safe = true) : ∀ q, q < cs.length + 1 → backsOkB (servedOf cs q) = true ∧ (servedOf cs q).length ≤ 100 := fun q hq => by
  obtain ⟨l, hl⟩ := runTo_back (journal_run h) (show q ≤ cs.length by omega)
  have h1 := runTo_ok q l (by omega) hl
  have h2 := (journal_facts h).2.1
  unfold servedOf
  rw [hl]
  exact ⟨h1.1, by simp only [Option.getD_some]; omega⟩

set_option maxRecDepth 100000 in
set_option maxHeartbeats 8000000 in
theorem specReplay_sh (v : Value) (m : Jm) (w : World) (hR : RdJm w.heap.size w v m) (hcp : capJm v) (hf : fitJm m) :
    Calls Try.prog 48 #[v] w fun e w' => ∃ v', e = .returned (.tuple #[v', .bool (journalB m.key m.l m.safe)]) ∧ RiPm w.heap.size w'.heap.size w' v' (replayM m) ∧ Below w.heap.size w w' := by
  have hR0 := hR
  obtain ⟨vl, rfl, ⟨o, c, rfl, r⟩⟩ := hR0
  clear hcp hR
  obtain ⟨key, l, safe⟩ := m
  dsimp only at *
  have HPM := hide (show replayM ⟨key, l, safe⟩ = if journalB key l safe = true then ⟨key, servedOf l l.length, ringT key (ringR l l.length)⟩ else pm0 from rfl)
  have HFA := hide (fun h : journalB key l safe = true => And.intro (journal_facts h) (And.intro (journal_run h) (And.intro (served_each h) (replay_fit ⟨key, l, safe⟩))))
  unfold fitJm at hf
  dsimp only at hf
  obtain ⟨W0, hW0⟩ : ∃ W, ((w.alloc (.cells #[.int .i64 key, .slice o l.length c, .int .i64 safe] 47)).alloc (.cells #[.int .i64 0, .slice none 0 0, .slice none 0 0] 26)) = W := ⟨_, rfl⟩
  have hb_W0 : Below w.heap.size w W0 := by rw [← hW0]; exact (((Below.refl _ _).alloc (Nat.le_refl _) _).alloc (by simp <;> omega) _)
  have HB := hide hb_W0
  clear hb_W0
  have zz : w.heap.size < W0.heap.size := by rw [← hW0]; simp <;> omega
  have z0 : W0.cell? ⟨w.heap.size, 0, none⟩ = some (.int .i64 key) := by rw [← hW0]; simp [go_sem]
  have z1 : W0.cell? ⟨w.heap.size, 1, none⟩ = some (.slice o l.length c) := by rw [← hW0]; simp [go_sem]
  have z2 : W0.cell? ⟨w.heap.size, 2, none⟩ = some (.int .i64 safe) := by rw [← hW0]; simp [go_sem]
  have zr : w.heap.size + 1 < W0.heap.size := by rw [← hW0]; simp
  have r0 : W0.cell? ⟨w.heap.size + 1, 0, none⟩ = some (.int .i64 0) := by rw [← hW0]; simp [go_sem]
  have r1 : W0.cell? ⟨w.heap.size + 1, 1, none⟩ = some (.slice none 0 0) := by rw [← hW0]; simp [go_sem]
  have r2 : W0.cell? ⟨w.heap.size + 1, 2, none⟩ = some (.slice none 0 0) := by rw [← hW0]; simp [go_sem]
  have fr0 : W0.frozen? ⟨w.heap.size + 1, 0, none⟩ = false := by rw [← hW0]; simp [go_sem]
  have fr1 : W0.frozen? ⟨w.heap.size + 1, 1, none⟩ = false := by rw [← hW0]; simp [go_sem]
  have fr2 : W0.frozen? ⟨w.heap.size + 1, 2, none⟩ = false := by rw [← hW0]; simp [go_sem]
  have hzr := zr
  have HJO := hide (specJournalOk_any key safe o c l W0 ((r.kept HB.out (Nat.le_refl _)).le HB.out.size) hf)
  have HRL := hide r
  clear r
  cases hj : journalB key l safe with
  | false =>
    rw [hj] at HJO HPM
    clear HFA hj
    go_enter Try.func48, Try.ntmps48
    go_wp2_with fail
    refine (HJO.out).mono ?_
    rintro e v1 ⟨rfl, hb⟩
    replace z0 := bC hb z0 zz
    replace z1 := bC hb z1 zz
    replace z2 := bC hb z2 zz
    replace zz := Nat.lt_of_lt_of_le zz hb.size
    replace r0 := bC hb r0 zr
    replace r1 := bC hb r1 zr
    replace r2 := bC hb r2 zr
    replace fr0 := bF hb fr0 zr
    replace fr1 := bF hb fr1 zr
    replace fr2 := bF hb fr2 zr
    replace zr := Nat.lt_of_lt_of_le zr hb.size
    replace HB := hide (HB.out.trans (hb.mono HB.out.size))
    clear hb
    go_wp2
    refine bodyPost_ret (v := .tuple #[plv 0 (.slice none 0 0) (.slice none 0 0), .bool false]) (by simp [results, Try.results48, go_sem, r0, r1, r2]) rfl ⟨_, rfl, ?_, setQ_below HB.out (Nat.le_succ _) _ _ _⟩
    rw [HPM.out, if_neg (by simp)]
    exact pm0_ri _ _ _
  | true =>
    obtain ⟨⟨hk, hl, h0, h1⟩, hrun, hse, hfi⟩ := HFA.out hj
    have HSE := hide hse
    rw [HPM.out, if_pos hj] at hfi
    have HFI := hide hfi
    have HK := hide hk
    rw [hj] at HJO HPM
    clear HFA hj hse hk hfi
    go_enter Try.func48, Try.ntmps48
    go_wp2_with fail
    refine (HJO.out).mono ?_
    rintro e v1 ⟨rfl, hb⟩
    have hs1 := hb.size
    replace z0 := bC hb z0 zz
    replace z1 := bC hb z1 zz
    replace z2 := bC hb z2 zz
    replace zz := Nat.lt_of_lt_of_le zz hb.size
    replace r0 := bC hb r0 zr
    replace r1 := bC hb r1 zr
    replace r2 := bC hb r2 zr
    replace fr0 := bF hb fr0 zr
    replace fr1 := bF hb fr1 zr
    replace fr2 := bF hb fr2 zr
    replace zr := Nat.lt_of_lt_of_le zr hb.size
    replace HB := hide (HB.out.trans (hb.mono HB.out.size))
    clear hb
    have HRP := hide (l4replay_any key o c l v1 ((HRL.out.kept HB.out (Nat.le_refl _)).le HB.out.size) HK.out hl hrun)
    clear hrun
    go_wp2_with fail
    refine (HRP.out).mono ?_
    rintro e v2 ⟨oB, cB, oR, cR, hs, rfl, owB, owR, pt, hs3, hb⟩
    have hs2 := hb.size
    have HPT := hide (And.intro owB (And.intro owR pt))
    clear owB owR pt
    replace z0 := bC hb z0 zz
    replace z1 := bC hb z1 zz
    replace z2 := bC hb z2 zz
    replace zz := Nat.lt_of_lt_of_le zz hb.size
    replace r0 := bC hb r0 zr
    replace r1 := bC hb r1 zr
    replace r2 := bC hb r2 zr
    replace fr0 := bF hb fr0 zr
    replace fr1 := bF hb fr1 zr
    replace fr2 := bF hb fr2 zr
    replace zr := Nat.lt_of_lt_of_le zr hb.size
    replace HB := hide (HB.out.trans (hb.mono HB.out.size))
    clear hb
    have HSN := hide (HSE.out l.length (by omega))
    obtain ⟨sv, hsv⟩ : ∃ s, servedOf l l.length = s := ⟨_, rfl⟩
    obtain ⟨rg, hrg⟩ : ∃ s, ringT key (ringR l l.length) = s := ⟨_, rfl⟩
    have HG := hide (ptabs_g HPT.out.2.2)
    have HOB := hide HPT.out.1
    have HOR := hide HPT.out.2.1
    rw [hsv] at HPM HFI HSN HOB
    rw [hrg] at HPM HFI HG
    rw [hsv]
    clear hsv hrg HPT
    have HRK := hide (ownL.rds (L := layK) HOB.out)
    have hcb := (fun e => (InRow.cap (InRow.of HOB.out)) sv.length cB (by rw [e]) : oB = none → cB = 0)
    have HOW := hide (l4own_go key oB cB sv oR cR rg hs.length HG.out.1 v2 HRK.out hcb (by have := HSN.out.2; omega) (RcR.mon.go (HG.out.rc HOR.out) (Nat.zero_le _) (Nat.le_refl _)) (by omega) HFI.out.2.2.2.1 HFI.out.2.2.2.2)
    skip
    go_wp2_with fail
    refine (HOW.out).mono ?_
    rintro e v3 ⟨v9, rfl, hin, hb⟩
    have HIN := hide hin
    have hs4 := hb.size
    clear hin
    obtain ⟨o9, c9, oR9, cR9, e9⟩ : ∃ (o9 : Option Addr) (c9 : Nat) (oR9 : Option Addr) (cR9 : Nat), v9 = plv key (.slice o9 sv.length c9) (.slice oR9 rg.length cR9) := HIN.out.opn
    subst e9
    replace z0 := bC hb z0 zz
    replace z1 := bC hb z1 zz
    replace z2 := bC hb z2 zz
    replace zz := Nat.lt_of_lt_of_le zz hb.size
    replace r0 := bC hb r0 zr
    replace r1 := bC hb r1 zr
    replace r2 := bC hb r2 zr
    replace fr0 := bF hb fr0 zr
    replace fr1 := bF hb fr1 zr
    replace fr2 := bF hb fr2 zr
    replace zr := Nat.lt_of_lt_of_le zr hb.size
    replace HB := hide (HB.out.trans (hb.mono HB.out.size))
    clear hb
    go_wp2
    refine bodyPost_ret (v := .tuple #[plv key (.slice o9 sv.length c9) (.slice oR9 rg.length cR9), .bool true]) (by simp [results, Try.results48, go_sem, r0, r1, r2]) rfl ⟨_, rfl, ?_, setQ_below HB.out (Nat.le_succ _) _ _ _⟩
    rw [HPM.out, if_pos trivial, setQ_size]
    exact (HIN.out.step (stp_setQ v3 (w.heap.size + 1) _ _ _) (.inl (by omega))).mono (by omega) (Nat.le_refl _)

end Go.Proofs.Ytldjaapbkihibaa

/- The program's Replay. -/
namespace Go.Proofs.Ytldjaapbkihibaa
open Go.ChangeShapes Go.WideShapes Go.ChangeAt Go.RowKit Go.Joins
set_option linter.unusedVariables false
set_option linter.unusedSimpArgs false

theorem hv_slice (hs : List Hd) (i : Nat) : ∃ o n c, hv hs i = .slice o n c := ⟨_, _, _, rfl⟩
/-- The backs of the pool that is turned: none at first. -/
def bvS (hs : List Hd) (a : Nat) : Nat → Value
  | 0 => .slice none 0 0
  | j + 1 => hv hs (a + j)
theorem bvS_last (hs : List Hd) (a : Nat) : ∀ (j n : Nat), 1 ≤ j → a + (j - 1) = n → bvS hs a j = hv hs n
  | 0, n, h, _ => absurd h (by omega)
  | j + 1, n, _, h => by
    rw [← h]
    rfl
theorem own_roomT {α : Type} {L : Lay α} {T : TypeId} {w : World} {base : Nat} {o : Option Addr} {n c : Nat} {fs : List α} (h : ownL L T w base (.slice o n c) fs) : fs.length ≤ c ∧ (o = none → c = 0) := by
  rcases h.2 with ⟨e, h0⟩ | ⟨g, cap, cur, e, _, _, h1, _⟩
  · injection e with e1 e2 e3
    exact ⟨by omega, fun _ => e3⟩
  · injection e with e1 e2 e3
    exact ⟨by omega, fun h => by rw [h] at e1; cases e1⟩

set_option maxRecDepth 100000 in
set_option maxHeartbeats 8000000 in
theorem implReplay_sh (v : Value) (m : Jm) (w : World) (hR : RdJm w.heap.size w v m) (hcp : capJm v) (hf : fitJm m) :
    Calls Try.prog 31 #[v] w fun e w' => ∃ v', e = .returned (.tuple #[v', .bool (journalB m.key m.l m.safe)]) ∧ InPm w.heap.size w'.heap.size w' v' (replayM m) ∧ Below w.heap.size w w' := by
  have hR0 := hR
  obtain ⟨vl, rfl, ⟨o, c, rfl, r⟩⟩ := hR0
  clear hcp hR
  obtain ⟨key, l, safe⟩ := m
  dsimp only at *
  have HPM := hide (show replayM ⟨key, l, safe⟩ = if journalB key l safe = true then ⟨key, servedOf l l.length, ringT key (ringR l l.length)⟩ else pm0 from rfl)
  have HFA := hide (fun h : journalB key l safe = true => And.intro (journal_facts h) (And.intro (journal_run h) (And.intro (served_each h) (replay_fit ⟨key, l, safe⟩))))
  unfold fitJm at hf
  dsimp only at hf
  obtain ⟨W0, hW0⟩ : ∃ W, ((w.alloc (.cells #[.int .i64 key, .slice o l.length c, .int .i64 safe] 47)).alloc (.cells #[.int .i64 0, .slice none 0 0, .slice none 0 0] 26)) = W := ⟨_, rfl⟩
  have hb_W0 : Below w.heap.size w W0 := by rw [← hW0]; exact (((Below.refl _ _).alloc (Nat.le_refl _) _).alloc (by simp <;> omega) _)
  have HB := hide hb_W0
  clear hb_W0
  have zz : w.heap.size < W0.heap.size := by rw [← hW0]; simp <;> omega
  have z0 : W0.cell? ⟨w.heap.size, 0, none⟩ = some (.int .i64 key) := by rw [← hW0]; simp [go_sem]
  have z1 : W0.cell? ⟨w.heap.size, 1, none⟩ = some (.slice o l.length c) := by rw [← hW0]; simp [go_sem]
  have z2 : W0.cell? ⟨w.heap.size, 2, none⟩ = some (.int .i64 safe) := by rw [← hW0]; simp [go_sem]
  have zr : w.heap.size + 1 < W0.heap.size := by rw [← hW0]; simp
  have r0 : W0.cell? ⟨w.heap.size + 1, 0, none⟩ = some (.int .i64 0) := by rw [← hW0]; simp [go_sem]
  have r1 : W0.cell? ⟨w.heap.size + 1, 1, none⟩ = some (.slice none 0 0) := by rw [← hW0]; simp [go_sem]
  have r2 : W0.cell? ⟨w.heap.size + 1, 2, none⟩ = some (.slice none 0 0) := by rw [← hW0]; simp [go_sem]
  have fr0 : W0.frozen? ⟨w.heap.size + 1, 0, none⟩ = false := by rw [← hW0]; simp [go_sem]
  have fr1 : W0.frozen? ⟨w.heap.size + 1, 1, none⟩ = false := by rw [← hW0]; simp [go_sem]
  have fr2 : W0.frozen? ⟨w.heap.size + 1, 2, none⟩ = false := by rw [← hW0]; simp [go_sem]
  have HR0 := hide (show W0.heap[w.heap.size + 1]? = some (.cells #[.int .i64 0, .slice none 0 0, .slice none 0 0] 26 (0, 0)) by rw [← hW0]; exact box_new2 w _ _ _)
  have hzr := zr
  have HTU := hide (turns_any key safe o c l W0 ((r.kept HB.out (Nat.le_refl _)).le HB.out.size) hf)
  clear r
  cases hj : journalB key l safe with
  | false =>
    rw [hj] at HTU HPM
    clear HFA hj
    go_enter Try.func31, Try.ntmps31
    go_wp2_with fail
    refine (HTU.out).mono ?_
    rintro e v1 ⟨v9, rfl, _, hb⟩
    replace z0 := bC hb z0 zz
    replace z1 := bC hb z1 zz
    replace z2 := bC hb z2 zz
    replace zz := Nat.lt_of_lt_of_le zz hb.size
    replace r0 := bC hb r0 zr
    replace r1 := bC hb r1 zr
    replace r2 := bC hb r2 zr
    replace fr0 := bF hb fr0 zr
    replace fr1 := bF hb fr1 zr
    replace fr2 := bF hb fr2 zr
    replace zr := Nat.lt_of_lt_of_le zr hb.size
    replace HB := hide (HB.out.trans (hb.mono HB.out.size))
    clear hb
    go_wp2
    refine bodyPost_ret (v := .tuple #[plv 0 (.slice none 0 0) (.slice none 0 0), .bool false]) (by simp [results, Try.results31, go_sem, r0, r1, r2]) rfl ⟨_, rfl, ?_, setQ_below HB.out (Nat.le_succ _) _ _ _⟩
    rw [HPM.out, if_neg (by simp)]
    exact pm0_in _ _ _ (setQ_below HB.out (Nat.le_succ _) _ _ _).size
  | true =>
    obtain ⟨⟨hk, hl, h0, h1⟩, hrun, hse, hfi⟩ := HFA.out hj
    have HSE := hide hse
    have HK := hide hk
    rw [hj] at HTU HPM
    clear HFA hj hse hk hfi hrun
    go_enter Try.func31, Try.ntmps31
    go_wp2_with fail
    refine (HTU.out).mono ?_
    rintro e v1 ⟨v9, rfl, hown9, hb⟩
    obtain ⟨hs, ho9, hs9⟩ := hown9 (by simp)
    have HO9 := hide ho9
    have HS9 := hide hs9
    have hs1 := hb.size
    have HBLK := hide ((hb.block _ hzr).trans HR0.out)
    clear hown9 ho9 hs9
    replace z0 := bC hb z0 zz
    replace z1 := bC hb z1 zz
    replace z2 := bC hb z2 zz
    replace zz := Nat.lt_of_lt_of_le zz hb.size
    replace r0 := bC hb r0 zr
    replace r1 := bC hb r1 zr
    replace r2 := bC hb r2 zr
    replace fr0 := bF hb fr0 zr
    replace fr1 := bF hb fr1 zr
    replace fr2 := bF hb fr2 zr
    replace zr := Nat.lt_of_lt_of_le zr hb.size
    replace HB := hide (HB.out.trans (hb.mono HB.out.size))
    clear hb
    have HLN := hide HS9.out.len
    obtain ⟨g9, c9, e9⟩ := own_someH HO9.out (by rw [HLN.out]; omega)
    subst e9
    have hc9 : hs.length ≤ c9 := (own_roomT HO9.out).1
    have hgl : g9 < v1.heap.size := (HO9.out.lt g9 rfl).2
    have hgb : W0.heap.size ≤ g9 := (HO9.out.lt g9 rfl).1
    obtain ⟨N, hN⟩ : ∃ N, hs.length = N := ⟨_, rfl⟩
    have HN := hide (show N = l.length + 1 by rw [← hN]; exact HLN.out)
    have HNS := hide hN
    rw [hN] at hc9 ⊢
    have hN1 : 1 ≤ N := by have := HN.out; omega
    clear hN
    obtain ⟨a, ha⟩ : ∃ a, N - 3 = a := ⟨_, rfl⟩
    have haN : a < N := by omega
    have haN' : (a : Int) < (N : Int) := by omega
    have hac : ¬ (c9 = a) := by omega
    have hac' : (a : Int) ≤ (c9 : Int) := by omega
    have haN2 : (a : Int) ≤ (N : Int) := by omega
    have hmx : max (0 : Int) ((N : Int) - 3) = (a : Int) := by omega
    have HA := hide ha
    have hN101 : N ≤ 101 := by have := HN.out; omega
    clear ha
    go_wp2
    obtain ⟨W1, hW1⟩ : ∃ W, v1.alloc (.cells #[.int .i64 key, .slice none 0 0, .slice none 0 0] 92) = W := ⟨_, rfl⟩
    rw [hW1]
    have hx1 : W1.heap[v1.heap.size]? = some (.cells #[.int .i64 key, .slice none 0 0, .slice none 0 0] 92 (0, 0)) := by rw [← hW1]; exact World.alloc_heap_new v1 _
    have hb1 : Below v1.heap.size v1 W1 := by rw [← hW1]; exact (Below.refl _ _).alloc (Nat.le_refl _) _
    have HX1 := hide hx1
    have hs2 : v1.heap.size < W1.heap.size := (Array.getElem?_eq_some_iff.1 HX1.out).1
    have HB1 := hide hb1
    clear hx1 hb1 hW1 z0 z1 z2 r0 r1 r2 fr0 fr1 fr2
    obtain ⟨M, hM⟩ : ∃ M, N - a = M := ⟨_, rfl⟩
    rw [hM]
    have HM := hide hM
    have hM3 : M ≤ 3 := by have := HA.out; omega
    have hM1 : 1 ≤ M := by omega
    have haM : a + M = N := by omega
    clear hM hmx
    go_loopw [27] (fun iv wr => ∃ (j : Nat) (oR : Option Addr) (cR : Nat) (ob : Option Addr) (nb cb : Nat), j ≤ M ∧ iv = .int .i64 (j : Int) ∧ Hid (wr.heap[v1.heap.size]? = some (.cells #[.int .i64 key, .slice ob nb cb, .slice oR j cR] 92 (0, 0))) ∧ Hid (bvS hs a j = .slice ob nb cb) ∧ Hid (ownL layT 108 wr W1.heap.size (.slice oR j cR) ((lastS l a j).map (newF key))) ∧ Hid (Stp v1.heap.size (v1.heap.size + 1) W1 wr) ∧ W1.heap.size ≤ wr.heap.size)
      (fun iv _ => M - (intOf iv).toNat)
    case atStart => exact ⟨0, none, 0, none, 0, 0, Nat.zero_le _, rfl, HX1.out, rfl, World.ownsRow_nil _ _ _ _, Stp.refl _, Nat.le_refl _⟩
    case round =>
      obtain ⟨j, oR, cR, ob, nb, cb, hj, rfl, HBX, HBV, HOW, HST, hsr⟩ := hrel
      have HBV1 := hide (HB1.out.trans (HST.out.below (Nat.le_refl _) (Nat.le_of_lt hs2)))
      have p0 : wr.cell? ⟨v1.heap.size, 0, none⟩ = some (.int .i64 key) := bx_cell HBX.out 0 _ rfl
      have p1 : wr.cell? ⟨v1.heap.size, 1, none⟩ = some (.slice ob nb cb) := bx_cell HBX.out 1 _ rfl
      have p2 : wr.cell? ⟨v1.heap.size, 2, none⟩ = some (.slice oR j cR) := bx_cell HBX.out 2 _ rfl
      have hroom := own_roomT HOW.out
      rw [List.length_map, lastS_len] at hroom
      by_cases hlt : j < M
      · skip
        have hlt' : (j : Int) < (M : Int) := by omega
        have haj : a + j < l.length + 1 := by have := HN.out; omega
        have hrow := HS9.out.row (a + j) haj
        obtain ⟨oK, cK, eK, rK⟩ := ownL.open (L := layK) hrow
        have hcap := own_capK (eK ▸ hrow)
        have hcl := bC HBV1.out (head_cell HO9.out (a + j) (by rw [HLN.out]; exact haj)) hgl
        rw [eK] at hcl
        have HEK := hide eK
        have hsv := HSE.out (a + j) haj
        have hw := with_any key ob nb cb oR cR oK cK (servedOf l (a + j)) wr ((lastS l a j).map (newF key)) (by rw [List.length_map, lastS_len]; omega) (ownL.rds (L := layT) HOW.out) (by rw [List.length_map, lastS_len]; exact hroom.1) hroom.2 ((rK.kept HBV1.out (Nat.le_refl _)).le (Nat.le_trans (Nat.le_of_lt hs2) hsr)) (by omega) HK.out hsv.1
        rw [lastS_step l a j key (by omega)] at hw
        simp only [List.length_map, lastS_len] at hw
        have HW := hide hw
        clear hw hsv rK hrow eK
        obtain ⟨nk, hnk⟩ : ∃ n, (servedOf l (a + j)).length = n := ⟨_, rfl⟩
        rw [hnk] at hcl HW HEK
        clear hnk
        go_wp2_with fail
        refine HW.out.mono ?_
        rintro e v2 ⟨o2, c2, rfl, ow2, hb2⟩
        have hsz2 := hb2.size
        have hx2 := (hb2.block _ (show v1.heap.size < wr.heap.size by omega)).trans HBX.out
        have a0 : v2.cell? ⟨v1.heap.size, 0, none⟩ = some (.int .i64 key) := bx_cell hx2 0 _ rfl
        have f0 := bx_frozen hx2 0
        have a1 : v2.cell? ⟨v1.heap.size, 1, none⟩ = some (.slice ob nb cb) := bx_cell hx2 1 _ rfl
        have f1 := bx_frozen hx2 1
        have a2 : v2.cell? ⟨v1.heap.size, 2, none⟩ = some (.slice oR j cR) := bx_cell hx2 2 _ rfl
        have f2 := bx_frozen hx2 2
        have HX9 : Hid ((setP v2 v1.heap.size (.int .i64 key) (.slice oK nk cK) (.slice o2 (j + 1) c2)).heap[v1.heap.size]? = some (.cells #[.int .i64 key, .slice oK nk cK, .slice o2 (j + 1) c2] 92 (0, 0))) := box_put (box_put (box_put hx2 0 _) 1 _) 2 _
        have HO9' := hide (own_low (own_low (own_low (own_mono ow2 hsr) hs2 0 (.int .i64 key)) hs2 1 (.slice oK nk cK)) hs2 2 (.slice o2 (j + 1) c2))
        have HS9' := hide ((HST.out.trans (Stp.of hb2)).trans (stp_setQ v2 v1.heap.size (.int .i64 key) (.slice oK nk cK) (.slice o2 (j + 1) c2)))
        have hs9 : W1.heap.size ≤ v2.heap.size := by omega
        clear ow2 hb2 hx2 p0 p1 p2
        go_wp2
        go_roundw
        case rel => exact ⟨j + 1, o2, c2, oK, nk, cK, by omega, by go_num, HX9.out, HEK.out, HO9'.out, HS9'.out, by simpa using hs9⟩
        case measure => simp [intOf]; omega
      · skip
        have e : j = M := by omega
        subst e
        have hln : a + (j - 1) = l.length := by have := HN.out; omega
        have hrow := HS9.out.row l.length (by omega)
        obtain ⟨oK, cK, eK, rK⟩ := ownL.open (L := layK) hrow
        have hcap := own_capK (eK ▸ hrow)
        have hbv := bvS_last hs a j l.length hM1 hln
        rw [HBV.out, eK] at hbv
        injection hbv with e1 e2 e3
        subst e1 e2 e3
        have hsv := HSE.out l.length (by omega)
        have hp := plain_any key ob cb (servedOf l l.length) oR cR ((lastS l a j).map (newF key)) wr ((rK.kept HBV1.out (Nat.le_refl _)).le (Nat.le_trans (Nat.le_of_lt hs2) hsr)) hcap (by omega) (ownL.rds (L := layT) HOW.out) (by rw [List.length_map, lastS_len]; omega)
        rw [last_tabs (lastS_ok (fun q hq => (HSE.out q hq).1) j (by have := HN.out; omega))] at hp
        simp only [List.length_map, lastS_len] at hp
        have hring : lastS l a j = ringR l l.length := by rw [ringR_last, ← HN.out, HA.out, HM.out]
        rw [hring] at hp
        have HP := hide hp
        clear hp hring hrow eK rK hsv
        obtain ⟨sv, hsv⟩ : ∃ s, servedOf l l.length = s := ⟨_, rfl⟩
        rw [hsv] at HP HPM p1
        obtain ⟨rg, hrg⟩ : ∃ s, ringT key (ringR l l.length) = s := ⟨_, rfl⟩
        rw [hrg] at HP HPM
        clear hsv hrg
        go_wp2_with fail
        refine HP.out.mono ?_
        rintro e v3 ⟨v9, rfl, hin, hb3⟩
        have HIN := hide hin
        have hs4 := hb3.size
        clear hin
        obtain ⟨o9, c9', oR9, cR9, e9⟩ : ∃ (o9 : Option Addr) (c9 : Nat) (oR9 : Option Addr) (cR9 : Nat), v9 = plv key (.slice o9 sv.length c9) (.slice oR9 rg.length cR9) := HIN.out.opn
        subst e9
        have hrb := (hb3.block _ (show w.heap.size + 1 < wr.heap.size by omega)).trans ((HBV1.out.block _ (show w.heap.size + 1 < v1.heap.size by omega)).trans HBLK.out)
        have r0 : v3.cell? ⟨w.heap.size + 1, 0, none⟩ = some (.int .i64 0) := bx_cell hrb 0 _ rfl
        have fr0 := bx_frozen hrb 0
        have r1 : v3.cell? ⟨w.heap.size + 1, 1, none⟩ = some (.slice none 0 0) := bx_cell hrb 1 _ rfl
        have fr1 := bx_frozen hrb 1
        have r2 : v3.cell? ⟨w.heap.size + 1, 2, none⟩ = some (.slice none 0 0) := bx_cell hrb 2 _ rfl
        have fr2 := bx_frozen hrb 2
        have HBF := hide ((HB.out.trans (HBV1.out.mono HB.out.size)).trans (hb3.mono (by omega)))
        clear hb3 hrb
        go_wp2
        refine bodyPost_ret (v := .tuple #[plv key (.slice o9 sv.length c9') (.slice oR9 rg.length cR9), .bool true]) (by simp [results, Try.results31, go_sem, r0, r1, r2]) rfl ⟨_, rfl, ?_, setQ_below HBF.out (Nat.le_succ _) _ _ _⟩
        rw [HPM.out, if_pos trivial, setQ_size]
        exact InPm.mono (HIN.out.step (stp_setQ v3 (w.heap.size + 1) _ _ _) (.inl (by omega))) (by omega)

end Go.Proofs.Ytldjaapbkihibaa

/- PoolDo, on both sides. -/
namespace Go.Proofs.Ytldjaapbkihibaa
open Go.ChangeShapes Go.WideShapes Go.ChangeAt Go.RowKit Go.Joins
set_option linter.unusedVariables false
set_option linter.unusedSimpArgs false

/-- As RdPm; a slice of nothing has no room. -/
def RcPm (lo hi : Nat) (w : World) (v : Value) (m : Pm) : Prop := ∃ vb vr, v = plv m.key vb vr ∧ RiV layK lo hi w vb m.l ∧ capV vb ∧ RcR lo hi w vr m.ring ∧ capV vr
theorem InT.rc {lo hi : Nat} {w : World} {v : Value} {ll : List (List Int)} (h : InT lo hi w v ll) : RcT lo hi w v ll := InRows.ri RcI.mon (fun q => ⟨InRow.ri q, InRow.cap q⟩) h
theorem InR.rc {lo hi : Nat} {w : World} {v : Value} {ll : List (List (List Int))} (h : InR lo hi w v ll) : RcR lo hi w v ll := InRows.ri RcT.mon (fun q => InT.rc q) h
theorem InPm.rc {lo hi : Nat} {w : World} {v : Value} {m : Pm} (h : InPm lo hi w v m) : RcPm 0 hi w v m := by
  obtain ⟨vb, vr, mid, e, k1, k2, h1, h2⟩ := h
  obtain ⟨hs, L, H, h3, _⟩ := id h2
  exact ⟨vb, vr, e, (InRow.ri h1).mono (Nat.zero_le _) k2, InRow.cap h1, RcR.mon.go (InR.rc h2) (Nat.zero_le _) (Nat.le_refl _), InRow.cap h3⟩
theorem RcPm.le {lo C D : Nat} {w : World} {v : Value} {m : Pm} (h : RcPm lo C w v m) (hc : C ≤ D) : RcPm lo D w v m := by
  obtain ⟨vb, vr, e, h1, h2, h3, h4⟩ := h
  exact ⟨vb, vr, e, h1.mono (Nat.le_refl _) hc, h2, RcR.mon.go h3 (Nat.le_refl _) hc, h4⟩
/-- What PoolDo tells. -/
def pdoM (m : Pm) (k i g : Int) : Pm := if (poolB m && cmdOkB k i g) = true then (match doL m.l k i g with | none => m | some l => ⟨m.key, l, (newT m.key l :: m.ring).take 3⟩) else pm0
def pdoF (m : Pm) (k i g : Int) : Bool := (poolB m && cmdOkB k i g) && (doL m.l k i g).isSome
theorem pool_facts {m : Pm} (h : poolB m = true) : keyB m.key = true ∧ backsOkB m.l = true ∧ 1 ≤ m.ring.length ∧ m.ring.length ≤ 3 ∧ ∀ i, i < m.ring.length → tabOkB (m.ring.getD i []) = true := by
  unfold poolB at h
  simp only [Bool.and_eq_true, decide_eq_true_eq, List.all_eq_true, List.mem_range] at h
  obtain ⟨⟨⟨⟨⟨h1, h2⟩, h3⟩, h4⟩, h5⟩, h6⟩ := h
  exact ⟨h1, h2, h3, h4, h5⟩
theorem pair_len {l : List Int} (h : pairOkB l = true) : l.length ≤ 2 := by
  unfold pairOkB at h
  simp only [Bool.or_eq_true, Bool.and_eq_true, decide_eq_true_eq] at h
  omega
theorem tab_back {ll : List (List Int)} (h : tabOkB ll = true) : ptLL (tabF ll) = ll := by
  obtain ⟨h8, hp⟩ := tab_pair h
  apply List.ext_getElem
  · rw [ptLL_len, h8]
  · intro i h1 h2
    have hi : i < 8 := by rw [ptLL_len] at h1; exact h1
    have e : ll.getD i [] = ll[i] := by simp [h2]
    have := ipList_of (hp i hi)
    rw [e] at this
    simp [ptLL, tabF, h2, this]
theorem tabs_back {R : List (List (List Int))} (h : ∀ i, i < R.length → tabOkB (R.getD i []) = true) : (R.map tabF).map ptLL = R := by
  apply List.ext_getElem
  · simp
  · intro i h1 h2
    have := tab_back (h i h2)
    have e : R.getD i [] = R[i] := by simp [h2]
    rw [e] at this
    simp [this]
theorem tabs_next {key : Int} {l : List Bk} {R : List (List (List Int))} (hl : backsOkB l = true) (h : ∀ i, i < R.length → tabOkB (R.getD i []) = true) : (newF key l :: (R.map tabF).take 2).map ptLL = (newT key l :: R).take 3 := by
  rw [List.map_cons, ptLL_new key hl, List.map_take, tabs_back h]
  rfl
theorem take_getD {α : Type} (l : List α) (n i : Nat) (d : α) (h : i < n) : (l.take n).getD i d = l.getD i d := by
  rw [List.getD_eq_getElem?_getD, List.getElem?_take, if_pos h, ← List.getD_eq_getElem?_getD]
theorem rc_cons {w : World} {base C : Nat} {oR2 o3 : Option Addr} {n2 cR2 c3 : Nat} {hsR hs3 : List Hd} {key : Int} {l : List Bk} {R : List (List (List Int))} (hC : C ≤ w.heap.size) (ho : ownL layH 37 w base (.slice oR2 n2 cR2) (((o3, 8, c3) :: hsR).take 3)) (h3 : ownL layH 43 w base (.slice o3 8 c3) hs3) (ht : Tab (fun b => pairI key b l) 8 w base hs3) (hl : hsR.length = R.length) (hr : ∀ i, i < R.length → RcT 0 C w (hv hsR i) (R.getD i [])) : RcR 0 w.heap.size w (.slice oR2 n2 cR2) ((newT key l :: R).take 3) := by
  refine ⟨((o3, 8, c3) :: hsR).take 3, by simp [hl], (InRow.ri (InRow.of ho)).mono (Nat.zero_le _) (Nat.le_refl _), fun i hi => ?_⟩
  have hi3 : i < 3 := by simp at hi; omega
  have e1 : hv (((o3, 8, c3) :: hsR).take 3) i = hv ((o3, 8, c3) :: hsR) i := by unfold hv; rw [take_getD _ _ _ _ hi3]
  have e2 : ((newT key l :: R).take 3).getD i [] = (newT key l :: R).getD i [] := take_getD _ _ _ _ hi3
  rw [e1, e2]
  cases i with
  | zero =>
    have h5 := tab_new ht
    refine ⟨hs3, h5.len, (InRow.ri (InRow.of h3)).mono (Nat.zero_le _) (Nat.le_refl _), fun j hj => ⟨(InRow.ri (InRow.of (h5.row j hj))).mono (Nat.zero_le _) (Nat.le_refl _), InRow.cap (InRow.of (h5.row j hj))⟩⟩
  | succ i =>
    have hi' : i < R.length := by simp at hi; omega
    exact RcT.mon.go (hr i hi') (Nat.le_refl _) hC
theorem pdo_fit {m : Pm} (k i g : Int) (h : fitPm m) : fitPm (pdoM m k i g) := by
  unfold pdoM
  split
  · next hb =>
    split
    · exact h
    · next l hl =>
      simp only [Bool.and_eq_true] at hb
      obtain ⟨h1, h2, h3, h4, h5⟩ := pool_facts hb.1
      have hok := doL_ok h2 hb.2 hl
      have hlen := backs_len hok
      have hrow : ∀ q, q < ((newT m.key l :: m.ring).take 3).length → (((newT m.key l :: m.ring).take 3).getD q []).length = 8 ∧ ∀ j, ((((newT m.key l :: m.ring).take 3).getD q []).getD j []).length ≤ 2 := fun q hq => by
        have hq3 : q < 3 := by simp at hq; omega
        have e2 : ((newT m.key l :: m.ring).take 3).getD q [] = (newT m.key l :: m.ring).getD q [] := take_getD _ _ _ _ hq3
        rw [e2]
        cases q with
        | zero => exact ⟨newT_len _ _, fun j => newT_row _ _ j⟩
        | succ q =>
          have hq' : q < m.ring.length := by simp at hq; omega
          obtain ⟨t8, tp⟩ := tab_pair (h5 q hq')
          refine ⟨t8, fun j => ?_⟩
          by_cases hj : j < 8
          · exact pair_len (tp j hj)
          · show ((m.ring.getD q []).getD j []).length ≤ 2
            rw [List.getD_eq_getElem?_getD, List.getElem?_eq_none (by omega)]; simp
      have hl3 : ((newT m.key l :: m.ring).take 3).length ≤ 3 := by simp; omega
      have hsz : ∀ q, lenR ((newT m.key l :: m.ring).take 3) q ≤ 16 := fun q => by
        by_cases hq : q < ((newT m.key l :: m.ring).take 3).length
        · unfold lenR szT
          have := sumN_bd (lenT (((newT m.key l :: m.ring).take 3).getD q [])) 2 (fun j => (hrow q hq).2 j) (((newT m.key l :: m.ring).take 3).getD q []).length
          rw [(hrow q hq).1] at this ⊢
          omega
        · unfold lenR; rw [List.getD_eq_getElem?_getD, List.getElem?_eq_none (by omega)]; exact Nat.zero_le _
      refine ⟨by show l.length ≤ _; omega, by show ((newT m.key l :: m.ring).take 3).length ≤ _; omega, ?_, fun q hq => ?_, fun q hq j hj => ?_⟩
      · have := sumN_bd (lenR ((newT m.key l :: m.ring).take 3)) 16 hsz ((newT m.key l :: m.ring).take 3).length
        show sumN (lenR ((newT m.key l :: m.ring).take 3)) ((newT m.key l :: m.ring).take 3).length ≤ _
        have hm : 16 * ((newT m.key l :: m.ring).take 3).length ≤ 48 := by omega
        omega
      · have := (hrow q hq).1
        show (((newT m.key l :: m.ring).take 3).getD q []).length ≤ _
        omega
      · have := (hrow q hq).2 j
        show ((((newT m.key l :: m.ring).take 3).getD q []).getD j []).length ≤ _
        omega
  · exact ⟨by simp [pm0], by simp [pm0], by simp [pm0, szR, sumN], fun i hi => absurd hi (Nat.not_lt_zero _), fun i hi => absurd hi (Nat.not_lt_zero _)⟩

end Go.Proofs.Ytldjaapbkihibaa

/- PoolDo, on both sides: the walks. -/
namespace Go.Proofs.Ytldjaapbkihibaa
open Go.ChangeShapes Go.WideShapes Go.ChangeAt Go.RowKit Go.Joins
set_option linter.unusedVariables false
set_option linter.unusedSimpArgs false


set_option maxRecDepth 100000 in
set_option maxHeartbeats 8000000 in
theorem implPoolDo_sh (v : Value) (m : Pm) (k i g : Int) (w : World) (hR : RcPm 0 w.heap.size w v m) (hf : fitPm m) :
    Calls Try.prog 13 #[v, cmd k i g] w fun e w' => ∃ v', e = .returned (.tuple #[v', .bool (pdoF m k i g)]) ∧ InPm w.heap.size w'.heap.size w' v' (pdoM m k i g) ∧ Below w.heap.size w w' := by
  obtain ⟨vb, vr, rfl, hvb, hcb, rr, hcr⟩ := hR
  obtain ⟨o, c, rfl, r⟩ := hvb.open
  have hnil : o = none → c = 0 := fun e => hcb _ _ (by rw [e])
  obtain ⟨oR, cR, rfl⟩ := RiR.len (RcR.ri rr)
  have hnilR : oR = none → cR = 0 := fun e => hcr _ _ (by rw [e])
  clear hvb hcb hcr
  obtain ⟨key, l, lll⟩ := m
  dsimp only at *
  have HPM := hide (show pdoM ⟨key, l, lll⟩ k i g = if (poolB ⟨key, l, lll⟩ && cmdOkB k i g) = true then (match doL l k i g with | none => ⟨key, l, lll⟩ | some l' => ⟨key, l', (newT key l' :: lll).take 3⟩) else pm0 from rfl)
  have HPF := hide (show pdoF ⟨key, l, lll⟩ k i g = ((poolB ⟨key, l, lll⟩ && cmdOkB k i g) && (doL l k i g).isSome) from rfl)
  have HFA := hide (fun h : poolB ⟨key, l, lll⟩ = true => pool_facts h)
  have HFIT := hide hf
  obtain ⟨hf1, hf2, hf3, hf4, hf5⟩ := hf
  dsimp only at hf1 hf2 hf3 hf4 hf5
  clear hf3 hf4 hf5
  obtain ⟨W0, hW0⟩ : ∃ W, (((w.alloc (.cells #[.int .i64 key, .slice o l.length c, .slice oR lll.length cR] 26)).alloc (.cells #[.int .i64 k, .int .i64 i, .int .i64 g] 28)).alloc (.cells #[.int .i64 0, .slice none 0 0, .slice none 0 0] 26)) = W := ⟨_, rfl⟩
  have hb_W0 : Below w.heap.size w W0 := by rw [← hW0]; exact ((((Below.refl _ _).alloc (Nat.le_refl _) _).alloc (by simp <;> omega) _).alloc (by simp <;> omega) _)
  have HB := hide hb_W0
  clear hb_W0
  have zz : w.heap.size < W0.heap.size := by rw [← hW0]; simp <;> omega
  have z0 : W0.cell? ⟨w.heap.size, 0, none⟩ = some (.int .i64 key) := by rw [← hW0]; simp [go_sem]
  have z1 : W0.cell? ⟨w.heap.size, 1, none⟩ = some (.slice o l.length c) := by rw [← hW0]; simp [go_sem]
  have z2 : W0.cell? ⟨w.heap.size, 2, none⟩ = some (.slice oR lll.length cR) := by rw [← hW0]; simp [go_sem]
  have zu : w.heap.size + 1 < W0.heap.size := by rw [← hW0]; simp <;> omega
  have u0 : W0.cell? ⟨w.heap.size + 1, 0, none⟩ = some (.int .i64 k) := by rw [← hW0]; simp [go_sem]
  have u1 : W0.cell? ⟨w.heap.size + 1, 1, none⟩ = some (.int .i64 i) := by rw [← hW0]; simp [go_sem]
  have u2 : W0.cell? ⟨w.heap.size + 1, 2, none⟩ = some (.int .i64 g) := by rw [← hW0]; simp [go_sem]
  have zr : w.heap.size + 1 + 1 < W0.heap.size := by rw [← hW0]; simp
  have r0 : W0.cell? ⟨w.heap.size + 1 + 1, 0, none⟩ = some (.int .i64 0) := by rw [← hW0]; simp [go_sem]
  have r1 : W0.cell? ⟨w.heap.size + 1 + 1, 1, none⟩ = some (.slice none 0 0) := by rw [← hW0]; simp [go_sem]
  have r2 : W0.cell? ⟨w.heap.size + 1 + 1, 2, none⟩ = some (.slice none 0 0) := by rw [← hW0]; simp [go_sem]
  have fr0 : W0.frozen? ⟨w.heap.size + 1 + 1, 0, none⟩ = false := by rw [← hW0]; simp [go_sem]
  have fr1 : W0.frozen? ⟨w.heap.size + 1 + 1, 1, none⟩ = false := by rw [← hW0]; simp [go_sem]
  have fr2 : W0.frozen? ⟨w.heap.size + 1 + 1, 2, none⟩ = false := by rw [← hW0]; simp [go_sem]
  have hzr := zr
  have HFR := hide (poolFrom_go key o c l oR cR lll lll.length rfl W0 ((r.kept HB.out (Nat.le_refl _)).le HB.out.size) (RiR.mon.go (RiR.stp.go (RcR.ri rr) (Stp.of (lo := 0) (hi := 0) HB.out) (.inl (Nat.zero_le _))) (Nat.le_refl _) HB.out.size) HFIT.out)
  have HDE := hide (fun W => deedOf_any k i g W)
  have HRL := hide r
  clear r rr
  have hw0 := HB.out.size
  cases hp : poolB ⟨key, l, lll⟩ with
  | false =>
    rw [hp] at HPM HPF
    go_enter Try.func13, Try.ntmps13
    go_wp2_with fail
    refine HFR.out.mono ?_
    rintro e v1 ⟨vP, rfl, _, h2, hb⟩
    have e2 := h2 hp
    subst e2
    rw [hp]
    clear h2
    replace z0 := bC hb z0 zz
    replace z1 := bC hb z1 zz
    replace z2 := bC hb z2 zz
    replace zz := Nat.lt_of_lt_of_le zz hb.size
    replace u0 := bC hb u0 zu
    replace u1 := bC hb u1 zu
    replace u2 := bC hb u2 zu
    replace zu := Nat.lt_of_lt_of_le zu hb.size
    replace r0 := bC hb r0 zr
    replace r1 := bC hb r1 zr
    replace r2 := bC hb r2 zr
    replace fr0 := bF hb fr0 zr
    replace fr1 := bF hb fr1 zr
    replace fr2 := bF hb fr2 zr
    replace zr := Nat.lt_of_lt_of_le zr hb.size
    replace HB := hide (HB.out.trans (hb.mono HB.out.size))
    clear hb
    have hb1 : Below v1.heap.size v1 (v1.alloc (.cells #[.int .i64 0, .slice none 0 0, .slice none 0 0] 92)) := (Below.refl _ _).alloc (Nat.le_refl _) _
    replace z0 := bC hb1 z0 zz
    replace z1 := bC hb1 z1 zz
    replace z2 := bC hb1 z2 zz
    replace zz := Nat.lt_of_lt_of_le zz hb1.size
    replace u0 := bC hb1 u0 zu
    replace u1 := bC hb1 u1 zu
    replace u2 := bC hb1 u2 zu
    replace zu := Nat.lt_of_lt_of_le zu hb1.size
    replace r0 := bC hb1 r0 zr
    replace r1 := bC hb1 r1 zr
    replace r2 := bC hb1 r2 zr
    replace fr0 := bF hb1 fr0 zr
    replace fr1 := bF hb1 fr1 zr
    replace fr2 := bF hb1 fr2 zr
    replace zr := Nat.lt_of_lt_of_le zr hb1.size
    replace HB := hide (HB.out.trans (hb1.mono HB.out.size))
    clear hb1
    generalize cmdOkB k i g = ck at *
    go_wp2_with fail
    refine (HDE.out _).mono ?_
    rintro e v2 ⟨rfl, hb⟩
    replace z0 := bC hb z0 zz
    replace z1 := bC hb z1 zz
    replace z2 := bC hb z2 zz
    replace zz := Nat.lt_of_lt_of_le zz hb.size
    replace u0 := bC hb u0 zu
    replace u1 := bC hb u1 zu
    replace u2 := bC hb u2 zu
    replace zu := Nat.lt_of_lt_of_le zu hb.size
    replace r0 := bC hb r0 zr
    replace r1 := bC hb r1 zr
    replace r2 := bC hb r2 zr
    replace fr0 := bF hb fr0 zr
    replace fr1 := bF hb fr1 zr
    replace fr2 := bF hb fr2 zr
    replace zr := Nat.lt_of_lt_of_le zr hb.size
    replace HB := hide (HB.out.trans (hb.mono HB.out.size))
    clear hb
    generalize (if ck = true then deedV k i g else .nilIface) = dv
    go_wp2
    refine bodyPost_ret (v := .tuple #[plv 0 (.slice none 0 0) (.slice none 0 0), .bool false]) (by simp [results, Try.results13, go_sem, r0, r1, r2]) rfl ⟨plv 0 (.slice none 0 0) (.slice none 0 0), by rw [HPF.out]; simp, ?_, setQ_below HB.out (by omega) _ _ _⟩
    rw [HPM.out, if_neg (by simp)]
    exact pm0_in _ _ _ (setQ_below HB.out (show w.heap.size ≤ w.heap.size + 1 + 1 by omega) _ _ _).size
  | true =>
    obtain ⟨hk, hbo, h1n, h3n, hto⟩ := HFA.out hp
    dsimp only at hk hbo h1n h3n hto
    have HK := hide hk
    have HBK := hide hbo
    have HTO := hide hto
    have hl6 := backs_len hbo
    clear hk hbo hto HFA
    rw [hp] at HPM HPF
    have HP := hide hp
    clear hp
    cases hc : cmdOkB k i g with
    | false =>
      rw [hc] at HDE HPM HPF
      simp only [Bool.false_eq_true, if_false] at HDE
      go_enter Try.func13, Try.ntmps13
      go_wp2_with fail
      refine HFR.out.mono ?_
      rintro e v1 ⟨vP, rfl, h1, _, hb⟩
      obtain ⟨o2, c2, e2, ow2⟩ := h1 HP.out
      dsimp only at e2 ow2
      subst e2
      rw [HP.out]
      have HOW := hide ow2
      have hs1 := hb.size
      have HRM := hide (own_roomT ow2)
      clear h1 ow2
      have HLM := hide (show (lll.map tabF).length = lll.length by simp)
      obtain ⟨n, hn⟩ : ∃ n, lll.length = n := ⟨_, rfl⟩
      rw [hn] at HOW HLM ⊢
      have HN := hide hn
      clear hn
      replace z0 := bC hb z0 zz
      replace z1 := bC hb z1 zz
      replace z2 := bC hb z2 zz
      replace zz := Nat.lt_of_lt_of_le zz hb.size
      replace u0 := bC hb u0 zu
      replace u1 := bC hb u1 zu
      replace u2 := bC hb u2 zu
      replace zu := Nat.lt_of_lt_of_le zu hb.size
      replace r0 := bC hb r0 zr
      replace r1 := bC hb r1 zr
      replace r2 := bC hb r2 zr
      replace fr0 := bF hb fr0 zr
      replace fr1 := bF hb fr1 zr
      replace fr2 := bF hb fr2 zr
      replace zr := Nat.lt_of_lt_of_le zr hb.size
      replace HB := hide (HB.out.trans (hb.mono HB.out.size))
      clear hb
      obtain ⟨W1, hW1⟩ : ∃ W, (v1.alloc (.cells #[.int .i64 key, .slice o l.length c, .slice o2 n c2] 92)) = W := ⟨_, rfl⟩
      have hb_W1 : Below v1.heap.size v1 W1 := by rw [← hW1]; exact ((Below.refl _ _).alloc (Nat.le_refl _) _)
      replace z0 := bC hb_W1 z0 zz
      replace z1 := bC hb_W1 z1 zz
      replace z2 := bC hb_W1 z2 zz
      replace zz := Nat.lt_of_lt_of_le zz hb_W1.size
      replace u0 := bC hb_W1 u0 zu
      replace u1 := bC hb_W1 u1 zu
      replace u2 := bC hb_W1 u2 zu
      replace zu := Nat.lt_of_lt_of_le zu hb_W1.size
      replace r0 := bC hb_W1 r0 zr
      replace r1 := bC hb_W1 r1 zr
      replace r2 := bC hb_W1 r2 zr
      replace fr0 := bF hb_W1 fr0 zr
      replace fr1 := bF hb_W1 fr1 zr
      replace fr2 := bF hb_W1 fr2 zr
      replace zr := Nat.lt_of_lt_of_le zr hb_W1.size
      replace HOW := hide (own_kept HOW.out hb_W1)
      replace HB := hide (HB.out.trans (hb_W1.mono HB.out.size))
      clear hb_W1
      have zx : v1.heap.size < W1.heap.size := by rw [← hW1]; simp
      have x0 : W1.cell? ⟨v1.heap.size, 0, none⟩ = some (.int .i64 key) := by rw [← hW1]; simp [go_sem]
      have x1 : W1.cell? ⟨v1.heap.size, 1, none⟩ = some (.slice o l.length c) := by rw [← hW1]; simp [go_sem]
      have x2 : W1.cell? ⟨v1.heap.size, 2, none⟩ = some (.slice o2 n c2) := by rw [← hW1]; simp [go_sem]
      have hsW1 := zx
      go_wp2_with fail
      refine (HDE.out W1).mono ?_
      rintro e v2 ⟨rfl, hb⟩
      have hs2 := hb.size
      replace z0 := bC hb z0 zz
      replace z1 := bC hb z1 zz
      replace z2 := bC hb z2 zz
      replace zz := Nat.lt_of_lt_of_le zz hb.size
      replace u0 := bC hb u0 zu
      replace u1 := bC hb u1 zu
      replace u2 := bC hb u2 zu
      replace zu := Nat.lt_of_lt_of_le zu hb.size
      replace r0 := bC hb r0 zr
      replace r1 := bC hb r1 zr
      replace r2 := bC hb r2 zr
      replace fr0 := bF hb fr0 zr
      replace fr1 := bF hb fr1 zr
      replace fr2 := bF hb fr2 zr
      replace zr := Nat.lt_of_lt_of_le zr hb.size
      replace x0 := bC hb x0 zx
      replace x1 := bC hb x1 zx
      replace x2 := bC hb x2 zx
      replace zx := Nat.lt_of_lt_of_le zx hb.size
      replace HOW := hide (own_kept HOW.out hb)
      replace HB := hide (HB.out.trans (hb.mono HB.out.size))
      clear hb
      go_wp2
      refine bodyPost_ret (v := .tuple #[plv 0 (.slice none 0 0) (.slice none 0 0), .bool false]) (by simp [results, Try.results13, go_sem, r0, r1, r2]) rfl ⟨plv 0 (.slice none 0 0) (.slice none 0 0), by rw [HPF.out]; simp, ?_, setQ_below HB.out (by omega) _ _ _⟩
      rw [HPM.out, if_neg (by simp)]
      exact pm0_in _ _ _ (setQ_below HB.out (show w.heap.size ≤ w.heap.size + 1 + 1 by omega) _ _ _).size
    | true =>
      have HBA := hide (fun W h1 => backsAfter_any o c l k i g W h1 hnil (by omega) hc)
      have HDO := hide (fun l' h => doL_ok HBK.out hc h (m := l'))
      rw [hc] at HDE HPM HPF
      simp only [if_true] at HDE
      clear hc
      generalize deedV k i g = dv at *
      go_enter Try.func13, Try.ntmps13
      go_wp2_with fail
      refine HFR.out.mono ?_
      rintro e v1 ⟨vP, rfl, h1, _, hb⟩
      obtain ⟨o2, c2, e2, ow2⟩ := h1 HP.out
      dsimp only at e2 ow2
      subst e2
      rw [HP.out]
      have HOW := hide ow2
      have hs1 := hb.size
      have HRM := hide (own_roomT ow2)
      clear h1 ow2
      have HLM := hide (show (lll.map tabF).length = lll.length by simp)
      obtain ⟨n, hn⟩ : ∃ n, lll.length = n := ⟨_, rfl⟩
      rw [hn] at HOW HLM ⊢
      have HN := hide hn
      clear hn
      replace z0 := bC hb z0 zz
      replace z1 := bC hb z1 zz
      replace z2 := bC hb z2 zz
      replace zz := Nat.lt_of_lt_of_le zz hb.size
      replace u0 := bC hb u0 zu
      replace u1 := bC hb u1 zu
      replace u2 := bC hb u2 zu
      replace zu := Nat.lt_of_lt_of_le zu hb.size
      replace r0 := bC hb r0 zr
      replace r1 := bC hb r1 zr
      replace r2 := bC hb r2 zr
      replace fr0 := bF hb fr0 zr
      replace fr1 := bF hb fr1 zr
      replace fr2 := bF hb fr2 zr
      replace zr := Nat.lt_of_lt_of_le zr hb.size
      replace HB := hide (HB.out.trans (hb.mono HB.out.size))
      clear hb
      obtain ⟨W1, hW1⟩ : ∃ W, (v1.alloc (.cells #[.int .i64 key, .slice o l.length c, .slice o2 n c2] 92)) = W := ⟨_, rfl⟩
      have hb_W1 : Below v1.heap.size v1 W1 := by rw [← hW1]; exact ((Below.refl _ _).alloc (Nat.le_refl _) _)
      replace z0 := bC hb_W1 z0 zz
      replace z1 := bC hb_W1 z1 zz
      replace z2 := bC hb_W1 z2 zz
      replace zz := Nat.lt_of_lt_of_le zz hb_W1.size
      replace u0 := bC hb_W1 u0 zu
      replace u1 := bC hb_W1 u1 zu
      replace u2 := bC hb_W1 u2 zu
      replace zu := Nat.lt_of_lt_of_le zu hb_W1.size
      replace r0 := bC hb_W1 r0 zr
      replace r1 := bC hb_W1 r1 zr
      replace r2 := bC hb_W1 r2 zr
      replace fr0 := bF hb_W1 fr0 zr
      replace fr1 := bF hb_W1 fr1 zr
      replace fr2 := bF hb_W1 fr2 zr
      replace zr := Nat.lt_of_lt_of_le zr hb_W1.size
      replace HOW := hide (own_kept HOW.out hb_W1)
      replace HB := hide (HB.out.trans (hb_W1.mono HB.out.size))
      clear hb_W1
      have zx : v1.heap.size < W1.heap.size := by rw [← hW1]; simp
      have x0 : W1.cell? ⟨v1.heap.size, 0, none⟩ = some (.int .i64 key) := by rw [← hW1]; simp [go_sem]
      have x1 : W1.cell? ⟨v1.heap.size, 1, none⟩ = some (.slice o l.length c) := by rw [← hW1]; simp [go_sem]
      have x2 : W1.cell? ⟨v1.heap.size, 2, none⟩ = some (.slice o2 n c2) := by rw [← hW1]; simp [go_sem]
      have hsW1 := zx
      go_wp2_with fail
      refine (HDE.out W1).mono ?_
      rintro e v2 ⟨rfl, hb⟩
      have hs2 := hb.size
      replace z0 := bC hb z0 zz
      replace z1 := bC hb z1 zz
      replace z2 := bC hb z2 zz
      replace zz := Nat.lt_of_lt_of_le zz hb.size
      replace u0 := bC hb u0 zu
      replace u1 := bC hb u1 zu
      replace u2 := bC hb u2 zu
      replace zu := Nat.lt_of_lt_of_le zu hb.size
      replace r0 := bC hb r0 zr
      replace r1 := bC hb r1 zr
      replace r2 := bC hb r2 zr
      replace fr0 := bF hb fr0 zr
      replace fr1 := bF hb fr1 zr
      replace fr2 := bF hb fr2 zr
      replace zr := Nat.lt_of_lt_of_le zr hb.size
      replace x0 := bC hb x0 zx
      replace x1 := bC hb x1 zx
      replace x2 := bC hb x2 zx
      replace zx := Nat.lt_of_lt_of_le zx hb.size
      replace HOW := hide (own_kept HOW.out hb)
      replace HB := hide (HB.out.trans (hb.mono HB.out.size))
      clear hb
      have HA2 := hide (HBA.out v2 ((HRL.out.kept HB.out (Nat.le_refl _)).le HB.out.size))
      cases hdo : doL l k i g with
      | none =>
        rw [hdo] at HA2 HPM HPF
        simp only [Option.isSome_none] at HA2
        clear hdo
        go_wp2_with fail
        refine (HA2.out).mono ?_
        rintro e v3 ⟨v5, rfl, _, hb⟩
        have hs3 := hb.size
        skip
        replace z0 := bC hb z0 zz
        replace z1 := bC hb z1 zz
        replace z2 := bC hb z2 zz
        replace zz := Nat.lt_of_lt_of_le zz hb.size
        replace u0 := bC hb u0 zu
        replace u1 := bC hb u1 zu
        replace u2 := bC hb u2 zu
        replace zu := Nat.lt_of_lt_of_le zu hb.size
        replace r0 := bC hb r0 zr
        replace r1 := bC hb r1 zr
        replace r2 := bC hb r2 zr
        replace fr0 := bF hb fr0 zr
        replace fr1 := bF hb fr1 zr
        replace fr2 := bF hb fr2 zr
        replace zr := Nat.lt_of_lt_of_le zr hb.size
        replace x0 := bC hb x0 zx
        replace x1 := bC hb x1 zx
        replace x2 := bC hb x2 zx
        replace zx := Nat.lt_of_lt_of_le zx hb.size
        replace HOW := hide (own_kept HOW.out hb)
        replace HB := hide (HB.out.trans (hb.mono HB.out.size))
        clear hb
        have HPL := hide (plain_any key o c l o2 c2 (lll.map tabF) v3 ((HRL.out.kept HB.out (Nat.le_refl _)).le HB.out.size) hnil hf1 (ownL.rds (L := layT) HOW.out) (by rw [HLM.out]; have := HN.out; omega))
        rw [tabs_back HTO.out, HLM.out] at HPL
        go_wp2_with fail
        refine (HPL.out).mono ?_
        rintro e v4 ⟨v9, rfl, hin, hb⟩
        have HIN := hide hin
        have hs4 := hb.size
        clear hin
        obtain ⟨o9, c9, oR9, cR9, e9⟩ : ∃ (o9 : Option Addr) (c9 : Nat) (oR9 : Option Addr) (cR9 : Nat), v9 = plv key (.slice o9 l.length c9) (.slice oR9 lll.length cR9) := HIN.out.opn
        subst e9
        replace z0 := bC hb z0 zz
        replace z1 := bC hb z1 zz
        replace z2 := bC hb z2 zz
        replace zz := Nat.lt_of_lt_of_le zz hb.size
        replace u0 := bC hb u0 zu
        replace u1 := bC hb u1 zu
        replace u2 := bC hb u2 zu
        replace zu := Nat.lt_of_lt_of_le zu hb.size
        replace r0 := bC hb r0 zr
        replace r1 := bC hb r1 zr
        replace r2 := bC hb r2 zr
        replace fr0 := bF hb fr0 zr
        replace fr1 := bF hb fr1 zr
        replace fr2 := bF hb fr2 zr
        replace zr := Nat.lt_of_lt_of_le zr hb.size
        replace x0 := bC hb x0 zx
        replace x1 := bC hb x1 zx
        replace x2 := bC hb x2 zx
        replace zx := Nat.lt_of_lt_of_le zx hb.size
        replace HOW := hide (own_kept HOW.out hb)
        replace HB := hide (HB.out.trans (hb.mono HB.out.size))
        clear hb
        go_wp2
        refine bodyPost_ret (v := .tuple #[plv key (.slice o9 l.length c9) (.slice oR9 lll.length cR9), .bool false]) (by simp [results, Try.results13, go_sem, r0, r1, r2]) rfl ⟨plv key (.slice o9 l.length c9) (.slice oR9 lll.length cR9), by rw [HPF.out]; simp, ?_, setQ_below HB.out (by omega) _ _ _⟩
        rw [HPM.out, if_pos (by simp), setQ_size]
        exact InPm.mono (HIN.out.step (stp_setQ v4 (w.heap.size + 1 + 1) _ _ _) (.inl (by omega))) (by omega)
      | some mm =>
        have HOKM := hide (HDO.out mm hdo)
        rw [hdo] at HA2 HPM HPF
        simp only [Option.isSome_some] at HA2
        dsimp only at HPM
        clear hdo HDO HBA
        go_wp2_with fail
        refine (HA2.out).mono ?_
        rintro e v3 ⟨v5, rfl, hown5, hb⟩
        have hs3 := hb.size
        have ow5 := hown5 mm rfl
        obtain ⟨o5, c5, e5, _⟩ := ownL.open (L := layK) ow5
        subst e5
        have HO5 := hide ow5
        clear hown5 ow5
        replace z0 := bC hb z0 zz
        replace z1 := bC hb z1 zz
        replace z2 := bC hb z2 zz
        replace zz := Nat.lt_of_lt_of_le zz hb.size
        replace u0 := bC hb u0 zu
        replace u1 := bC hb u1 zu
        replace u2 := bC hb u2 zu
        replace zu := Nat.lt_of_lt_of_le zu hb.size
        replace r0 := bC hb r0 zr
        replace r1 := bC hb r1 zr
        replace r2 := bC hb r2 zr
        replace fr0 := bF hb fr0 zr
        replace fr1 := bF hb fr1 zr
        replace fr2 := bF hb fr2 zr
        replace zr := Nat.lt_of_lt_of_le zr hb.size
        replace x0 := bC hb x0 zx
        replace x1 := bC hb x1 zx
        replace x2 := bC hb x2 zx
        replace zx := Nat.lt_of_lt_of_le zx hb.size
        replace HOW := hide (own_kept HOW.out hb)
        replace HB := hide (HB.out.trans (hb.mono HB.out.size))
        clear hb
        have hm6 := backs_len HOKM.out
        have HWI := hide (with_any key o l.length c o2 c2 o5 c5 mm v3 (lll.map tabF) (by rw [HLM.out]; have := HN.out; omega) (ownL.rds (L := layT) HOW.out) HRM.out.1 HRM.out.2 (ownL.rds (L := layK) HO5.out) (by omega) HK.out HOKM.out)
        rw [HLM.out] at HWI
        go_wp2_with fail
        refine (HWI.out).mono ?_
        rintro e v6 ⟨o7, c7, rfl, ow7, hb⟩
        have hs6 := hb.size
        have HO7 := hide ow7
        clear ow7
        replace z0 := bC hb z0 zz
        replace z1 := bC hb z1 zz
        replace z2 := bC hb z2 zz
        replace zz := Nat.lt_of_lt_of_le zz hb.size
        replace u0 := bC hb u0 zu
        replace u1 := bC hb u1 zu
        replace u2 := bC hb u2 zu
        replace zu := Nat.lt_of_lt_of_le zu hb.size
        replace r0 := bC hb r0 zr
        replace r1 := bC hb r1 zr
        replace r2 := bC hb r2 zr
        replace fr0 := bF hb fr0 zr
        replace fr1 := bF hb fr1 zr
        replace fr2 := bF hb fr2 zr
        replace zr := Nat.lt_of_lt_of_le zr hb.size
        replace x0 := bC hb x0 zx
        replace x1 := bC hb x1 zx
        replace x2 := bC hb x2 zx
        replace zx := Nat.lt_of_lt_of_le zx hb.size
        replace HOW := hide (own_kept HOW.out hb)
        replace HO5 := hide (own_kept HO5.out hb)
        replace HB := hide (HB.out.trans (hb.mono HB.out.size))
        clear hb
        have HPL := hide (plain_any key o5 c5 mm o7 c7 (newF key mm :: (lll.map tabF).take 2) v6 (ownL.rds (L := layK) HO5.out) (own_capK HO5.out) (by omega) (ownL.rds (L := layT) HO7.out) (by simp; omega))
        rw [tabs_next HOKM.out HTO.out] at HPL
        obtain ⟨nq, hnq⟩ : ∃ q, (newF key mm :: (lll.map tabF).take 2).length = q := ⟨_, rfl⟩
        rw [hnq] at HPL ⊢
        obtain ⟨rg, hrg⟩ : ∃ q, (newT key mm :: lll).take 3 = q := ⟨_, rfl⟩
        rw [hrg] at HPL HPM
        clear hnq hrg
        go_wp2_with fail
        refine (HPL.out).mono ?_
        rintro e v7 ⟨v9, rfl, hin, hb⟩
        have HIN := hide hin
        have hs7 := hb.size
        clear hin
        obtain ⟨o9, c9, oR9, cR9, e9⟩ : ∃ (o9 : Option Addr) (c9 : Nat) (oR9 : Option Addr) (cR9 : Nat), v9 = plv key (.slice o9 mm.length c9) (.slice oR9 rg.length cR9) := HIN.out.opn
        subst e9
        replace z0 := bC hb z0 zz
        replace z1 := bC hb z1 zz
        replace z2 := bC hb z2 zz
        replace zz := Nat.lt_of_lt_of_le zz hb.size
        replace u0 := bC hb u0 zu
        replace u1 := bC hb u1 zu
        replace u2 := bC hb u2 zu
        replace zu := Nat.lt_of_lt_of_le zu hb.size
        replace r0 := bC hb r0 zr
        replace r1 := bC hb r1 zr
        replace r2 := bC hb r2 zr
        replace fr0 := bF hb fr0 zr
        replace fr1 := bF hb fr1 zr
        replace fr2 := bF hb fr2 zr
        replace zr := Nat.lt_of_lt_of_le zr hb.size
        replace x0 := bC hb x0 zx
        replace x1 := bC hb x1 zx
        replace x2 := bC hb x2 zx
        replace zx := Nat.lt_of_lt_of_le zx hb.size
        replace HOW := hide (own_kept HOW.out hb)
        replace HO5 := hide (own_kept HO5.out hb)
        replace HB := hide (HB.out.trans (hb.mono HB.out.size))
        clear hb
        go_wp2
        refine bodyPost_ret (v := .tuple #[plv key (.slice o9 mm.length c9) (.slice oR9 rg.length cR9), .bool true]) (by simp [results, Try.results13, go_sem, r0, r1, r2]) rfl ⟨plv key (.slice o9 mm.length c9) (.slice oR9 rg.length cR9), by rw [HPF.out]; simp, ?_, setQ_below HB.out (by omega) _ _ _⟩
        rw [HPM.out, if_pos (by simp), setQ_size]
        exact InPm.mono (HIN.out.step (stp_setQ v7 (w.heap.size + 1 + 1) _ _ _) (.inl (by omega))) (by omega)

end Go.Proofs.Ytldjaapbkihibaa

/- The model's PoolDo. -/
namespace Go.Proofs.Ytldjaapbkihibaa
open Go.ChangeShapes Go.WideShapes Go.ChangeAt Go.RowKit Go.Joins
set_option linter.unusedVariables false
set_option linter.unusedSimpArgs false


theorem below_stp {w w' : World} {hi : Nat} (h : Below w.heap.size w w') : Stp w.heap.size hi w w' := ⟨h.os, h.tape, h.output, h.size, fun k hk hn => h.block k hk⟩

set_option maxRecDepth 100000 in
set_option maxHeartbeats 8000000 in
theorem specPoolDo_sh (v : Value) (m : Pm) (k i g : Int) (w : World) (hR : RcPm 0 w.heap.size w v m) (hf : fitPm m) :
    Calls Try.prog 41 #[v, cmd k i g] w fun e w' => ∃ v', e = .returned (.tuple #[v', .bool (pdoF m k i g)]) ∧ RiPm w.heap.size w'.heap.size w' v' (pdoM m k i g) ∧ Below w.heap.size w w' := by
  obtain ⟨vb, vr, rfl, hvb, hcb, rr, hcr⟩ := hR
  obtain ⟨o, c, rfl, r⟩ := hvb.open
  have hnil : o = none → c = 0 := fun e => hcb _ _ (by rw [e])
  obtain ⟨oR, cR, rfl⟩ := RiR.len (RcR.ri rr)
  have hnilR : oR = none → cR = 0 := fun e => hcr _ _ (by rw [e])
  clear hvb hcb hcr
  obtain ⟨key, l, lll⟩ := m
  dsimp only at *
  have HPM := hide (show pdoM ⟨key, l, lll⟩ k i g = if (poolB ⟨key, l, lll⟩ && cmdOkB k i g) = true then (match doL l k i g with | none => ⟨key, l, lll⟩ | some l' => ⟨key, l', (newT key l' :: lll).take 3⟩) else pm0 from rfl)
  have HPF := hide (show pdoF ⟨key, l, lll⟩ k i g = ((poolB ⟨key, l, lll⟩ && cmdOkB k i g) && (doL l k i g).isSome) from rfl)
  have HFA := hide (fun h : poolB ⟨key, l, lll⟩ = true => pool_facts h)
  have HFIT := hide hf
  obtain ⟨hf1, hf2, hf3, hf4, hf5⟩ := hf
  dsimp only at hf1 hf2 hf3 hf4 hf5
  clear hf3 hf4 hf5
  obtain ⟨W0, hW0⟩ : ∃ W, (((w.alloc (.cells #[.int .i64 key, .slice o l.length c, .slice oR lll.length cR] 26)).alloc (.cells #[.int .i64 k, .int .i64 i, .int .i64 g] 28)).alloc (.cells #[.int .i64 0, .slice none 0 0, .slice none 0 0] 26)) = W := ⟨_, rfl⟩
  have hb_W0 : Below w.heap.size w W0 := by rw [← hW0]; exact ((((Below.refl _ _).alloc (Nat.le_refl _) _).alloc (by simp <;> omega) _).alloc (by simp <;> omega) _)
  have HB := hide hb_W0
  clear hb_W0
  have zz : w.heap.size < W0.heap.size := by rw [← hW0]; simp <;> omega
  have z0 : W0.cell? ⟨w.heap.size, 0, none⟩ = some (.int .i64 key) := by rw [← hW0]; simp [go_sem]
  have z1 : W0.cell? ⟨w.heap.size, 1, none⟩ = some (.slice o l.length c) := by rw [← hW0]; simp [go_sem]
  have z2 : W0.cell? ⟨w.heap.size, 2, none⟩ = some (.slice oR lll.length cR) := by rw [← hW0]; simp [go_sem]
  have zu : w.heap.size + 1 < W0.heap.size := by rw [← hW0]; simp <;> omega
  have u0 : W0.cell? ⟨w.heap.size + 1, 0, none⟩ = some (.int .i64 k) := by rw [← hW0]; simp [go_sem]
  have u1 : W0.cell? ⟨w.heap.size + 1, 1, none⟩ = some (.int .i64 i) := by rw [← hW0]; simp [go_sem]
  have u2 : W0.cell? ⟨w.heap.size + 1, 2, none⟩ = some (.int .i64 g) := by rw [← hW0]; simp [go_sem]
  have zr : w.heap.size + 1 + 1 < W0.heap.size := by rw [← hW0]; simp
  have r0 : W0.cell? ⟨w.heap.size + 1 + 1, 0, none⟩ = some (.int .i64 0) := by rw [← hW0]; simp [go_sem]
  have r1 : W0.cell? ⟨w.heap.size + 1 + 1, 1, none⟩ = some (.slice none 0 0) := by rw [← hW0]; simp [go_sem]
  have r2 : W0.cell? ⟨w.heap.size + 1 + 1, 2, none⟩ = some (.slice none 0 0) := by rw [← hW0]; simp [go_sem]
  have fr0 : W0.frozen? ⟨w.heap.size + 1 + 1, 0, none⟩ = false := by rw [← hW0]; simp [go_sem]
  have fr1 : W0.frozen? ⟨w.heap.size + 1 + 1, 1, none⟩ = false := by rw [← hW0]; simp [go_sem]
  have fr2 : W0.frozen? ⟨w.heap.size + 1 + 1, 2, none⟩ = false := by rw [← hW0]; simp [go_sem]
  have hzr := zr
  have HPO := hide (specPoolOk_go key o c l oR cR lll lll.length rfl W0 ((r.kept HB.out (Nat.le_refl _)).le HB.out.size) (RiR.mon.go (RiR.stp.go (RcR.ri rr) (Stp.of (lo := 0) (hi := 0) HB.out) (.inl (Nat.zero_le _))) (Nat.le_refl _) HB.out.size) HFIT.out)
  have HPC := hide (fun W => specPoolCmdOk_any k i g W)
  have HRL := hide r
  have HRR := hide rr
  have HFP := hide (pdo_fit (m := ⟨key, l, lll⟩) k i g HFIT.out)
  clear r rr
  have hw0 := HB.out.size
  cases hp : poolB ⟨key, l, lll⟩ with
  | false =>
    rw [hp] at HPO HPM HPF
    clear hp HFA
    go_enter Try.func41, Try.ntmps41
    go_wp2_with fail
    refine (HPO.out).mono ?_
    rintro e v1 ⟨rfl, hb⟩
    replace z0 := bC hb z0 zz
    replace z1 := bC hb z1 zz
    replace z2 := bC hb z2 zz
    replace zz := Nat.lt_of_lt_of_le zz hb.size
    replace u0 := bC hb u0 zu
    replace u1 := bC hb u1 zu
    replace u2 := bC hb u2 zu
    replace zu := Nat.lt_of_lt_of_le zu hb.size
    replace r0 := bC hb r0 zr
    replace r1 := bC hb r1 zr
    replace r2 := bC hb r2 zr
    replace fr0 := bF hb fr0 zr
    replace fr1 := bF hb fr1 zr
    replace fr2 := bF hb fr2 zr
    replace zr := Nat.lt_of_lt_of_le zr hb.size
    replace HB := hide (HB.out.trans (hb.mono HB.out.size))
    clear hb
    go_wp2
    refine bodyPost_ret (v := .tuple #[plv 0 (.slice none 0 0) (.slice none 0 0), .bool false]) (by simp [results, Try.results41, go_sem, r0, r1, r2]) rfl ⟨plv 0 (.slice none 0 0) (.slice none 0 0), by rw [HPF.out]; simp, ?_, setQ_below HB.out (by omega) _ _ _⟩
    rw [HPM.out, if_neg (by simp)]
    exact pm0_ri _ _ _
  | true =>
    obtain ⟨hk, hbo, h1n, h3n, hto⟩ := HFA.out hp
    dsimp only at hk hbo h1n h3n hto
    have HK := hide hk
    have HBK := hide hbo
    have hl6 := backs_len hbo
    rw [hp] at HPO HPM HPF
    clear hk hbo hto HFA hp
    cases hc : cmdOkB k i g with
    | false =>
      rw [hc] at HPC HPM HPF
      go_enter Try.func41, Try.ntmps41
      go_wp2_with fail
      refine (HPO.out).mono ?_
      rintro e v1 ⟨rfl, hb⟩
      replace z0 := bC hb z0 zz
      replace z1 := bC hb z1 zz
      replace z2 := bC hb z2 zz
      replace zz := Nat.lt_of_lt_of_le zz hb.size
      replace u0 := bC hb u0 zu
      replace u1 := bC hb u1 zu
      replace u2 := bC hb u2 zu
      replace zu := Nat.lt_of_lt_of_le zu hb.size
      replace r0 := bC hb r0 zr
      replace r1 := bC hb r1 zr
      replace r2 := bC hb r2 zr
      replace fr0 := bF hb fr0 zr
      replace fr1 := bF hb fr1 zr
      replace fr2 := bF hb fr2 zr
      replace zr := Nat.lt_of_lt_of_le zr hb.size
      replace HB := hide (HB.out.trans (hb.mono HB.out.size))
      clear hb
      go_wp2_with fail
      refine (HPC.out v1).mono ?_
      rintro e v2 ⟨rfl, hb⟩
      replace z0 := bC hb z0 zz
      replace z1 := bC hb z1 zz
      replace z2 := bC hb z2 zz
      replace zz := Nat.lt_of_lt_of_le zz hb.size
      replace u0 := bC hb u0 zu
      replace u1 := bC hb u1 zu
      replace u2 := bC hb u2 zu
      replace zu := Nat.lt_of_lt_of_le zu hb.size
      replace r0 := bC hb r0 zr
      replace r1 := bC hb r1 zr
      replace r2 := bC hb r2 zr
      replace fr0 := bF hb fr0 zr
      replace fr1 := bF hb fr1 zr
      replace fr2 := bF hb fr2 zr
      replace zr := Nat.lt_of_lt_of_le zr hb.size
      replace HB := hide (HB.out.trans (hb.mono HB.out.size))
      clear hb
      go_wp2
      refine bodyPost_ret (v := .tuple #[plv 0 (.slice none 0 0) (.slice none 0 0), .bool false]) (by simp [results, Try.results41, go_sem, r0, r1, r2]) rfl ⟨plv 0 (.slice none 0 0) (.slice none 0 0), by rw [HPF.out]; simp, ?_, setQ_below HB.out (by omega) _ _ _⟩
      rw [HPM.out, if_neg (by simp)]
      exact pm0_ri _ _ _
    | true =>
      have HC := hide hc
      rw [hc] at HPC HPM HPF
      clear hc
      cases hdo : doL l k i g with
      | none =>
        have HDN := hide (fun W h => l4do_no key o c l oR lll.length cR k i g W HBK.out hdo (by omega) h)
        rw [hdo] at HPM HPF
        clear hdo
        go_enter Try.func41, Try.ntmps41
        go_wp2_with fail
        refine (HPO.out).mono ?_
        rintro e v1 ⟨rfl, hb⟩
        have hs1 := hb.size
        replace z0 := bC hb z0 zz
        replace z1 := bC hb z1 zz
        replace z2 := bC hb z2 zz
        replace zz := Nat.lt_of_lt_of_le zz hb.size
        replace u0 := bC hb u0 zu
        replace u1 := bC hb u1 zu
        replace u2 := bC hb u2 zu
        replace zu := Nat.lt_of_lt_of_le zu hb.size
        replace r0 := bC hb r0 zr
        replace r1 := bC hb r1 zr
        replace r2 := bC hb r2 zr
        replace fr0 := bF hb fr0 zr
        replace fr1 := bF hb fr1 zr
        replace fr2 := bF hb fr2 zr
        replace zr := Nat.lt_of_lt_of_le zr hb.size
        replace HB := hide (HB.out.trans (hb.mono HB.out.size))
        clear hb
        go_wp2_with fail
        refine (HPC.out v1).mono ?_
        rintro e v2 ⟨rfl, hb⟩
        have hs2 := hb.size
        replace z0 := bC hb z0 zz
        replace z1 := bC hb z1 zz
        replace z2 := bC hb z2 zz
        replace zz := Nat.lt_of_lt_of_le zz hb.size
        replace u0 := bC hb u0 zu
        replace u1 := bC hb u1 zu
        replace u2 := bC hb u2 zu
        replace zu := Nat.lt_of_lt_of_le zu hb.size
        replace r0 := bC hb r0 zr
        replace r1 := bC hb r1 zr
        replace r2 := bC hb r2 zr
        replace fr0 := bF hb fr0 zr
        replace fr1 := bF hb fr1 zr
        replace fr2 := bF hb fr2 zr
        replace zr := Nat.lt_of_lt_of_le zr hb.size
        replace HB := hide (HB.out.trans (hb.mono HB.out.size))
        clear hb
        go_wp2_with fail
        refine (HDN.out v2 ((HRL.out.kept HB.out (Nat.le_refl _)).le HB.out.size)).mono ?_
        rintro e v3 ⟨rfl, hb⟩
        have hs3 := hb.size
        replace z0 := bC hb z0 zz
        replace z1 := bC hb z1 zz
        replace z2 := bC hb z2 zz
        replace zz := Nat.lt_of_lt_of_le zz hb.size
        replace u0 := bC hb u0 zu
        replace u1 := bC hb u1 zu
        replace u2 := bC hb u2 zu
        replace zu := Nat.lt_of_lt_of_le zu hb.size
        replace r0 := bC hb r0 zr
        replace r1 := bC hb r1 zr
        replace r2 := bC hb r2 zr
        replace fr0 := bF hb fr0 zr
        replace fr1 := bF hb fr1 zr
        replace fr2 := bF hb fr2 zr
        replace zr := Nat.lt_of_lt_of_le zr hb.size
        replace HB := hide (HB.out.trans (hb.mono HB.out.size))
        clear hb
        obtain ⟨W4, hW4⟩ : ∃ W, (v3.alloc (.cells #[.int .i64 key, .slice o l.length c, .slice oR lll.length cR] 26)) = W := ⟨_, rfl⟩
        have hb_W4 : Below v3.heap.size v3 W4 := by rw [← hW4]; exact ((Below.refl _ _).alloc (Nat.le_refl _) _)
        replace z0 := bC hb_W4 z0 zz
        replace z1 := bC hb_W4 z1 zz
        replace z2 := bC hb_W4 z2 zz
        replace zz := Nat.lt_of_lt_of_le zz hb_W4.size
        replace u0 := bC hb_W4 u0 zu
        replace u1 := bC hb_W4 u1 zu
        replace u2 := bC hb_W4 u2 zu
        replace zu := Nat.lt_of_lt_of_le zu hb_W4.size
        replace r0 := bC hb_W4 r0 zr
        replace r1 := bC hb_W4 r1 zr
        replace r2 := bC hb_W4 r2 zr
        replace fr0 := bF hb_W4 fr0 zr
        replace fr1 := bF hb_W4 fr1 zr
        replace fr2 := bF hb_W4 fr2 zr
        replace zr := Nat.lt_of_lt_of_le zr hb_W4.size
        replace HB := hide (HB.out.trans (hb_W4.mono HB.out.size))
        clear hb_W4
        have zx : v3.heap.size < W4.heap.size := by rw [← hW4]; simp
        have x0 : W4.cell? ⟨v3.heap.size, 0, none⟩ = some (.int .i64 key) := by rw [← hW4]; simp [go_sem]
        have x1 : W4.cell? ⟨v3.heap.size, 1, none⟩ = some (.slice o l.length c) := by rw [← hW4]; simp [go_sem]
        have x2 : W4.cell? ⟨v3.heap.size, 2, none⟩ = some (.slice oR lll.length cR) := by rw [← hW4]; simp [go_sem]
        have hs4 := zx
        have HOW := hide (l4own_go key o c l oR cR lll lll.length rfl W4 ((HRL.out.kept HB.out (Nat.le_refl _)).le HB.out.size) hnil hf1 (RcR.mon.go (RcR.stp.go HRR.out (lo := w.heap.size) (hi := w.heap.size + W4.heap.size) (below_stp HB.out) (.inr (Nat.le_refl _))) (Nat.le_refl _) HB.out.size) hf2 HFIT.out.2.2.2.1 HFIT.out.2.2.2.2)
        go_wp2_with fail
        refine (HOW.out).mono ?_
        rintro e v5 ⟨v9, rfl, hin, hb⟩
        have HIN := hide hin
        have hs5 := hb.size
        clear hin
        obtain ⟨o9, c9, oR9, cR9, e9⟩ : ∃ (o9 : Option Addr) (c9 : Nat) (oR9 : Option Addr) (cR9 : Nat), v9 = plv key (.slice o9 l.length c9) (.slice oR9 lll.length cR9) := HIN.out.opn
        subst e9
        replace z0 := bC hb z0 zz
        replace z1 := bC hb z1 zz
        replace z2 := bC hb z2 zz
        replace zz := Nat.lt_of_lt_of_le zz hb.size
        replace u0 := bC hb u0 zu
        replace u1 := bC hb u1 zu
        replace u2 := bC hb u2 zu
        replace zu := Nat.lt_of_lt_of_le zu hb.size
        replace r0 := bC hb r0 zr
        replace r1 := bC hb r1 zr
        replace r2 := bC hb r2 zr
        replace fr0 := bF hb fr0 zr
        replace fr1 := bF hb fr1 zr
        replace fr2 := bF hb fr2 zr
        replace zr := Nat.lt_of_lt_of_le zr hb.size
        replace x0 := bC hb x0 zx
        replace x1 := bC hb x1 zx
        replace x2 := bC hb x2 zx
        replace zx := Nat.lt_of_lt_of_le zx hb.size
        replace HB := hide (HB.out.trans (hb.mono HB.out.size))
        clear hb
        go_wp2
        refine bodyPost_ret (v := .tuple #[plv key (.slice o9 l.length c9) (.slice oR9 lll.length cR9), .bool false]) (by simp [results, Try.results41, go_sem, r0, r1, r2]) rfl ⟨plv key (.slice o9 l.length c9) (.slice oR9 lll.length cR9), by rw [HPF.out]; simp, ?_, setQ_below HB.out (by omega) _ _ _⟩
        rw [HPM.out, if_pos (by simp), setQ_size]
        exact (HIN.out.step (stp_setQ v5 (w.heap.size + 1 + 1) _ _ _) (.inl (by omega))).mono (by omega) (Nat.le_refl _)
      | some mm =>
        obtain ⟨hsR, hlR, hvR, hrR⟩ := HRR.out
        obtain ⟨o1, c1, e1, hv1⟩ := hvR.open
        injection e1 with e1 e2 e3
        subst e1
        have HV1 := hide hv1
        have HRT := hide hrR
        have HLR := hide hlR
        have hok := doL_ok HBK.out HC.out hdo
        have hm6 := backs_len hok
        have HDY := hide (fun W (h : RdK W.heap.size W o l) (h2 : RdL layH W.heap.size W oR hsR) => l4do_yes key o c l oR cR hsR k i g mm W HK.out HBK.out HC.out hdo (by omega) h h2 hnilR (by omega))
        rw [hlR] at HDY
        have HPMX := hide (show pdoM ⟨key, l, lll⟩ k i g = ⟨key, mm, (newT key mm :: lll).take 3⟩ by rw [HPM.out, if_pos (by simp), hdo])
        rw [hdo] at HPF
        rw [HPMX.out] at HFP
        clear hdo hv1 hrR hvR e2 e3 hlR HPM
        go_enter Try.func41, Try.ntmps41
        go_wp2_with fail
        refine (HPO.out).mono ?_
        rintro e v1 ⟨rfl, hb⟩
        have hs1 := hb.size
        replace z0 := bC hb z0 zz
        replace z1 := bC hb z1 zz
        replace z2 := bC hb z2 zz
        replace zz := Nat.lt_of_lt_of_le zz hb.size
        replace u0 := bC hb u0 zu
        replace u1 := bC hb u1 zu
        replace u2 := bC hb u2 zu
        replace zu := Nat.lt_of_lt_of_le zu hb.size
        replace r0 := bC hb r0 zr
        replace r1 := bC hb r1 zr
        replace r2 := bC hb r2 zr
        replace fr0 := bF hb fr0 zr
        replace fr1 := bF hb fr1 zr
        replace fr2 := bF hb fr2 zr
        replace zr := Nat.lt_of_lt_of_le zr hb.size
        replace HB := hide (HB.out.trans (hb.mono HB.out.size))
        clear hb
        go_wp2_with fail
        refine (HPC.out v1).mono ?_
        rintro e v2 ⟨rfl, hb⟩
        have hs2 := hb.size
        replace z0 := bC hb z0 zz
        replace z1 := bC hb z1 zz
        replace z2 := bC hb z2 zz
        replace zz := Nat.lt_of_lt_of_le zz hb.size
        replace u0 := bC hb u0 zu
        replace u1 := bC hb u1 zu
        replace u2 := bC hb u2 zu
        replace zu := Nat.lt_of_lt_of_le zu hb.size
        replace r0 := bC hb r0 zr
        replace r1 := bC hb r1 zr
        replace r2 := bC hb r2 zr
        replace fr0 := bF hb fr0 zr
        replace fr1 := bF hb fr1 zr
        replace fr2 := bF hb fr2 zr
        replace zr := Nat.lt_of_lt_of_le zr hb.size
        replace HB := hide (HB.out.trans (hb.mono HB.out.size))
        clear hb
        go_wp2_with fail
        refine (HDY.out v2 ((HRL.out.kept HB.out (Nat.le_refl _)).le HB.out.size) ((HV1.out.kept HB.out (Nat.le_refl _)).le HB.out.size)).mono ?_
        rintro e v3 ⟨o2, c2, oR2, n2, cR2, o3, c3, hs3, rfl, hn2, ow2, owR, ow3, tb3, hb⟩
        have hs3' := hb.size
        have HO2 := hide ow2
        have HOR := hide owR
        have HO3 := hide ow3
        have HT3 := hide tb3
        clear ow2 owR ow3 tb3
        replace z0 := bC hb z0 zz
        replace z1 := bC hb z1 zz
        replace z2 := bC hb z2 zz
        replace zz := Nat.lt_of_lt_of_le zz hb.size
        replace u0 := bC hb u0 zu
        replace u1 := bC hb u1 zu
        replace u2 := bC hb u2 zu
        replace zu := Nat.lt_of_lt_of_le zu hb.size
        replace r0 := bC hb r0 zr
        replace r1 := bC hb r1 zr
        replace r2 := bC hb r2 zr
        replace fr0 := bF hb fr0 zr
        replace fr1 := bF hb fr1 zr
        replace fr2 := bF hb fr2 zr
        replace zr := Nat.lt_of_lt_of_le zr hb.size
        replace HB := hide (HB.out.trans (hb.mono HB.out.size))
        clear hb
        have HN2 := hide (show n2 = ((newT key mm :: lll).take 3).length by rw [hn2, List.length_take, List.length_take, List.length_cons, List.length_cons, HLR.out])
        clear hn2
        obtain ⟨W4, hW4⟩ : ∃ W, (v3.alloc (.cells #[.int .i64 key, .slice o2 mm.length c2, .slice oR2 n2 cR2] 26)) = W := ⟨_, rfl⟩
        have hb_W4 : Below v3.heap.size v3 W4 := by rw [← hW4]; exact ((Below.refl _ _).alloc (Nat.le_refl _) _)
        replace z0 := bC hb_W4 z0 zz
        replace z1 := bC hb_W4 z1 zz
        replace z2 := bC hb_W4 z2 zz
        replace zz := Nat.lt_of_lt_of_le zz hb_W4.size
        replace u0 := bC hb_W4 u0 zu
        replace u1 := bC hb_W4 u1 zu
        replace u2 := bC hb_W4 u2 zu
        replace zu := Nat.lt_of_lt_of_le zu hb_W4.size
        replace r0 := bC hb_W4 r0 zr
        replace r1 := bC hb_W4 r1 zr
        replace r2 := bC hb_W4 r2 zr
        replace fr0 := bF hb_W4 fr0 zr
        replace fr1 := bF hb_W4 fr1 zr
        replace fr2 := bF hb_W4 fr2 zr
        replace zr := Nat.lt_of_lt_of_le zr hb_W4.size
        replace HT3 := hide (HT3.out.kept hb_W4)
        replace HO2 := hide (own_kept HO2.out hb_W4)
        replace HOR := hide (own_kept HOR.out hb_W4)
        replace HO3 := hide (own_kept HO3.out hb_W4)
        replace HB := hide (HB.out.trans (hb_W4.mono HB.out.size))
        clear hb_W4
        have zx : v3.heap.size < W4.heap.size := by rw [← hW4]; simp
        have x0 : W4.cell? ⟨v3.heap.size, 0, none⟩ = some (.int .i64 key) := by rw [← hW4]; simp [go_sem]
        have x1 : W4.cell? ⟨v3.heap.size, 1, none⟩ = some (.slice o2 mm.length c2) := by rw [← hW4]; simp [go_sem]
        have x2 : W4.cell? ⟨v3.heap.size, 2, none⟩ = some (.slice oR2 n2 cR2) := by rw [← hW4]; simp [go_sem]
        have hs4 := zx
        have HRC := hide (rc_cons (C := w.heap.size) (R := lll) (Nat.le_trans hw0 (by omega)) HOR.out HO3.out HT3.out HLR.out (fun q hq => RcT.stp.go (HRT.out q hq) (lo := w.heap.size) (hi := w.heap.size + W4.heap.size) (below_stp HB.out) (.inr (Nat.le_refl _))))
        obtain ⟨rg, hrg⟩ : ∃ q, (newT key mm :: lll).take 3 = q := ⟨_, rfl⟩
        rw [hrg] at HRC HPMX HFP HN2
        clear hrg
        have HOW := hide (l4own_go key o2 c2 mm oR2 cR2 rg n2 HN2.out W4 (ownL.rds (L := layK) HO2.out) (own_capK HO2.out) (by omega) HRC.out (by rw [HN2.out]; exact HFP.out.2.1) HFP.out.2.2.2.1 HFP.out.2.2.2.2)
        go_wp2_with fail
        refine (HOW.out).mono ?_
        rintro e v5 ⟨v9, rfl, hin, hb⟩
        have HIN := hide hin
        have hs5 := hb.size
        clear hin
        obtain ⟨o9, c9, oR9, cR9, e9⟩ : ∃ (o9 : Option Addr) (c9 : Nat) (oR9 : Option Addr) (cR9 : Nat), v9 = plv key (.slice o9 mm.length c9) (.slice oR9 rg.length cR9) := HIN.out.opn
        subst e9
        replace z0 := bC hb z0 zz
        replace z1 := bC hb z1 zz
        replace z2 := bC hb z2 zz
        replace zz := Nat.lt_of_lt_of_le zz hb.size
        replace u0 := bC hb u0 zu
        replace u1 := bC hb u1 zu
        replace u2 := bC hb u2 zu
        replace zu := Nat.lt_of_lt_of_le zu hb.size
        replace r0 := bC hb r0 zr
        replace r1 := bC hb r1 zr
        replace r2 := bC hb r2 zr
        replace fr0 := bF hb fr0 zr
        replace fr1 := bF hb fr1 zr
        replace fr2 := bF hb fr2 zr
        replace zr := Nat.lt_of_lt_of_le zr hb.size
        replace x0 := bC hb x0 zx
        replace x1 := bC hb x1 zx
        replace x2 := bC hb x2 zx
        replace zx := Nat.lt_of_lt_of_le zx hb.size
        replace HB := hide (HB.out.trans (hb.mono HB.out.size))
        clear hb
        go_wp2
        refine bodyPost_ret (v := .tuple #[plv key (.slice o9 mm.length c9) (.slice oR9 rg.length cR9), .bool true]) (by simp [results, Try.results41, go_sem, r0, r1, r2]) rfl ⟨plv key (.slice o9 mm.length c9) (.slice oR9 rg.length cR9), by rw [HPF.out]; simp, ?_, setQ_below HB.out (by omega) _ _ _⟩
        rw [HPMX.out, setQ_size]
        exact (HIN.out.step (stp_setQ v5 (w.heap.size + 1 + 1) _ _ _) (.inl (by omega))).mono (by omega) (Nat.le_refl _)

end Go.Proofs.Ytldjaapbkihibaa

/- A box of a pool that is laid at any place among calls: what its end wants. -/
namespace Go.Proofs.Ytldjaapbkihibaa
open Go.ChangeShapes Go.WideShapes Go.ChangeAt Go.RowKit Go.Joins
set_option linter.unusedVariables false
set_option linter.unusedSimpArgs false

theorem RiPm.stps : Stps RiPm := ⟨fun h s hd => RiPm.step h s hd⟩
theorem InPm.stps : Stps InPm := ⟨fun h s hd => InPm.step h s hd⟩
theorem RcPm.kept {lo C D : Nat} {w w' : World} {v : Value} {m : Pm} (h : RcPm lo C w v m) (hb : Below D w w') (hc : C ≤ D) : RcPm lo C w' v m := by
  obtain ⟨vb, vr, e, h1, h2, h3, h4⟩ := h
  have s : Stp C (w.heap.size + C) w w' := ⟨hb.os, hb.tape, hb.output, hb.size, fun k hk hn => hb.block k (by omega)⟩
  exact ⟨vb, vr, e, h1.step s (.inr (Nat.le_refl _)), h2, RcR.stp.go h3 s (.inr (Nat.le_refl _)), h4⟩
theorem block_cellD {W : World} {B : Nat} {c : Array Value} {t : TypeId} (h : W.heap[B]? = some (.cells c t (0, 0))) (j : Nat) (u : Value) (hj : c[j]? = some u) : W.cell? ⟨B, j, none⟩ = some u := bx_cell h j u hj
theorem finD {P : Nat → Nat → World → Value → Pm → Prop} (hP : Stps P) {cur W : World} {B lo hi : Nat} {f : Value} {mr : Pm} {o oR : Option Addr} {c cR : Nat} {z0 z1 z2 : Value} (hZ : W.heap[B]? = some (.cells #[z0, z1, z2] 26 (0, 0))) (hx : Below cur.heap.size cur W) (hB : cur.heap.size ≤ B) (hi' : P lo hi W (plv mr.key (.slice o mr.l.length c) (.slice oR mr.ring.length cR)) mr) (h1 : cur.heap.size ≤ lo) (h2 : hi ≤ W.heap.size) (h3 : B < lo ∨ hi ≤ B) :
    ∃ B' lo hi o' c' oR' cR', Value.pointer (some ⟨B, 0, none⟩) = .pointer (some ⟨B', 0, none⟩) ∧ f = f ∧ Hid ((setP W B (.int .i64 mr.key) (.slice o mr.l.length c) (.slice oR mr.ring.length cR)).heap[B']? = some (.cells #[.int .i64 mr.key, .slice o' mr.l.length c', .slice oR' mr.ring.length cR'] 26 (0, 0))) ∧ Hid (Below cur.heap.size cur (setP W B (.int .i64 mr.key) (.slice o mr.l.length c) (.slice oR mr.ring.length cR))) ∧ cur.heap.size ≤ B' ∧ B' < (setP W B (.int .i64 mr.key) (.slice o mr.l.length c) (.slice oR mr.ring.length cR)).heap.size ∧ Hid (P lo hi (setP W B (.int .i64 mr.key) (.slice o mr.l.length c) (.slice oR mr.ring.length cR)) (plv mr.key (.slice o' mr.l.length c') (.slice oR' mr.ring.length cR')) mr) ∧ cur.heap.size ≤ lo ∧ hi ≤ (setP W B (.int .i64 mr.key) (.slice o mr.l.length c) (.slice oR mr.ring.length cR)).heap.size ∧ (B' < lo ∨ hi ≤ B') := by
  have b1 := box_put hZ 0 (.int .i64 mr.key)
  have b2 := box_put b1 1 (.slice o mr.l.length c)
  have b3 := box_put b2 2 (.slice oR mr.ring.length cR)
  exact ⟨B, lo, hi, o, c, oR, cR, rfl, rfl, b3, setQ_below hx hB _ _ _, hB, (Array.getElem?_eq_some_iff.1 b3).1, hP.go hi' (stp_setQ W B _ _ _) (by omega), h1, by rw [setQ_size]; exact h2, h3⟩
theorem finDn {P : Nat → Nat → World → Value → Pm → Prop} (hP : Stps P) {cur W : World} {lo hi : Nat} {f : Value} {mr : Pm} {o oR : Option Addr} {c cR : Nat} (hx : Below cur.heap.size cur W) (hi' : P lo hi W (plv mr.key (.slice o mr.l.length c) (.slice oR mr.ring.length cR)) mr) (h1 : cur.heap.size ≤ lo) (h2 : hi ≤ W.heap.size) :
    ∃ B' lo hi o' c' oR' cR', Value.pointer (some ⟨W.heap.size, 0, none⟩) = .pointer (some ⟨B', 0, none⟩) ∧ f = f ∧ Hid ((W.alloc (.cells #[.int .i64 mr.key, .slice o mr.l.length c, .slice oR mr.ring.length cR] 26)).heap[B']? = some (.cells #[.int .i64 mr.key, .slice o' mr.l.length c', .slice oR' mr.ring.length cR'] 26 (0, 0))) ∧ Hid (Below cur.heap.size cur (W.alloc (.cells #[.int .i64 mr.key, .slice o mr.l.length c, .slice oR mr.ring.length cR] 26))) ∧ cur.heap.size ≤ B' ∧ B' < (W.alloc (.cells #[.int .i64 mr.key, .slice o mr.l.length c, .slice oR mr.ring.length cR] 26)).heap.size ∧ Hid (P lo hi (W.alloc (.cells #[.int .i64 mr.key, .slice o mr.l.length c, .slice oR mr.ring.length cR] 26)) (plv mr.key (.slice o' mr.l.length c') (.slice oR' mr.ring.length cR')) mr) ∧ cur.heap.size ≤ lo ∧ hi ≤ (W.alloc (.cells #[.int .i64 mr.key, .slice o mr.l.length c, .slice oR mr.ring.length cR] 26)).heap.size ∧ (B' < lo ∨ hi ≤ B') :=
  ⟨W.heap.size, lo, hi, o, c, oR, cR, rfl, rfl, World.alloc_heap_new W _, hx.alloc hx.size _, hx.size, by simp, hP.go hi' (Stp.of (lo := 0) (hi := 0) ((Below.refl _ _).alloc (Nat.le_refl _) _)) (.inl (Nat.zero_le _)), h1, by simp; omega, .inr h2⟩
theorem box_newD {w new : World} {c : Array Value} {T : TypeId} (hb : Below (w.alloc (.cells c T)).heap.size (w.alloc (.cells c T)) new) : new.heap[w.heap.size]? = some (.cells c T (0, 0)) :=
  (hb.block w.heap.size (by simp)).trans (World.alloc_heap_new w (.cells c T))

end Go.Proofs.Ytldjaapbkihibaa

/- The candidates of a bucket; the model's side. -/
namespace Go.Proofs.Ytldjaapbkihibaa
open Go.ChangeShapes Go.WideShapes Go.ChangeAt Go.RowKit Go.Joins
set_option linter.unusedVariables false
set_option linter.unusedSimpArgs false


def addTo (out : List Int) (x : Int) : List Int := if out.contains x = true then out else out ++ [x]
def addAll (out l : List Int) : List Int := l.foldl addTo out
/-- Those of the tables' lists of bucket b, each once. -/
def candL (R : List (List (List Int))) (b : Nat) : List Int := R.foldl (fun out t => addAll out (t.getD b [])) []
def candM (m : Pm) (b : Int) : List Int := if (poolB m && decide (0 ≤ b) && decide (b < 8)) = true then candL m.ring b.toNat else []
theorem addTo_len (out : List Int) (x : Int) : (addTo out x).length ≤ out.length + 1 := by
  unfold addTo; split
  · omega
  · simp
theorem addAll_len (l out : List Int) : (addAll out l).length ≤ out.length + l.length := by
  unfold addAll
  induction l generalizing out with
  | nil => simp
  | cons a l ih => have h := ih (addTo out a); have h2 := addTo_len out a; simp only [List.foldl_cons, List.length_cons]; omega
theorem addAll_take (out l : List Int) (k : Nat) (h : k < l.length) : addAll out (l.take (k + 1)) = addTo (addAll out (l.take k)) (l.getD k 0) := by
  unfold addAll
  rw [List.take_succ_eq_append_getElem h, List.foldl_append, List.getD_eq_getElem?_getD, List.getElem?_eq_getElem h]
  rfl
theorem candL_take (R : List (List (List Int))) (b i : Nat) (h : i < R.length) : candL (R.take (i + 1)) b = addAll (candL (R.take i) b) ((R.getD i []).getD b []) := by
  unfold candL
  rw [List.take_succ_eq_append_getElem h, List.foldl_append, List.getD_eq_getElem?_getD (l := R), List.getElem?_eq_getElem h]
  rfl
theorem has_yes {l : List Int} {k : Nat} {x : Int} (h : k < l.length) (e : l.getD k 0 = x) : l.contains x = true := by
  rw [List.contains_iff_mem, ← e, List.getD_eq_getElem?_getD, List.getElem?_eq_getElem h]
  exact List.getElem_mem h
theorem has_no {l : List Int} {x : Int} (h : ∀ j, j < l.length → l.getD j 0 ≠ x) : l.contains x = false := by
  rw [Bool.eq_false_iff]
  intro hc
  rw [List.contains_iff_mem] at hc
  obtain ⟨j, hj, e⟩ := List.getElem_of_mem hc
  exact h j hj (by rw [List.getD_eq_getElem?_getD, List.getElem?_eq_getElem hj]; exact e)
theorem addTo_yes {out : List Int} {x : Int} (h : out.contains x = true) : addTo out x = out := by unfold addTo; rw [if_pos h]
theorem addTo_no {out : List Int} {x : Int} (h : out.contains x = false) : addTo out x = out ++ [x] := by unfold addTo; rw [if_neg (by rw [h]; decide)]
theorem no_more {l : List Int} {x : Int} {k : Nat} (h : ∀ j, j < k → l.getD j 0 ≠ x) (h2 : l.getD k 0 ≠ x) : ∀ j, j < k + 1 → l.getD j 0 ≠ x := fun j hj => by
  by_cases e : j = k
  · subst e; exact h2
  · exact h j (by omega)
theorem rd_oneI {w : World} {x : Int} {T : TypeId} : RdL layI (w.alloc (.cells #[.int .i64 x] T)).heap.size (w.alloc (.cells #[.int .i64 x] T)) (some ⟨w.heap.size, 0, none⟩) [x] :=
  .inr ⟨w.heap.size, 0, rfl, by simp, fun i hi j hj => by
    have e1 : i = 0 := by simpa using hi
    subst e1
    match j, hj with
    | 0, _ => simp [layI]⟩

set_option maxRecDepth 100000 in
theorem l4has_any (o : Option Addr) (c : Nat) (l : List Int) (x : Int) (w : World) (hR : RdI w.heap.size w o l) (hl : l.length ≤ 1048576) :
    Calls Try.prog 125 #[.slice o l.length c, .int .i64 x] w fun e w' => e = .returned (.bool (l.contains x)) ∧ w' = w := by
  go_enter Try.func125, Try.ntmps125
  go_wp2
  go_loopw [5] (fun i wr => ∃ k : Nat, k ≤ l.length ∧ i = .int .i64 k ∧ wr = w ∧ Hid (∀ j, j < k → l.getD j 0 ≠ x))
    (fun i _ => l.length - (intOf i).toNat)
  case atStart => exact ⟨0, Nat.zero_le _, rfl, rfl, fun j h => absurd h (Nat.not_lt_zero _)⟩
  case round =>
    obtain ⟨k, hk, rfl, rfl, HN⟩ := hrel
    by_cases hlt : k < l.length
    · rcases hR with hR | ⟨b, off, rfl, hb, hcell⟩
      · subst hR; simp at hlt
      have hc := RdL.int hcell k hlt
      clear hcell
      have i1 : (k : Int) < (l.length : Int) := by omega
      by_cases hx : l.getD k 0 = x
      · have HX := hide (has_yes hlt hx)
        rw [hx] at hc
        clear hx HN
        go_wp2
        go_ret
        exact ⟨by rw [HX.out]; rfl, rfl⟩
      · have HX := hide (no_more HN.out hx)
        obtain ⟨y, hy⟩ : ∃ y, l.getD k 0 = y := ⟨_, rfl⟩
        rw [hy] at hc hx
        clear hy HN
        go_wp2
        go_roundw
        case rel => exact ⟨k + 1, by omega, by go_num, by trivial, HX.out⟩
        case measure => simp [intOf]; omega
    · have e : k = l.length := by omega
      subst e
      have HX := hide (has_no HN.out)
      clear HN
      go_wp2
      go_ret
      exact ⟨by rw [HX.out]; rfl, rfl⟩

set_option maxRecDepth 100000 in
theorem index_any (o : Option Addr) (c : Nat) (l : List Int) (x : Int) (w : World) (hR : RdI w.heap.size w o l) (hl : l.length ≤ 1048576) :
    Calls Try.prog 114 #[.slice o l.length c, .int .i64 x] w fun e w' => ∃ r : Int, e = .returned (.int .i64 r) ∧ decide (0 ≤ r) = l.contains x ∧ w' = w := by
  go_enter Try.func114, Try.ntmps114
  go_wp2
  go_loopw [8] (fun i wr => ∃ k : Nat, k ≤ l.length ∧ i = .int .i64 k ∧ wr = w ∧ Hid (∀ j, j < k → l.getD j 0 ≠ x))
    (fun i _ => l.length - (intOf i).toNat)
  case atStart => exact ⟨0, Nat.zero_le _, rfl, rfl, fun j h => absurd h (Nat.not_lt_zero _)⟩
  case round =>
    obtain ⟨k, hk, rfl, rfl, HN⟩ := hrel
    by_cases hlt : k < l.length
    · rcases hR with hR | ⟨b, off, rfl, hb, hcell⟩
      · subst hR; simp at hlt
      have hc := RdL.int hcell k hlt
      clear hcell
      have i1 : (k : Int) < (l.length : Int) := by omega
      by_cases hx : l.getD k 0 = x
      · have HX := hide (has_yes hlt hx)
        rw [hx] at hc
        clear hx HN
        go_wp2
        go_ret
        exact ⟨(k : Int), rfl, by rw [HX.out]; simp, rfl⟩
      · have HX := hide (no_more HN.out hx)
        obtain ⟨y, hy⟩ : ∃ y, l.getD k 0 = y := ⟨_, rfl⟩
        rw [hy] at hc hx
        have hx' : ¬ x = y := fun e => hx e.symm
        clear hy HN
        go_wp2
        go_roundw
        case rel => exact ⟨k + 1, by omega, by go_num, by trivial, HX.out⟩
        case measure => simp [intOf]; omega
    · have e : k = l.length := by omega
      subst e
      have HX := hide (has_no HN.out)
      clear HN
      go_wp2
      go_ret
      exact ⟨-1, rfl, by rw [HX.out]; rfl, rfl⟩

set_option maxRecDepth 100000 in
theorem contains_any (o : Option Addr) (c : Nat) (l : List Int) (x : Int) (w : World) (hR : RdI w.heap.size w o l) (hl : l.length ≤ 1048576) :
    Calls Try.prog 65 #[.slice o l.length c, .int .i64 x] w fun e w' => e = .returned (.bool (l.contains x)) ∧ w' = w := by
  have HC := hide (index_any o c l x w hR hl)
  clear hR
  go_enter Try.func65, Try.ntmps65
  go_wp2_with fail
  refine HC.out.mono ?_
  rintro e w1 ⟨r, rfl, hr, rfl⟩
  have HR := hide hr
  clear hr HC
  go_wp2
  go_ret
  exact ⟨by rw [← HR.out]; rfl, rfl⟩

set_option maxRecDepth 100000 in
set_option maxHeartbeats 8000000 in
theorem l4candidates_go (key : Int) (o : Option Addr) (nb cap : Nat) (oR : Option Addr) (cR : Nat) (lll : List (List (List Int))) (n : Nat) (hnn : n = lll.length) (b : Nat) (hb8 : b < 8) (w : World) (hG : RiR 0 w.heap.size w (.slice oR n cR) lll) (hn3 : n ≤ 3) (h8 : ∀ i, i < lll.length → (lll.getD i []).length = 8) (h2 : ∀ i, i < lll.length → ((lll.getD i []).getD b []).length ≤ 2) :
    Calls Try.prog 95 #[plv key (.slice o nb cap) (.slice oR n cR), .int .i64 (b : Int)] w fun e w' => ∃ v, e = .returned v ∧ ownI w' w.heap.size v (candL lll b) ∧ Below w.heap.size w w' := by
  have HNN := hide hnn
  have HG := hide hG
  have H8 := hide h8
  have H2 := hide h2
  clear hnn hG h8 h2
  have hb8' : (b : Int) < 8 := by omega
  obtain ⟨W0, hW0⟩ : ∃ W, (w.alloc (.cells #[.int .i64 key, .slice o nb cap, .slice oR n cR] 26)) = W := ⟨_, rfl⟩
  have hb_W0 : Below w.heap.size w W0 := by rw [← hW0]; exact (Below.refl _ _).alloc (Nat.le_refl _) _
  have HB := hide hb_W0
  clear hb_W0
  have zz : w.heap.size < W0.heap.size := by rw [← hW0]; simp
  have z2 : W0.cell? ⟨w.heap.size, 2, none⟩ = some (.slice oR n cR) := by rw [← hW0]; simp [go_sem]
  go_enter Try.func95, Try.ntmps95
  go_wp2
  go_loopw [5, 6] (fun ov iv wr => ∃ i : Nat, i ≤ n ∧ iv = .int .i64 (i : Int) ∧ Hid (ownI wr W0.heap.size ov (candL (lll.take i) b)) ∧ (candL (lll.take i) b).length ≤ 2 * i ∧ Hid (Below W0.heap.size W0 wr))
    (fun _ iv _ => n - (intOf iv).toNat)
  case atStart => exact ⟨0, Nat.zero_le _, rfl, World.ownsRow_nil _ _ _ _, by simp [candL], Below.refl _ _⟩
  case round =>
    rename World => wr
    rename_i ov _
    obtain ⟨i, hi', rfl, HO, hL, HBr⟩ := hrel
    have z2' := bC HBr.out z2 zz
    have HBW := hide (HB.out.trans (HBr.out.mono HB.out.size))
    by_cases hlt : i < n
    · have hlt' : (i : Int) < (n : Int) := by omega
      have hif : i < lll.length := by rw [← HNN.out]; exact hlt
      obtain ⟨b1, off, u, rfl, hbl, hcu, hru⟩ := RiRows.at HG.out (Nat.le_refl _) i hif
      obtain ⟨o3, c3, rfl, _⟩ := RiT.rd hru
      obtain ⟨b2, off2, u2, e2, hbl2, hcu2, hrow⟩ := RiRows.at hru (Nat.le_refl _) b (by rw [H8.out i hif]; exact hb8)
      subst e2
      obtain ⟨o9, c9, rfl, hr9⟩ := RiV.open hrow
      rw [H8.out i hif] at hcu
      have hc1 := bC HBW.out hcu hbl
      have hc2 := bC HBW.out hcu2 hbl2
      have HR9 := hide hr9
      have hy9 := H2.out i hif
      have HTK := hide (candL_take lll b i hif)
      clear hcu hcu2 hrow hr9 hru
      obtain ⟨row, hrw⟩ : ∃ row, (lll.getD i []).getD b [] = row := ⟨_, rfl⟩
      rw [hrw] at hc2 HR9 hy9 HTK
      clear hrw
      obtain ⟨bas, hbs⟩ : ∃ q, candL (lll.take i) b = q := ⟨_, rfl⟩
      rw [hbs] at HO hL HTK
      clear hbs
      obtain ⟨m, hm⟩ : ∃ r, row.length = r := ⟨_, rfl⟩
      rw [hm] at hc2 hy9
      have HM := hide hm
      clear hm
      go_wp2
      go_loopw [5, 8] (fun ov kv wq => ∃ k : Nat, k ≤ m ∧ kv = .int .i64 (k : Int) ∧ Hid (ownI wq W0.heap.size ov (addAll bas (row.take k))) ∧ (addAll bas (row.take k)).length ≤ 2 * i + k ∧ Hid (Below W0.heap.size W0 wq))
        (fun _ kv _ => m - (intOf kv).toNat)
      case atStart => exact ⟨0, Nat.zero_le _, rfl, HO.out, by simpa [addAll] using hL, HBr.out⟩
      case round =>
        rename World => wq
        rename_i ov2 _
        obtain ⟨k, hk', rfl, HO2, hL2, HBq⟩ := hrel
        clear HO HBr z2' HBW hc1 hc2
        have HBW := hide (HB.out.trans (HBq.out.mono HB.out.size))
        by_cases hlk : k < m
        · have hlk' : (k : Int) < (m : Int) := by omega
          have hkr : k < row.length := by rw [HM.out]; exact hlk
          rcases HR9.out with hh | ⟨b3, off3, rfl, hb3, hcell⟩
          · rw [hh] at hkr; exact absurd hkr (Nat.not_lt_zero _)
          have hc3 := bC HBW.out (RdL.int hcell k hkr) hb3
          have HTK2 := hide (addAll_take bas row k hkr)
          clear hcell
          obtain ⟨y, hy⟩ : ∃ y, row.getD k 0 = y := ⟨_, rfl⟩
          rw [hy] at hc3 HTK2
          clear hy
          obtain ⟨cur, hcu⟩ : ∃ q, addAll bas (row.take k) = q := ⟨_, rfl⟩
          rw [hcu] at HO2 hL2 HTK2
          clear hcu
          obtain ⟨oo, co, e5, hrd⟩ := ownL.open (L := layI) HO2.out
          subst e5
          have HH := hide (l4has_any oo co cur y wq hrd (by omega))
          clear hrd
          go_wp2_with fail
          refine HH.out.mono ?_
          rintro e w4 ⟨rfl, rfl⟩
          clear HH
          cases hh : cur.contains y with
          | true =>
            have HY := hide (addTo_yes hh)
            go_wp2
            go_roundw
            case rel => exact ⟨k + 1, by omega, by go_num, by rw [HTK2.out, HY.out]; exact HO2.out, by rw [HTK2.out, HY.out]; omega, HBq.out⟩
            case measure => simp [intOf]; omega
          | false =>
            have HY := hide (addTo_no hh)
            have hsq := HBq.out.size
            have HA := hide (World.ownsRow.alloc HO2.out (.cells #[.int .i64 y] 3))
            have hc4 : (w4.alloc (.cells #[.int .i64 y] 3)).cell? ⟨b3, off3 + k, none⟩ = some (.int .i64 y) := bC ((Below.refl _ _).alloc (Nat.le_refl _) _) hc3 (by omega)
            go_wp2_with (first | (at_builtin; refine wpList_append_lay appII rfl (.tmp 37) (.tmp 42) rfl W0.heap.size _ cur rfl HA.out (some ⟨w4.heap.size, 0, none⟩) 1 _ [y] 1 rfl rfl (by simp) rd_oneI (by simp; omega) (by simp; omega) ?_))
            intro v5 w5 ho5 hg5 _
            have HB5 := hide ((HBq.out.alloc HBq.out.size _).grown hg5 (by simp; omega) (fun k h => (HA.out.lt k h).1))
            have HO5 := hide ho5
            clear hg5 ho5
            go_wp2
            go_roundw
            case rel => exact ⟨k + 1, by omega, by go_num, by rw [HTK2.out, HY.out]; exact HO5.out, by rw [HTK2.out, HY.out, List.length_append]; simp; omega, HB5.out⟩
            case measure => simp [intOf]; omega
        · have e : k = m := by omega
          subst e
          rw [← HM.out, List.take_length, ← HTK.out] at HO2 hL2
          go_wp2
          go_roundw
          case rel => exact ⟨i + 1, by omega, by go_num, HO2.out, by rw [HM.out] at hL2; omega, HBq.out⟩
          case measure => simp [intOf]; omega
    · have e : i = n := by omega
      subst e
      rw [HNN.out, List.take_length] at HO
      go_wp2
      go_ret
      exact ⟨_, rfl, own_mono HO.out HB.out.size, HBW.out⟩
theorem pair_row {ll : List (List Int)} (h : tabOkB ll = true) : ll.length = 8 ∧ ∀ b, b < 8 → pairOkB (ll.getD b []) = true := by
  unfold tabOkB at h
  simp only [Bool.and_eq_true, decide_eq_true_eq, List.all_eq_true, List.mem_range] at h
  exact ⟨h.1, h.2⟩

set_option maxRecDepth 100000 in
set_option maxHeartbeats 2000000 in
theorem specCandidates_sh (v : Value) (m : Pm) (q : Int) (w : World) (hR : RdPm w.heap.size w v m) (hf : fitPm m) :
    Calls Try.prog 43 #[v, .int .i64 q] w fun e w' => ∃ v', e = .returned v' ∧ ownI w' w.heap.size v' (candM m q) ∧ Below w.heap.size w w' := by
  have HR := hide hR
  obtain ⟨vb, vr, rfl, hvb, rr⟩ := hR
  obtain ⟨o, c, rfl, r⟩ := hvb.open
  obtain ⟨oR, cR, rfl⟩ := RiR.len rr
  have HRR := hide rr
  clear hvb r rr
  obtain ⟨W0, hW0⟩ : ∃ W, (w.alloc (.cells #[.int .i64 m.key, .slice o m.l.length c, .slice oR m.ring.length cR] 26)) = W := ⟨_, rfl⟩
  have hb_W0 : Below w.heap.size w W0 := by rw [← hW0]; exact (Below.refl _ _).alloc (Nat.le_refl _) _
  have HB := hide hb_W0
  clear hb_W0
  have zz : w.heap.size < W0.heap.size := by rw [← hW0]; simp
  have z0 : W0.cell? ⟨w.heap.size, 0, none⟩ = some (.int .i64 m.key) := by rw [← hW0]; simp [go_sem]
  have z1 : W0.cell? ⟨w.heap.size, 1, none⟩ = some (.slice o m.l.length c) := by rw [← hW0]; simp [go_sem]
  have z2 : W0.cell? ⟨w.heap.size, 2, none⟩ = some (.slice oR m.ring.length cR) := by rw [← hW0]; simp [go_sem]
  have HPO := hide (specPoolOk_sh _ m W0 ((HR.out.kept HB.out (Nat.le_refl _)).le HB.out.size) hf)
  have HCM := hide (show candM m q = if (poolB m && decide (0 ≤ q) && decide (q < 8)) = true then candL m.ring q.toNat else [] from rfl)
  go_enter Try.func43, Try.ntmps43
  go_wp2_with fail
  refine HPO.out.mono ?_
  rintro e w1 ⟨rfl, hb⟩
  replace z0 := bC hb z0 zz
  replace z1 := bC hb z1 zz
  replace z2 := bC hb z2 zz
  replace zz := Nat.lt_of_lt_of_le zz hb.size
  replace HB := hide (HB.out.trans (hb.mono HB.out.size))
  clear hb HPO
  cases hp : poolB m with
  | false =>
    rw [hp] at HCM
    go_wp2
    go_ret
    exact ⟨_, rfl, by rw [HCM.out]; exact World.ownsRow_nil _ _ _ _, HB.out⟩
  | true =>
    rw [hp] at HCM
    have HF := hide (pool_facts hp)
    clear hp
    by_cases h0 : q < 0
    · go_wp2
      go_ret
      exact ⟨_, rfl, by rw [HCM.out, if_neg (by simp; omega)]; exact World.ownsRow_nil _ _ _ _, HB.out⟩
    by_cases h8 : 8 ≤ q
    · go_wp2
      go_ret
      exact ⟨_, rfl, by rw [HCM.out, if_neg (by simp; omega)]; exact World.ownsRow_nil _ _ _ _, HB.out⟩
    · obtain ⟨b, rfl⟩ : ∃ b : Nat, q = (b : Int) := ⟨q.toNat, by omega⟩
      have hb8 : b < 8 := by omega
      have HLC := hide (l4candidates_go m.key o m.l.length c oR cR m.ring m.ring.length rfl b hb8 w1 (RiR.mon.go (RiR.stp.go HRR.out (Stp.of (lo := 0) (hi := 0) HB.out) (.inl (Nat.zero_le _))) (Nat.le_refl _) HB.out.size) HF.out.2.2.2.1 (fun i hi => (pair_row (HF.out.2.2.2.2 i hi)).1) (fun i hi => pair_len ((pair_row (HF.out.2.2.2.2 i hi)).2 b hb8)))
      go_wp2_with fail
      refine HLC.out.mono ?_
      rintro e w2 ⟨v2, rfl, ow2, hb2⟩
      clear HLC
      go_wp2
      go_ret
      exact ⟨_, rfl, by rw [HCM.out, if_pos (by simp; omega)]; exact own_mono ow2 HB.out.size, HB.out.trans (hb2.mono HB.out.size)⟩

end Go.Proofs.Ytldjaapbkihibaa

/- The candidates of a bucket; the program's side. -/
namespace Go.Proofs.Ytldjaapbkihibaa
open Go.ChangeShapes Go.WideShapes Go.ChangeAt Go.RowKit Go.Joins
set_option linter.unusedVariables false
set_option linter.unusedSimpArgs false


theorem RiV.grow {α : Type} {L : Lay α} {a b : Nat} {w w' : World} {v : Value} {l : List α} {r : Option Nat} (h : RiV L a b w v l) (hg : w.grownBy w' r) (ho : ∀ g, r = some g → g < a ∨ b ≤ g) : RiV L a b w' v l := by
  cases r with
  | none => exact h.step (Stp.grown (lo := 0) (hi := 0) hg (fun b e => by cases e)) (.inl (Nat.zero_le _))
  | some g => exact h.step (Stp.grown (lo := g) (hi := g + 1) hg (fun b e => by injection e with e; omega)) (by have := ho g rfl; omega)
theorem pt_cells (f : Pt) (b : Nat) (h : b < 8) : (ptA f)[b * 3]? = some (.bool (f b).1) ∧ (ptA f)[b * 3 + 1]? = some (.int .i64 (f b).2.1) ∧ (ptA f)[b * 3 + 2]? = some (.int .i64 (f b).2.2) := by
  have h1 : ∀ j, j < 3 → (ptA f)[b * 3 + j]? = (layP.cs (((List.range 8).map f).getD b layP.d))[j]? := fun j hj => by
    have := flat_get layP ((List.range 8).map f) b j (by simpa using h) hj
    rw [show layP.k = 3 from rfl] at this
    unfold ptA ptL
    rw [List.getElem?_toArray]
    exact this
  have e : ((List.range 8).map f).getD b layP.d = f b := by simp [h]
  rw [e] at h1
  exact ⟨h1 0 (by decide), h1 1 (by decide), h1 2 (by decide)⟩
theorem map_tab (R : List (List (List Int))) (i : Nat) (h : i < R.length) : (R.map tabF).getD i ptZ = tabF (R.getD i []) := by simp [h]

set_option maxRecDepth 100000 in
set_option maxHeartbeats 8000000 in
theorem implCandidates_sh (v : Value) (m : Pm) (q : Int) (w : World) (hR : RdPm w.heap.size w v m) (hf : fitPm m) :
    Calls Try.prog 19 #[v, .int .i64 q] w fun e w' => ∃ v', e = .returned v' ∧ ownI w' w.heap.size v' (candM m q) ∧ Below w.heap.size w w' := by
  have HCM := hide (show candM m q = if (poolB m && decide (0 ≤ q) && decide (q < 8)) = true then candL m.ring q.toNat else [] from rfl)
  have HFA := hide (fun h : poolB m = true => pool_facts h)
  obtain ⟨vb, vr, rfl, hvb, rr⟩ := hR
  obtain ⟨o, c, rfl, r⟩ := hvb.open
  obtain ⟨oR, cR, rfl⟩ := RiR.len rr
  obtain ⟨key, l, lll⟩ := m
  dsimp only at *
  clear hvb
  obtain ⟨W0, hW0⟩ : ∃ W, (w.alloc (.cells #[.int .i64 key, .slice o l.length c, .slice oR lll.length cR] 26)) = W := ⟨_, rfl⟩
  have hb_W0 : Below w.heap.size w W0 := by rw [← hW0]; exact (Below.refl _ _).alloc (Nat.le_refl _) _
  have HB := hide hb_W0
  clear hb_W0
  have zz : w.heap.size < W0.heap.size := by rw [← hW0]; simp
  have z0 : W0.cell? ⟨w.heap.size, 0, none⟩ = some (.int .i64 key) := by rw [← hW0]; simp [go_sem]
  have z1 : W0.cell? ⟨w.heap.size, 1, none⟩ = some (.slice o l.length c) := by rw [← hW0]; simp [go_sem]
  have z2 : W0.cell? ⟨w.heap.size, 2, none⟩ = some (.slice oR lll.length cR) := by rw [← hW0]; simp [go_sem]
  have HPF := hide (poolFrom_go key o c l oR cR lll lll.length rfl W0 ((r.kept HB.out (Nat.le_refl _)).le HB.out.size) (RiR.mon.go (RiR.stp.go rr (Stp.of (lo := 0) (hi := 0) HB.out) (.inl (Nat.zero_le _))) (Nat.le_refl _) HB.out.size) hf)
  have HBU := hide (fun W => isBucket_any q W)
  clear r rr
  go_enter Try.func19, Try.ntmps19
  go_wp2_with fail
  refine HPF.out.mono ?_
  rintro e v1 ⟨vP, rfl, h1, h2, hb⟩
  have HB1 := hide (HB.out.trans (hb.mono HB.out.size))
  clear hb HPF HB z0 z1 z2 zz
  cases hp : poolB ⟨key, l, lll⟩ with
  | false =>
    rw [hp] at HCM
    have e2 := h2 hp
    subst e2
    clear h1 h2
    go_wp2
    go_ret
    exact ⟨_, rfl, by rw [HCM.out]; exact World.ownsRow_nil _ _ _ _, HB1.out.alloc HB1.out.size _⟩
  | true =>
    rw [hp] at HCM
    obtain ⟨o2, c2, e2, hown⟩ := h1 hp
    have HF := hide (HFA.out hp)
    subst e2
    have HOT := hide (ownL.rds (L := layT) hown)
    clear h1 h2 HFA hown hp
    by_cases h0 : q < 0
    · have eb : (decide (0 ≤ q) && decide (q < 8)) = false := by simp; omega
      rw [eb] at HBU
      clear eb
      go_wp2_with (first | (go_at_call 63; refine (HBU.out _).mono ?_; rintro e w1 ⟨rfl, rfl⟩))
      go_ret
      exact ⟨_, rfl, by rw [HCM.out, if_neg (by simp; omega)]; exact World.ownsRow_nil _ _ _ _, HB1.out.alloc HB1.out.size _⟩
    by_cases h8 : 8 ≤ q
    · have eb : (decide (0 ≤ q) && decide (q < 8)) = false := by simp; omega
      rw [eb] at HBU
      clear eb
      go_wp2_with (first | (go_at_call 63; refine (HBU.out _).mono ?_; rintro e w1 ⟨rfl, rfl⟩))
      go_ret
      exact ⟨_, rfl, by rw [HCM.out, if_neg (by simp; omega)]; exact World.ownsRow_nil _ _ _ _, HB1.out.alloc HB1.out.size _⟩
    obtain ⟨b, rfl⟩ : ∃ b : Nat, q = (b : Int) := ⟨q.toNat, by omega⟩
    have hb8 : b < 8 := by omega
    have hb8' : (b : Int) < 8 := by omega
    have eb : (decide (0 ≤ (b : Int)) && decide ((b : Int) < 8)) = true := by simp; omega
    rw [eb] at HBU
    have HCM2 := hide (show candM ⟨key, l, lll⟩ (b : Int) = candL lll b by rw [HCM.out, if_pos (by simp; omega)]; simp)
    clear eb HCM h0 h8
    obtain ⟨n, hn⟩ : ∃ n, lll.length = n := ⟨_, rfl⟩
    rw [hn]
    have HNN := hide hn
    have hn3 : n ≤ 3 := by rw [← hn]; exact HF.out.2.2.2.1
    clear hn
    obtain ⟨W1, hW1⟩ : ∃ W, v1.alloc (.cells #[.int .i64 key, .slice o l.length c, .slice o2 n c2] 92) = W := ⟨_, rfl⟩
    have hb1 : Below v1.heap.size v1 W1 := by rw [← hW1]; exact (Below.refl _ _).alloc (Nat.le_refl _) _
    have zz : v1.heap.size < W1.heap.size := by rw [← hW1]; simp
    have z2 : W1.cell? ⟨v1.heap.size, 2, none⟩ = some (.slice o2 n c2) := by rw [← hW1]; simp [go_sem]
    have HB2 := hide (HB1.out.trans (hb1.mono HB1.out.size))
    have HV := hide hb1
    clear hb1
    go_wp2_with (first | (go_at_call 63; refine (HBU.out _).mono ?_; rintro e w1 ⟨rfl, rfl⟩))
    go_loopw [7, 27] (fun ov iv wr => ∃ i : Nat, i ≤ n ∧ iv = .int .i64 (i : Int) ∧ Hid (ownI wr W1.heap.size ov (candL (lll.take i) b)) ∧ (candL (lll.take i) b).length ≤ 2 * i ∧ Hid (Below W1.heap.size W1 wr))
      (fun _ iv _ => n - (intOf iv).toNat)
    case atStart => exact ⟨0, Nat.zero_le _, rfl, World.ownsRow_nil _ _ _ _, by simp [candL], Below.refl _ _⟩
    case round =>
      rename World => wr
      rename_i ov _
      obtain ⟨i, hi', rfl, HO, hL, HBr⟩ := hrel
      by_cases hlt : i < n
      · have hlt' : (i : Int) < (n : Int) := by omega
        have hif : i < lll.length := by rw [HNN.out]; exact hlt
        have HRD := hide (HOT.out.kept (HV.out.trans (HBr.out.mono HV.out.size)) (Nat.le_refl _))
        rcases HRD.out with hh | ⟨b1, off, rfl, hbl, hrow⟩
        · have : (lll.map tabF).length = 0 := by rw [hh]; rfl
          rw [List.length_map] at this; omega
        have HRG := hide (RdL.range hrow i (by rw [List.length_map]; exact hif))
        have HTK := hide (candL_take lll b i hif)
        have hrow2 := (pair_row (HF.out.2.2.2.2 i hif)).2 b hb8
        clear hrow HRD
        rw [map_tab lll i hif] at HRG
        obtain ⟨f, hf'⟩ : ∃ f, tabF (lll.getD i []) = f := ⟨_, rfl⟩
        rw [hf'] at HRG
        have HIP := hide (show ipList (f b) = (lll.getD i []).getD b [] by rw [← hf']; exact ipList_of hrow2)
        have hy9 := pair_len hrow2
        clear hf' hrow2
        obtain ⟨row, hrw⟩ : ∃ row, (lll.getD i []).getD b [] = row := ⟨_, rfl⟩
        rw [hrw] at HIP hy9 HTK
        clear hrw
        obtain ⟨bas, hbs⟩ : ∃ q, candL (lll.take i) b = q := ⟨_, rfl⟩
        rw [hbs] at HO hL HTK
        clear hbs
        obtain ⟨W2, hW2⟩ : ∃ W, wr.alloc (.cells (ptA f) 108) = W := ⟨_, rfl⟩
        have hb2 : Below wr.heap.size wr W2 := by rw [← hW2]; exact (Below.refl _ _).alloc (Nat.le_refl _) _
        have hz5 : W2.heap[wr.heap.size]? = some (.cells (ptA f) 108 (0, 0)) := by rw [← hW2]; exact World.alloc_heap_new wr _
        have hpc := pt_cells f b hb8
        have y0 : W2.cell? ⟨wr.heap.size, b * 3, none⟩ = some (.bool (f b).1) := bx_cell hz5 _ _ hpc.1
        have y1 : W2.cell? ⟨wr.heap.size, b * 3 + 1, none⟩ = some (.int .i64 (f b).2.1) := bx_cell hz5 _ _ hpc.2.1
        have y2 : W2.cell? ⟨wr.heap.size, b * 3 + 2, none⟩ = some (.int .i64 (f b).2.2) := bx_cell hz5 _ _ hpc.2.2
        have HLS := hide (list_any (f b) W2)
        have hs2 := hb2.size
        have HB3 := hide (HBr.out.trans (hb2.mono HBr.out.size))
        have HLT := hide (fun g e => (HO.out.lt g e).2)
        have HO2 := hide (own_kept HO.out hb2)
        clear hb2 hz5 hpc HO HBr
        go_wp2_with (first | (refine wpList_load_mid rfl 108 (.tmp 29) rfl b1 (off + i * 24) rfl (ptL f) _ HRG.out ptU rfl ptI ?_) | (refine wpList_store_pt rfl (.tmp 9) (.tmp 30) rfl wr.heap.size f ptZ rfl rfl (World.alloc_heap_new wr _) ?_; rw [World.setRow_alloc_new, hW2]) | fail)
        refine HLS.out.mono ?_
        rintro e v3 ⟨o4, c4, rfl, ow4, hb4⟩
        have HRL := hide (InRow.ri (InRow.of ow4))
        rw [HIP.out] at HRL ⊢
        have hs4 := hb4.size
        have HO4 := hide (own_kept HO2.out hb4)
        have HB4 := hide (HB3.out.trans (hb4.mono HB3.out.size))
        clear ow4 hb4 HO2 HB3 HLS y0 y1 y2
        obtain ⟨m, hm⟩ : ∃ r, row.length = r := ⟨_, rfl⟩
        rw [hm] at hy9 HRL ⊢
        have HM := hide hm
        clear hm
        go_wp2
        go_loopw [7, 36] (fun ov kv wq => ∃ k : Nat, k ≤ m ∧ kv = .int .i64 (k : Int) ∧ Hid (ownI wq W1.heap.size ov (addAll bas (row.take k))) ∧ (addAll bas (row.take k)).length ≤ 2 * i + k ∧ Hid (Below W1.heap.size W1 wq) ∧ Hid (RiV layI W2.heap.size v3.heap.size wq (.slice o4 m c4) row) ∧ v3.heap.size ≤ wq.heap.size ∧ Hid (∀ g, ov.ownBlock = some g → g < W2.heap.size ∨ v3.heap.size ≤ g))
          (fun _ kv _ => m - (intOf kv).toNat)
        case atStart => exact ⟨0, Nat.zero_le _, rfl, HO4.out, by simpa [addAll] using hL, HB4.out, HRL.out, Nat.le_refl _, fun g e => .inl (by have := HLT.out g e; omega)⟩
        case round =>
          rename World => wq
          rename_i ov2 _
          obtain ⟨k, hk', rfl, HO2, hL2, HBq, HRq, hs5, HGq⟩ := hrel
          clear HO4 HB4 HRL HRG HLT
          by_cases hlk : k < m
          · have hlk' : (k : Int) < (m : Int) := by omega
            have hkr : k < row.length := by rw [HM.out]; exact hlk
            obtain ⟨o5, c5, e6, hr5⟩ := RiV.open HRq.out
            injection e6 with e7 e8 e9
            subst e7
            rcases hr5 with hh | ⟨b3, off3, rfl, hb3, hcell⟩
            · rw [hh] at hkr; exact absurd hkr (Nat.not_lt_zero _)
            have hc3 : wq.cell? ⟨b3, off3 + k, none⟩ = some (.int .i64 (row.getD k 0)) := RdL.int hcell k hkr
            have HTK2 := hide (addAll_take bas row k hkr)
            clear hcell e8 e9
            obtain ⟨y, hy⟩ : ∃ y, row.getD k 0 = y := ⟨_, rfl⟩
            rw [hy] at hc3 HTK2
            clear hy
            obtain ⟨cur, hcu⟩ : ∃ q, addAll bas (row.take k) = q := ⟨_, rfl⟩
            rw [hcu] at HO2 hL2 HTK2
            clear hcu
            obtain ⟨oo, co, e5, hrd⟩ := ownL.open (L := layI) HO2.out
            subst e5
            have HH := hide (contains_any oo co cur y wq hrd (by omega))
            clear hrd
            go_wp2_with fail
            refine HH.out.mono ?_
            rintro e w4 ⟨rfl, rfl⟩
            clear HH
            cases hh : cur.contains y with
            | true =>
              have HY := hide (addTo_yes hh)
              go_wp2
              go_roundw
              case rel => exact ⟨k + 1, by omega, by go_num, by rw [HTK2.out, HY.out]; exact HO2.out, by rw [HTK2.out, HY.out]; omega, HBq.out, HRq.out, hs5, HGq.out⟩
              case measure => simp [intOf]; omega
            | false =>
              have HY := hide (addTo_no hh)
              have hsq := HBq.out.size
              have HA := hide (World.ownsRow.alloc HO2.out (.cells #[.int .i64 y] 3))
              have HRA := hide (HRq.out.step (Stp.of (lo := 0) (hi := 0) ((Below.refl w4.heap.size w4).alloc (Nat.le_refl _) (.cells #[.int .i64 y] 3))) (.inl (Nat.zero_le _)))
              go_wp2_with (first | (at_builtin; refine wpList_append_lay appII rfl (.tmp 44) (.tmp 46) rfl W1.heap.size _ cur rfl HA.out (some ⟨w4.heap.size, 0, none⟩) 1 _ [y] 1 rfl rfl (by simp) rd_oneI (by simp; omega) (by simp; omega) ?_))
              intro v5 w5 ho5 hg5 hn5
              have HB5 := hide ((HBq.out.alloc HBq.out.size _).grown hg5 (by simp; omega) (fun k h => (HA.out.lt k h).1))
              have HO5 := hide ho5
              have HR5 := hide (HRA.out.grow hg5 HGq.out)
              have hs6 : v3.heap.size ≤ w5.heap.size := by have := hg5.size; simp at this; omega
              have HG5 : Hid (∀ g, v5.ownBlock = some g → g < W2.heap.size ∨ v3.heap.size ≤ g) := fun g e => by
                rcases hn5 with hn5 | hn5
                · rw [hn5] at e; exact HGq.out g e
                · rw [hn5] at e; have := Option.some.inj e; omega
              clear hg5 ho5 hn5
              go_wp2
              go_roundw
              case rel => exact ⟨k + 1, by omega, by go_num, by rw [HTK2.out, HY.out]; exact HO5.out, by rw [HTK2.out, HY.out, List.length_append]; simp; omega, HB5.out, HR5.out, hs6, HG5.out⟩
              case measure => simp [intOf]; omega
          · have e : k = m := by omega
            subst e
            rw [← HM.out, List.take_length, ← HTK.out] at HO2 hL2
            go_wp2
            go_roundw
            case rel => exact ⟨i + 1, by omega, by go_num, HO2.out, by rw [HM.out] at hL2; omega, HBq.out⟩
            case measure => simp [intOf]; omega
      · have e : i = n := by omega
        subst e
        rw [← HNN.out, List.take_length] at HO
        have HBW := hide (HB2.out.trans (HBr.out.mono HB2.out.size))
        go_wp2
        go_ret
        exact ⟨_, rfl, by rw [HCM2.out]; exact own_mono HO.out HB2.out.size, HBW.out⟩

end Go.Proofs.Ytldjaapbkihibaa

/- The laws' pools(). -/
namespace Go.Proofs.Ytldjaapbkihibaa
open Go.ChangeShapes Go.WideShapes Go.ChangeAt Go.RowKit Go.Joins
set_option linter.unusedVariables false
set_option linter.unusedSimpArgs false


theorem pools_new : keyB 5 = true := by first | decide | rfl | kernel_rfl
theorem pools_do : pdoF (pnewM 5) 0 2 1 = true := by first | rfl | kernel_rfl | decide
theorem pools_len : (pdoM (pnewM 5) 0 2 1).l.length = 1 := by first | rfl | kernel_rfl | decide
theorem pools_ok : poolB (pdoM (pnewM 5) 0 2 1) = true := by first | rfl | kernel_rfl | decide
theorem pools_cand : (candM (pdoM (pnewM 5) 0 2 1) 0).length = 1 := by first | rfl | kernel_rfl | decide

set_option maxRecDepth 100000 in
set_option maxHeartbeats 2000000 in
theorem pools_any (w : World) : Calls Try.prog 15 #[] w fun e w' => e = .returned (.bool true) ∧ Below w.heap.size w w' := by
  have HN := hide (implPoolNew_any 5 w)
  rw [pools_new] at HN
  have HF := hide (pnew_fit 5)
  have HD := pools_do
  have HL := hide pools_len
  have HO := pools_ok
  have HC := hide pools_cand
  obtain ⟨m1, hm1⟩ : ∃ m, pnewM 5 = m := ⟨_, rfl⟩
  rw [hm1] at HN HF HD HL HO HC
  clear hm1
  have HP := hide (fun v W (h : RcPm 0 W.heap.size W v m1) => implPoolDo_sh v m1 0 2 1 W h HF.out)
  rw [HD] at HP
  have HF2 := hide (pdo_fit 0 2 1 HF.out)
  obtain ⟨m2, hm2⟩ : ∃ m, pdoM m1 0 2 1 = m := ⟨_, rfl⟩
  rw [hm2] at HL HO HC HF2 HP
  clear hm2 HD
  have HCA := hide (fun v W h => implCandidates_sh v m2 0 W h HF2.out)
  have HPO := hide (fun v W h => implPoolOk_sh v m2 W h HF2.out)
  rw [HO] at HPO
  clear HO
  go_enter Try.func15, Try.ntmps15
  go_wp2_with fail
  refine HN.out.mono ?_
  rintro e v1 ⟨vt, rfl, hin, hb1⟩
  clear HN
  obtain ⟨o1, c1, oR1, cR1, hve⟩ := hin.rd.opn
  subst hve
  have hb2 : Below v1.heap.size v1 (v1.alloc (.cells #[.int .i64 m1.key, .slice o1 m1.l.length c1, .slice oR1 m1.ring.length cR1] 26)) := (Below.refl _ _).alloc (Nat.le_refl _) _
  have HR2 := hide ((hin.rc.kept hb2 (Nat.le_refl _)).le hb2.size)
  have HB2 := hide (hb1.trans (hb2.mono hb1.size))
  clear hin hb1 hb2
  go_wp2_with fail
  generalize (v1.alloc (.cells #[.int .i64 m1.key, .slice o1 m1.l.length c1, .slice oR1 m1.ring.length cR1] 26)) = W2 at *
  refine (HP.out _ W2 HR2.out).mono ?_
  rintro e v3 ⟨vp, rfl, hin3, hb3⟩
  clear HP HR2
  obtain ⟨o3, c3, oR3, cR3, hve⟩ := hin3.rd.opn
  rw [HL.out] at hve
  subst hve
  have hb4 : Below v3.heap.size v3 (v3.alloc (.cells #[.int .i64 m2.key, .slice o3 1 c3, .slice oR3 m2.ring.length cR3] 26)) := (Below.refl _ _).alloc (Nat.le_refl _) _
  have HR4 := hide ((hin3.rd.kept hb4 (Nat.le_refl _)).le hb4.size)
  have HB4 := hide ((HB2.out.trans (hb3.mono HB2.out.size)).trans (hb4.mono (Nat.le_trans HB2.out.size hb3.size)))
  have HX4 : Hid ((v3.alloc (.cells #[.int .i64 m2.key, .slice o3 1 c3, .slice oR3 m2.ring.length cR3] 26)).heap[v3.heap.size]? = some (.cells #[.int .i64 m2.key, .slice o3 1 c3, .slice oR3 m2.ring.length cR3] 26 (0, 0))) := World.alloc_heap_new v3 _
  have hz4 : v3.heap.size < ((v3.alloc (.cells #[.int .i64 m2.key, .slice o3 1 c3, .slice oR3 m2.ring.length cR3] 26))).heap.size := by simp
  clear hin3 hb3 hb4 HB2
  go_wp2_with fail
  generalize (v3.alloc (.cells #[.int .i64 m2.key, .slice o3 1 c3, .slice oR3 m2.ring.length cR3] 26)) = W4 at *
  refine (HCA.out _ W4 HR4.out).mono ?_
  rintro e v5 ⟨vc, rfl, ow5, hb5⟩
  obtain ⟨oc, cc, hve, _⟩ := ownL.open (L := layI) ow5
  rw [HC.out] at hve
  subst hve
  have hx5 := (hb5.block _ hz4).trans HX4.out
  have z0 : v5.cell? ⟨v3.heap.size, 0, none⟩ = some (.int .i64 m2.key) := bx_cell hx5 0 _ rfl
  have z1 : v5.cell? ⟨v3.heap.size, 1, none⟩ = some (.slice o3 1 c3) := bx_cell hx5 1 _ rfl
  have z2 : v5.cell? ⟨v3.heap.size, 2, none⟩ = some (.slice oR3 m2.ring.length cR3) := bx_cell hx5 2 _ rfl
  have HPO5 := hide (HPO.out _ v5 ((HR4.out.kept hb5 (Nat.le_refl _)).le hb5.size))
  have HB5 := hide (HB4.out.trans (hb5.mono HB4.out.size))
  clear ow5 hb5 hx5 HX4 HR4 HB4 HCA HPO
  go_wp2_with fail
  refine HPO5.out.mono ?_
  rintro e v6 ⟨rfl, hb6⟩
  have HB6 := hide (HB5.out.trans (hb6.mono HB5.out.size))
  clear hb6 HPO5
  go_wp2
  go_ret
  exact ⟨rfl, HB6.out⟩

end Go.Proofs.Ytldjaapbkihibaa

