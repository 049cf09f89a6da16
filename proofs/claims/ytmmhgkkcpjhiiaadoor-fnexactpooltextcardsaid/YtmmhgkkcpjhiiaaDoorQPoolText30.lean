/- Several texts in one: SPok2, SPok3, SPoolT2, SPoolT3, LBytes, LMark, ShB, ShPl, OpenP. -/
import Derived.Deep.RegionHeld3
import Derived.Deep.CutRange
import Derived.BigQuiet
import Derived.Test.YtmmhgkkcpjhiiaaDoorQPoolText29
import Derived.Test.YtmmhgkkcpjhiiaaDoorQPoolText06
import Derived.Test.YtmmhgkkcpjhiiaaDoorQPoolText28
import Derived.Test.YtmmhgkkcpjhiiaaDoorQPoolText02
import Derived.Test.YtmmhgkkcpjhiiaaDoorQPoolText19
import Derived.Test.YtmmhgkkcpjhiiaaDoorQPoolText17
/- The model's PoolOk. -/
namespace Go.Proofs.YtmmhgkkcpjhiiaaDoor
open Go.ChangeShapes Go.WideShapes Go.ChangeAt Go.RowKit Go.Joins
set_option linter.unusedVariables false
set_option linter.unusedSimpArgs false


set_option maxRecDepth 100000 in
set_option maxHeartbeats 16000000 in
theorem poolOk_1 (key : Int) (o : Option Addr) (cap : Nat) (l : List Bk) (oR : Option Addr) (cR : Nat) (lll : List (List (List Int))) (hnn : 1 = lll.length) (w : World) (hR : RdK w.heap.size w o l) (hG : RiR 0 w.heap.size w (.slice oR 1 cR) lll) (hf : fitPm ⟨key, l, lll⟩) (A : Bool) (hk : keyB key = true) (hbo : backsOkB l = true)
    (hno : keyB key = false ∨ backsOkB l = false ∨ lll.length < 1 ∨ 3 < lll.length ∨ (∃ i, i < lll.length ∧ tabOkB (lll.getD i []) = false) ∨ eqPtB (tabF (lll.getD 0 [])) (newF key l) = false → A = false) (hmv : A = true → movedI (lll.getD 0 []) (newT key l) = 0)
    (hys : keyB key = true → backsOkB l = true → 1 ≤ lll.length → lll.length ≤ 3 → (∀ i, i < lll.length → tabOkB (lll.getD i []) = true) → movedI (lll.getD 0 []) (newT key l) = 0 → A = true) :
    Calls Tryd.prog 34 #[plv key (.slice o l.length cap) (.slice oR 1 cR)] w fun e w' => e = .returned (.bool A) ∧ Below w.heap.size w w' := by
  have HNN := hide hnn
  obtain ⟨hf1, hf2, hf3, hf4, hf5⟩ := hf
  dsimp only at hf1 hf2 hf3 hf4 hf5
  have HX := hide hf4
  have HY := hide hf5
  have HNO := hide hno
  have HMV := hide hmv
  have HYS := hide hys
  have HK := hide hk
  have HBK := hide hbo
  clear hnn hf4 hf5 hf3 hf2 hno hmv hys hk hbo
  obtain ⟨W0, hW0⟩ : ∃ W, (w.alloc (.cells #[.int .i64 key, .slice o l.length cap, .slice oR 1 cR] 49)) = W := ⟨_, rfl⟩
  have hb_W0 : Below w.heap.size w W0 := by rw [← hW0]; exact ((Below.refl _ _).alloc (Nat.le_refl _) _)
  have HB := hide hb_W0
  clear hb_W0
  have zz : w.heap.size < W0.heap.size := by rw [← hW0]; simp
  have z0 : W0.cell? ⟨w.heap.size, 0, none⟩ = some (.int .i64 key) := by rw [← hW0]; simp [go_sem]
  have z1 : W0.cell? ⟨w.heap.size, 1, none⟩ = some (.slice o l.length cap) := by rw [← hW0]; simp [go_sem]
  have z2 : W0.cell? ⟨w.heap.size, 2, none⟩ = some (.slice oR 1 cR) := by rw [← hW0]; simp [go_sem]
  have HKE := hide (fun W => HK.out ▸ l3key_any key W)
  have HBO := hide (fun p : Grown W0 => HBK.out ▸ specBacksOk_any o cap l p.v ((hR.kept (HB.out.trans (p.b.mono HB.out.size)) (Nat.le_refl _)).le (Nat.le_trans HB.out.size p.b.size)) hf1)
  have HRK := hide hR
  have HG := hide hG
  clear hR hG
  have hw0 := HB.out.size
  have h1n : 1 ≤ 1 := by omega
  have h3n : 1 ≤ 3 := by omega
  have hln0 : 0 < lll.length := by rw [← HNN.out]; omega
  have hl100 := backs_len HBK.out
  obtain ⟨b, off, o', c', rfl, hbl, hcu0, hru0⟩ := HG.out.at (Nat.le_refl _) 0 hln0
  have hcu := bC HB.out hcu0 hbl
  rw [Nat.add_zero] at hcu
  have HRU := hide hru0
  have HX0 := hide (HX.out 0 hln0)
  have HY0 := hide (HY.out 0 hln0)
  have HTB := hide (fun W (hb : Below W0.heap.size W0 W) => l3table_any key o cap l W ((HRK.out.kept (HB.out.trans (hb.mono HB.out.size)) (Nat.le_refl _)).le (Nat.le_trans HB.out.size hb.size)) (by omega) HK.out HBK.out)
  have HMO := hide (fun W (hb : Below W0.heap.size W0 W) oT cT (hT : RdLL W.heap.size W oT (newT key l)) => (newT_len key l) ▸ specMoved_any o' oT c' cT (lll.getD 0 []) (newT key l) W ((HRU.out.kept (HB.out.trans (hb.mono HB.out.size)) (Nat.le_refl _)).le (Nat.le_trans HB.out.size hb.size)) hT HX0.out (by rw [newT_len]; omega) HY0.out (fun i hi => by have := newT_row key l i; omega))
  clear hcu0 hru0
  obtain ⟨m0, hm0⟩ : ∃ m, (lll.getD 0 []).length = m := ⟨_, rfl⟩
  rw [hm0] at hcu HMO
  clear hm0
  obtain ⟨r, hr⟩ : ∃ r, movedI (lll.getD 0 []) (newT key l) = r := ⟨_, rfl⟩
  rw [hr] at HMO HMV HYS
  clear hr
  have hbl' : b < W0.heap.size := by omega
  by_cases hr0 : r = 0
  · subst hr0
    go_enter Tryd.func34, Tryd.ntmps34
    go_wp2
    go_region_held3 (fun w' => w'.cell? ⟨w.heap.size, 0, none⟩ = some (.int .i64 key) ∧ w'.cell? ⟨w.heap.size, 1, none⟩ = some (.slice o l.length cap) ∧ w'.cell? ⟨w.heap.size, 2, none⟩ = some (.slice (some ⟨b, off, none⟩) 1 cR) ∧ w'.cell? ⟨b, off, none⟩ = some (.slice o' m0 c')) (first | with_reducible exact ⟨k3_0, k3_1, k3_2, k3_3⟩ | with_reducible exact ⟨k2_0, k2_1, k2_2, k2_3⟩ | with_reducible exact ⟨k1_0, k1_1, k1_2, k1_3⟩ | with_reducible exact ⟨z0, z1, z2, hcu⟩ | go_keep) (first | (go_at_call 57; refine (HKE.out _).mono ?_; rintro e _ ⟨rfl, rfl⟩) | (go_at_call 58; have hc_ := HBO.out ⟨W0.drew, Below.drew (Below.refl _ _)⟩; refine hc_.mono ?_; clear hc_; rintro e x1 ⟨rfl, hb⟩; have hp1 : Below W0.heap.size W0 x1 := (Below.drew (Below.refl _ _)).trans hb; have k1_0 := bC hp1 z0 zz; have k1_1 := bC hp1 z1 zz; have k1_2 := bC hp1 z2 zz; have k1_3 := bC hp1 hcu hbl'; clear hb) | (go_at_call 60; have hc_ := HTB.out x1 hp1; with_reducible refine hc_.mono ?_; clear hc_; rintro e x2 ⟨vT, rfl, ⟨oT, cT, rfl, hT⟩, hb⟩; have hp2 : Below W0.heap.size W0 x2 := hp1.trans (hb.mono hp1.size); have k2_0 := bC hp2 z0 zz; have k2_1 := bC hp2 z1 zz; have k2_2 := bC hp2 z2 zz; have k2_3 := bC hp2 hcu hbl'; clear hb) | (go_at_call 59; have hc_ := HMO.out x2 hp2 oT cT hT; with_reducible refine hc_.mono ?_; clear hc_; rintro e x3 ⟨rfl, hb⟩; have hp3 : Below W0.heap.size W0 x3 := hp2.trans (hb.mono hp2.size); have k3_0 := bC hp3 z0 zz; have k3_1 := bC hp3 z1 zz; have k3_2 := bC hp3 z2 zz; have k3_3 := bC hp3 hcu hbl'; clear hb))
    have HB3 := hide (HB.out.trans (hp3.mono HB.out.size))
    have HZ3 := hide hp3.size
    clear k1_0 k1_1 k1_2 k1_3 k2_0 k2_1 k2_2 k2_3 hT hp1 hp2 hp3
    go_wp2
    go_loopw [3] (fun iv wr => ∃ i : Nat, i ≤ 1 ∧ iv = .int .i64 (i : Int) ∧ Hid (∀ j, j < i → tabOkB (lll.getD j []) = true) ∧ Hid (Below x3.heap.size x3 wr))
              (fun iv _ => 1 - (intOf iv).toNat)
    case atStart => exact ⟨0, Nat.zero_le _, rfl, fun j hj => absurd hj (Nat.not_lt_zero _), Below.refl _ _⟩
    case round =>
          rename World => wo
          obtain ⟨i, hi', rfl, HOK, HBO1⟩ := hrel
          have hx3 : w.heap.size < x3.heap.size := by have := HZ3.out; omega
          have hbx3 : b < x3.heap.size := by have := HZ3.out; omega
          have y2 := bC HBO1.out k3_2 hx3
          have HBW := hide (HB3.out.trans (HBO1.out.mono HB3.out.size))
          have hso := HBO1.out.size
          by_cases hlt : i < 1
          · skip
            have hlt' : (i : Int) < (1 : Int) := by omega
            have hif : i < lll.length := by rw [← HNN.out]; exact hlt
            obtain ⟨b1, off1, o1, c1, e1, hbl1, hcu1, hru1⟩ := HG.out.at (Nat.le_refl _) i hif
            injection e1 with e1
            injection e1 with e2 e3 e4
            subst e2 e3
            clear e4
            have hci := bC HBW.out hcu1 hbl1
            have HRI := hide hru1
            have HYI := hide (HY.out i hif)
            have HNI := hide (fun h => HNO.out (.inr (.inr (.inr (.inr (.inl ⟨i, hif, h⟩))))))
            have hxi := HX.out i hif
            clear hcu1 hru1
            obtain ⟨ll, hll⟩ : ∃ ll, lll.getD i [] = ll := ⟨_, rfl⟩
            rw [hll] at hci HRI HYI HNI hxi
            have HLL := hide hll
            clear hll
            by_cases h8 : ll.length = 8
            · rw [h8] at hci
              have H8 := hide h8
              clear h8 hxi
              have hbo : b < wo.heap.size := by omega
              have hxo : w.heap.size < wo.heap.size := by omega
              go_wp2
              go_loopw [4] (fun kv wr => ∃ k : Nat, k ≤ 8 ∧ kv = .int .i64 (k : Int) ∧ Hid (∀ q, q < k → pairOkB (ll.getD q []) = true) ∧ wo = wr)
                    (fun kv _ => 8 - (intOf kv).toNat)
              case atStart => exact ⟨0, Nat.zero_le _, rfl, fun j hj => absurd hj (Nat.not_lt_zero _), rfl⟩
              case round =>
                obtain ⟨k, hk', rfl, HPK, rfl⟩ := hrel
                by_cases hlk : k < 8
                · skip
                  have hlk' : (k : Int) < 8 := by omega
                  obtain ⟨b2, off2, o9, c9, rfl, hbl2, hc9, hr9⟩ := ((HRI.out.kept HBW.out (Nat.le_refl _)).le HBW.out.size).at (Nat.le_refl _) k (by rw [H8.out]; exact hlk)
                  have HLP := hide (l4pair_any o9 c9 (ll.getD k []) wo hr9 (HYI.out k (by rw [H8.out]; exact hlk)))
                  have HNK := hide (fun h => HNI.out (tabOk_no hlk h))
                  have HPN := hide (fun (h : pairOkB (ll.getD k []) = true) => fun j (hj : j < k + 1) => (show pairOkB (ll.getD j []) = true from (Nat.lt_succ_iff_lt_or_eq.1 hj).elim (fun h' => HPK.out j h') (fun h' => h' ▸ h)))
                  clear hr9
                  obtain ⟨row, hrow⟩ : ∃ r, ll.getD k [] = r := ⟨_, rfl⟩
                  rw [hrow] at hc9 HLP HNK HPN
                  clear hrow
                  obtain ⟨rl, hrl⟩ : ∃ r, row.length = r := ⟨_, rfl⟩
                  rw [hrl] at hc9 HLP
                  clear hrl
                  cases hp : pairOkB row with
                  | false =>
                    have hAf := HNK.out hp
                    rw [hp] at HLP
                    clear HPN HNK HNI HNO HMV HYS
                    subst hAf
                    go_wp2_with fail
                    refine HLP.out.mono ?_
                    rintro e _ ⟨rfl, rfl⟩
                    go_wp2
                    go_ret
                    exact ⟨rfl, HBW.out⟩
                  | true =>
                    have HPP := hide (HPN.out hp)
                    rw [hp] at HLP
                    clear HPN HNK hp
                    go_wp2_with fail
                    refine HLP.out.mono ?_
                    rintro e _ ⟨rfl, rfl⟩
                    go_wp2
                    go_roundw
                    case rel => exact ⟨k + 1, by omega, by go_num, HPP.out, (by first | rfl | trivial)⟩
                    case measure => simp [intOf]; omega
                · skip
                  have e : k = 8 := by omega
                  subst e
                  have HTO := hide (tabOk_yes H8.out HPK.out)
                  go_wp2
                  go_roundw
                  case rel => exact ⟨i + 1, by omega, by go_num, (fun j hj => (Nat.lt_succ_iff_lt_or_eq.1 hj).elim (fun h' => HOK.out j h') (fun h' => by rw [h', HLL.out]; exact HTO.out)), HBO1.out⟩
                  case measure => simp [intOf]; omega
            · have hAf := HNI.out (show tabOkB ll = false by unfold tabOkB; rw [decide_eq_false h8, Bool.false_and])
              have h8' : ((ll.length : Int) == 8) = false := beq_eq_false_iff_ne.2 (by omega)
              have h8n : ((ll.length : Int) != 8) = true := by simp [bne, h8']
              clear HNI HNO HMV HYS
              subst hAf
              have hbo : b < wo.heap.size := by omega
              generalize ll.length = m at *
              go_wp2
              go_ret
              exact ⟨rfl, HBW.out⟩
          · skip
            have e : i = 1 := by omega
            subst e
            have hAt := HYS.out HK.out HBK.out (by show 1 ≤ lll.length; rw [← HNN.out]; exact h1n) (by show lll.length ≤ 3; rw [← HNN.out]; exact h3n) (fun j hj => HOK.out j (by rw [HNN.out]; exact hj)) (by first | rfl | trivial)
            clear HNO HMV HYS
            subst hAt
            go_wp2
            go_ret
            exact ⟨rfl, HBW.out⟩
  · have hAf : A = false := by (cases A with | false => rfl | true => exact absurd (HMV.out rfl) hr0)
    have hr0' : (r == 0) = false := beq_eq_false_iff_ne.2 hr0
    have hr1' : (r != 0) = true := by simp [bne, hr0']
    clear HMV HNO HYS
    subst hAf
    go_enter Tryd.func34, Tryd.ntmps34
    go_wp2
    go_region_held3 (fun w' => w'.cell? ⟨w.heap.size, 0, none⟩ = some (.int .i64 key) ∧ w'.cell? ⟨w.heap.size, 1, none⟩ = some (.slice o l.length cap) ∧ w'.cell? ⟨w.heap.size, 2, none⟩ = some (.slice (some ⟨b, off, none⟩) 1 cR) ∧ w'.cell? ⟨b, off, none⟩ = some (.slice o' m0 c')) (first | with_reducible exact ⟨k3_0, k3_1, k3_2, k3_3⟩ | with_reducible exact ⟨k2_0, k2_1, k2_2, k2_3⟩ | with_reducible exact ⟨k1_0, k1_1, k1_2, k1_3⟩ | with_reducible exact ⟨z0, z1, z2, hcu⟩ | go_keep) (first | (go_at_call 57; refine (HKE.out _).mono ?_; rintro e _ ⟨rfl, rfl⟩) | (go_at_call 58; have hc_ := HBO.out ⟨W0.drew, Below.drew (Below.refl _ _)⟩; refine hc_.mono ?_; clear hc_; rintro e x1 ⟨rfl, hb⟩; have hp1 : Below W0.heap.size W0 x1 := (Below.drew (Below.refl _ _)).trans hb; have k1_0 := bC hp1 z0 zz; have k1_1 := bC hp1 z1 zz; have k1_2 := bC hp1 z2 zz; have k1_3 := bC hp1 hcu hbl'; clear hb) | (go_at_call 60; have hc_ := HTB.out x1 hp1; with_reducible refine hc_.mono ?_; clear hc_; rintro e x2 ⟨vT, rfl, ⟨oT, cT, rfl, hT⟩, hb⟩; have hp2 : Below W0.heap.size W0 x2 := hp1.trans (hb.mono hp1.size); have k2_0 := bC hp2 z0 zz; have k2_1 := bC hp2 z1 zz; have k2_2 := bC hp2 z2 zz; have k2_3 := bC hp2 hcu hbl'; clear hb) | (go_at_call 59; have hc_ := HMO.out x2 hp2 oT cT hT; with_reducible refine hc_.mono ?_; clear hc_; rintro e x3 ⟨rfl, hb⟩; have hp3 : Below W0.heap.size W0 x3 := hp2.trans (hb.mono hp2.size); have k3_0 := bC hp3 z0 zz; have k3_1 := bC hp3 z1 zz; have k3_2 := bC hp3 z2 zz; have k3_3 := bC hp3 hcu hbl'; clear hb))
    have HB3 := hide (HB.out.trans (hp3.mono HB.out.size))
    clear k1_0 k1_1 k1_2 k1_3 k2_0 k2_1 k2_2 k2_3 hT hp1 hp2 hp3
    go_wp2
    go_ret
    exact ⟨rfl, HB3.out⟩

set_option maxRecDepth 100000 in
set_option maxHeartbeats 16000000 in
theorem poolOk_2 (key : Int) (o : Option Addr) (cap : Nat) (l : List Bk) (oR : Option Addr) (cR : Nat) (lll : List (List (List Int))) (hnn : 2 = lll.length) (w : World) (hR : RdK w.heap.size w o l) (hG : RiR 0 w.heap.size w (.slice oR 2 cR) lll) (hf : fitPm ⟨key, l, lll⟩) (A : Bool) (hk : keyB key = true) (hbo : backsOkB l = true)
    (hno : keyB key = false ∨ backsOkB l = false ∨ lll.length < 1 ∨ 3 < lll.length ∨ (∃ i, i < lll.length ∧ tabOkB (lll.getD i []) = false) ∨ eqPtB (tabF (lll.getD 0 [])) (newF key l) = false → A = false) (hmv : A = true → movedI (lll.getD 0 []) (newT key l) = 0)
    (hys : keyB key = true → backsOkB l = true → 1 ≤ lll.length → lll.length ≤ 3 → (∀ i, i < lll.length → tabOkB (lll.getD i []) = true) → movedI (lll.getD 0 []) (newT key l) = 0 → A = true) :
    Calls Tryd.prog 34 #[plv key (.slice o l.length cap) (.slice oR 2 cR)] w fun e w' => e = .returned (.bool A) ∧ Below w.heap.size w w' := by
  have HNN := hide hnn
  obtain ⟨hf1, hf2, hf3, hf4, hf5⟩ := hf
  dsimp only at hf1 hf2 hf3 hf4 hf5
  have HX := hide hf4
  have HY := hide hf5
  have HNO := hide hno
  have HMV := hide hmv
  have HYS := hide hys
  have HK := hide hk
  have HBK := hide hbo
  clear hnn hf4 hf5 hf3 hf2 hno hmv hys hk hbo
  obtain ⟨W0, hW0⟩ : ∃ W, (w.alloc (.cells #[.int .i64 key, .slice o l.length cap, .slice oR 2 cR] 49)) = W := ⟨_, rfl⟩
  have hb_W0 : Below w.heap.size w W0 := by rw [← hW0]; exact ((Below.refl _ _).alloc (Nat.le_refl _) _)
  have HB := hide hb_W0
  clear hb_W0
  have zz : w.heap.size < W0.heap.size := by rw [← hW0]; simp
  have z0 : W0.cell? ⟨w.heap.size, 0, none⟩ = some (.int .i64 key) := by rw [← hW0]; simp [go_sem]
  have z1 : W0.cell? ⟨w.heap.size, 1, none⟩ = some (.slice o l.length cap) := by rw [← hW0]; simp [go_sem]
  have z2 : W0.cell? ⟨w.heap.size, 2, none⟩ = some (.slice oR 2 cR) := by rw [← hW0]; simp [go_sem]
  have HKE := hide (fun W => HK.out ▸ l3key_any key W)
  have HBO := hide (fun p : Grown W0 => HBK.out ▸ specBacksOk_any o cap l p.v ((hR.kept (HB.out.trans (p.b.mono HB.out.size)) (Nat.le_refl _)).le (Nat.le_trans HB.out.size p.b.size)) hf1)
  have HRK := hide hR
  have HG := hide hG
  clear hR hG
  have hw0 := HB.out.size
  have h1n : 1 ≤ 2 := by omega
  have h3n : 2 ≤ 3 := by omega
  have hln0 : 0 < lll.length := by rw [← HNN.out]; omega
  have hl100 := backs_len HBK.out
  obtain ⟨b, off, o', c', rfl, hbl, hcu0, hru0⟩ := HG.out.at (Nat.le_refl _) 0 hln0
  have hcu := bC HB.out hcu0 hbl
  rw [Nat.add_zero] at hcu
  have HRU := hide hru0
  have HX0 := hide (HX.out 0 hln0)
  have HY0 := hide (HY.out 0 hln0)
  have HTB := hide (fun W (hb : Below W0.heap.size W0 W) => l3table_any key o cap l W ((HRK.out.kept (HB.out.trans (hb.mono HB.out.size)) (Nat.le_refl _)).le (Nat.le_trans HB.out.size hb.size)) (by omega) HK.out HBK.out)
  have HMO := hide (fun W (hb : Below W0.heap.size W0 W) oT cT (hT : RdLL W.heap.size W oT (newT key l)) => (newT_len key l) ▸ specMoved_any o' oT c' cT (lll.getD 0 []) (newT key l) W ((HRU.out.kept (HB.out.trans (hb.mono HB.out.size)) (Nat.le_refl _)).le (Nat.le_trans HB.out.size hb.size)) hT HX0.out (by rw [newT_len]; omega) HY0.out (fun i hi => by have := newT_row key l i; omega))
  clear hcu0 hru0
  obtain ⟨m0, hm0⟩ : ∃ m, (lll.getD 0 []).length = m := ⟨_, rfl⟩
  rw [hm0] at hcu HMO
  clear hm0
  obtain ⟨r, hr⟩ : ∃ r, movedI (lll.getD 0 []) (newT key l) = r := ⟨_, rfl⟩
  rw [hr] at HMO HMV HYS
  clear hr
  have hbl' : b < W0.heap.size := by omega
  by_cases hr0 : r = 0
  · subst hr0
    go_enter Tryd.func34, Tryd.ntmps34
    go_wp2
    go_region_held3 (fun w' => w'.cell? ⟨w.heap.size, 0, none⟩ = some (.int .i64 key) ∧ w'.cell? ⟨w.heap.size, 1, none⟩ = some (.slice o l.length cap) ∧ w'.cell? ⟨w.heap.size, 2, none⟩ = some (.slice (some ⟨b, off, none⟩) 2 cR) ∧ w'.cell? ⟨b, off, none⟩ = some (.slice o' m0 c')) (first | with_reducible exact ⟨k3_0, k3_1, k3_2, k3_3⟩ | with_reducible exact ⟨k2_0, k2_1, k2_2, k2_3⟩ | with_reducible exact ⟨k1_0, k1_1, k1_2, k1_3⟩ | with_reducible exact ⟨z0, z1, z2, hcu⟩ | go_keep) (first | (go_at_call 57; refine (HKE.out _).mono ?_; rintro e _ ⟨rfl, rfl⟩) | (go_at_call 58; have hc_ := HBO.out ⟨W0.drew, Below.drew (Below.refl _ _)⟩; refine hc_.mono ?_; clear hc_; rintro e x1 ⟨rfl, hb⟩; have hp1 : Below W0.heap.size W0 x1 := (Below.drew (Below.refl _ _)).trans hb; have k1_0 := bC hp1 z0 zz; have k1_1 := bC hp1 z1 zz; have k1_2 := bC hp1 z2 zz; have k1_3 := bC hp1 hcu hbl'; clear hb) | (go_at_call 60; have hc_ := HTB.out x1 hp1; with_reducible refine hc_.mono ?_; clear hc_; rintro e x2 ⟨vT, rfl, ⟨oT, cT, rfl, hT⟩, hb⟩; have hp2 : Below W0.heap.size W0 x2 := hp1.trans (hb.mono hp1.size); have k2_0 := bC hp2 z0 zz; have k2_1 := bC hp2 z1 zz; have k2_2 := bC hp2 z2 zz; have k2_3 := bC hp2 hcu hbl'; clear hb) | (go_at_call 59; have hc_ := HMO.out x2 hp2 oT cT hT; with_reducible refine hc_.mono ?_; clear hc_; rintro e x3 ⟨rfl, hb⟩; have hp3 : Below W0.heap.size W0 x3 := hp2.trans (hb.mono hp2.size); have k3_0 := bC hp3 z0 zz; have k3_1 := bC hp3 z1 zz; have k3_2 := bC hp3 z2 zz; have k3_3 := bC hp3 hcu hbl'; clear hb))
    have HB3 := hide (HB.out.trans (hp3.mono HB.out.size))
    have HZ3 := hide hp3.size
    clear k1_0 k1_1 k1_2 k1_3 k2_0 k2_1 k2_2 k2_3 hT hp1 hp2 hp3
    go_wp2
    go_loopw [3] (fun iv wr => ∃ i : Nat, i ≤ 2 ∧ iv = .int .i64 (i : Int) ∧ Hid (∀ j, j < i → tabOkB (lll.getD j []) = true) ∧ Hid (Below x3.heap.size x3 wr))
              (fun iv _ => 2 - (intOf iv).toNat)
    case atStart => exact ⟨0, Nat.zero_le _, rfl, fun j hj => absurd hj (Nat.not_lt_zero _), Below.refl _ _⟩
    case round =>
          rename World => wo
          obtain ⟨i, hi', rfl, HOK, HBO1⟩ := hrel
          have hx3 : w.heap.size < x3.heap.size := by have := HZ3.out; omega
          have hbx3 : b < x3.heap.size := by have := HZ3.out; omega
          have y2 := bC HBO1.out k3_2 hx3
          have HBW := hide (HB3.out.trans (HBO1.out.mono HB3.out.size))
          have hso := HBO1.out.size
          by_cases hlt : i < 2
          · skip
            have hlt' : (i : Int) < (2 : Int) := by omega
            have hif : i < lll.length := by rw [← HNN.out]; exact hlt
            obtain ⟨b1, off1, o1, c1, e1, hbl1, hcu1, hru1⟩ := HG.out.at (Nat.le_refl _) i hif
            injection e1 with e1
            injection e1 with e2 e3 e4
            subst e2 e3
            clear e4
            have hci := bC HBW.out hcu1 hbl1
            have HRI := hide hru1
            have HYI := hide (HY.out i hif)
            have HNI := hide (fun h => HNO.out (.inr (.inr (.inr (.inr (.inl ⟨i, hif, h⟩))))))
            have hxi := HX.out i hif
            clear hcu1 hru1
            obtain ⟨ll, hll⟩ : ∃ ll, lll.getD i [] = ll := ⟨_, rfl⟩
            rw [hll] at hci HRI HYI HNI hxi
            have HLL := hide hll
            clear hll
            by_cases h8 : ll.length = 8
            · rw [h8] at hci
              have H8 := hide h8
              clear h8 hxi
              have hbo : b < wo.heap.size := by omega
              have hxo : w.heap.size < wo.heap.size := by omega
              go_wp2
              go_loopw [4] (fun kv wr => ∃ k : Nat, k ≤ 8 ∧ kv = .int .i64 (k : Int) ∧ Hid (∀ q, q < k → pairOkB (ll.getD q []) = true) ∧ wo = wr)
                    (fun kv _ => 8 - (intOf kv).toNat)
              case atStart => exact ⟨0, Nat.zero_le _, rfl, fun j hj => absurd hj (Nat.not_lt_zero _), rfl⟩
              case round =>
                obtain ⟨k, hk', rfl, HPK, rfl⟩ := hrel
                by_cases hlk : k < 8
                · skip
                  have hlk' : (k : Int) < 8 := by omega
                  obtain ⟨b2, off2, o9, c9, rfl, hbl2, hc9, hr9⟩ := ((HRI.out.kept HBW.out (Nat.le_refl _)).le HBW.out.size).at (Nat.le_refl _) k (by rw [H8.out]; exact hlk)
                  have HLP := hide (l4pair_any o9 c9 (ll.getD k []) wo hr9 (HYI.out k (by rw [H8.out]; exact hlk)))
                  have HNK := hide (fun h => HNI.out (tabOk_no hlk h))
                  have HPN := hide (fun (h : pairOkB (ll.getD k []) = true) => fun j (hj : j < k + 1) => (show pairOkB (ll.getD j []) = true from (Nat.lt_succ_iff_lt_or_eq.1 hj).elim (fun h' => HPK.out j h') (fun h' => h' ▸ h)))
                  clear hr9
                  obtain ⟨row, hrow⟩ : ∃ r, ll.getD k [] = r := ⟨_, rfl⟩
                  rw [hrow] at hc9 HLP HNK HPN
                  clear hrow
                  obtain ⟨rl, hrl⟩ : ∃ r, row.length = r := ⟨_, rfl⟩
                  rw [hrl] at hc9 HLP
                  clear hrl
                  cases hp : pairOkB row with
                  | false =>
                    have hAf := HNK.out hp
                    rw [hp] at HLP
                    clear HPN HNK HNI HNO HMV HYS
                    subst hAf
                    go_wp2_with fail
                    refine HLP.out.mono ?_
                    rintro e _ ⟨rfl, rfl⟩
                    go_wp2
                    go_ret
                    exact ⟨rfl, HBW.out⟩
                  | true =>
                    have HPP := hide (HPN.out hp)
                    rw [hp] at HLP
                    clear HPN HNK hp
                    go_wp2_with fail
                    refine HLP.out.mono ?_
                    rintro e _ ⟨rfl, rfl⟩
                    go_wp2
                    go_roundw
                    case rel => exact ⟨k + 1, by omega, by go_num, HPP.out, (by first | rfl | trivial)⟩
                    case measure => simp [intOf]; omega
                · skip
                  have e : k = 8 := by omega
                  subst e
                  have HTO := hide (tabOk_yes H8.out HPK.out)
                  go_wp2
                  go_roundw
                  case rel => exact ⟨i + 1, by omega, by go_num, (fun j hj => (Nat.lt_succ_iff_lt_or_eq.1 hj).elim (fun h' => HOK.out j h') (fun h' => by rw [h', HLL.out]; exact HTO.out)), HBO1.out⟩
                  case measure => simp [intOf]; omega
            · have hAf := HNI.out (show tabOkB ll = false by unfold tabOkB; rw [decide_eq_false h8, Bool.false_and])
              have h8' : ((ll.length : Int) == 8) = false := beq_eq_false_iff_ne.2 (by omega)
              have h8n : ((ll.length : Int) != 8) = true := by simp [bne, h8']
              clear HNI HNO HMV HYS
              subst hAf
              have hbo : b < wo.heap.size := by omega
              generalize ll.length = m at *
              go_wp2
              go_ret
              exact ⟨rfl, HBW.out⟩
          · skip
            have e : i = 2 := by omega
            subst e
            have hAt := HYS.out HK.out HBK.out (by show 1 ≤ lll.length; rw [← HNN.out]; exact h1n) (by show lll.length ≤ 3; rw [← HNN.out]; exact h3n) (fun j hj => HOK.out j (by rw [HNN.out]; exact hj)) (by first | rfl | trivial)
            clear HNO HMV HYS
            subst hAt
            go_wp2
            go_ret
            exact ⟨rfl, HBW.out⟩
  · have hAf : A = false := by (cases A with | false => rfl | true => exact absurd (HMV.out rfl) hr0)
    have hr0' : (r == 0) = false := beq_eq_false_iff_ne.2 hr0
    have hr1' : (r != 0) = true := by simp [bne, hr0']
    clear HMV HNO HYS
    subst hAf
    go_enter Tryd.func34, Tryd.ntmps34
    go_wp2
    go_region_held3 (fun w' => w'.cell? ⟨w.heap.size, 0, none⟩ = some (.int .i64 key) ∧ w'.cell? ⟨w.heap.size, 1, none⟩ = some (.slice o l.length cap) ∧ w'.cell? ⟨w.heap.size, 2, none⟩ = some (.slice (some ⟨b, off, none⟩) 2 cR) ∧ w'.cell? ⟨b, off, none⟩ = some (.slice o' m0 c')) (first | with_reducible exact ⟨k3_0, k3_1, k3_2, k3_3⟩ | with_reducible exact ⟨k2_0, k2_1, k2_2, k2_3⟩ | with_reducible exact ⟨k1_0, k1_1, k1_2, k1_3⟩ | with_reducible exact ⟨z0, z1, z2, hcu⟩ | go_keep) (first | (go_at_call 57; refine (HKE.out _).mono ?_; rintro e _ ⟨rfl, rfl⟩) | (go_at_call 58; have hc_ := HBO.out ⟨W0.drew, Below.drew (Below.refl _ _)⟩; refine hc_.mono ?_; clear hc_; rintro e x1 ⟨rfl, hb⟩; have hp1 : Below W0.heap.size W0 x1 := (Below.drew (Below.refl _ _)).trans hb; have k1_0 := bC hp1 z0 zz; have k1_1 := bC hp1 z1 zz; have k1_2 := bC hp1 z2 zz; have k1_3 := bC hp1 hcu hbl'; clear hb) | (go_at_call 60; have hc_ := HTB.out x1 hp1; with_reducible refine hc_.mono ?_; clear hc_; rintro e x2 ⟨vT, rfl, ⟨oT, cT, rfl, hT⟩, hb⟩; have hp2 : Below W0.heap.size W0 x2 := hp1.trans (hb.mono hp1.size); have k2_0 := bC hp2 z0 zz; have k2_1 := bC hp2 z1 zz; have k2_2 := bC hp2 z2 zz; have k2_3 := bC hp2 hcu hbl'; clear hb) | (go_at_call 59; have hc_ := HMO.out x2 hp2 oT cT hT; with_reducible refine hc_.mono ?_; clear hc_; rintro e x3 ⟨rfl, hb⟩; have hp3 : Below W0.heap.size W0 x3 := hp2.trans (hb.mono hp2.size); have k3_0 := bC hp3 z0 zz; have k3_1 := bC hp3 z1 zz; have k3_2 := bC hp3 z2 zz; have k3_3 := bC hp3 hcu hbl'; clear hb))
    have HB3 := hide (HB.out.trans (hp3.mono HB.out.size))
    clear k1_0 k1_1 k1_2 k1_3 k2_0 k2_1 k2_2 k2_3 hT hp1 hp2 hp3
    go_wp2
    go_ret
    exact ⟨rfl, HB3.out⟩

set_option maxRecDepth 100000 in
set_option maxHeartbeats 16000000 in
theorem poolOk_3 (key : Int) (o : Option Addr) (cap : Nat) (l : List Bk) (oR : Option Addr) (cR : Nat) (lll : List (List (List Int))) (hnn : 3 = lll.length) (w : World) (hR : RdK w.heap.size w o l) (hG : RiR 0 w.heap.size w (.slice oR 3 cR) lll) (hf : fitPm ⟨key, l, lll⟩) (A : Bool) (hk : keyB key = true) (hbo : backsOkB l = true)
    (hno : keyB key = false ∨ backsOkB l = false ∨ lll.length < 1 ∨ 3 < lll.length ∨ (∃ i, i < lll.length ∧ tabOkB (lll.getD i []) = false) ∨ eqPtB (tabF (lll.getD 0 [])) (newF key l) = false → A = false) (hmv : A = true → movedI (lll.getD 0 []) (newT key l) = 0)
    (hys : keyB key = true → backsOkB l = true → 1 ≤ lll.length → lll.length ≤ 3 → (∀ i, i < lll.length → tabOkB (lll.getD i []) = true) → movedI (lll.getD 0 []) (newT key l) = 0 → A = true) :
    Calls Tryd.prog 34 #[plv key (.slice o l.length cap) (.slice oR 3 cR)] w fun e w' => e = .returned (.bool A) ∧ Below w.heap.size w w' := by
  have HNN := hide hnn
  obtain ⟨hf1, hf2, hf3, hf4, hf5⟩ := hf
  dsimp only at hf1 hf2 hf3 hf4 hf5
  have HX := hide hf4
  have HY := hide hf5
  have HNO := hide hno
  have HMV := hide hmv
  have HYS := hide hys
  have HK := hide hk
  have HBK := hide hbo
  clear hnn hf4 hf5 hf3 hf2 hno hmv hys hk hbo
  obtain ⟨W0, hW0⟩ : ∃ W, (w.alloc (.cells #[.int .i64 key, .slice o l.length cap, .slice oR 3 cR] 49)) = W := ⟨_, rfl⟩
  have hb_W0 : Below w.heap.size w W0 := by rw [← hW0]; exact ((Below.refl _ _).alloc (Nat.le_refl _) _)
  have HB := hide hb_W0
  clear hb_W0
  have zz : w.heap.size < W0.heap.size := by rw [← hW0]; simp
  have z0 : W0.cell? ⟨w.heap.size, 0, none⟩ = some (.int .i64 key) := by rw [← hW0]; simp [go_sem]
  have z1 : W0.cell? ⟨w.heap.size, 1, none⟩ = some (.slice o l.length cap) := by rw [← hW0]; simp [go_sem]
  have z2 : W0.cell? ⟨w.heap.size, 2, none⟩ = some (.slice oR 3 cR) := by rw [← hW0]; simp [go_sem]
  have HKE := hide (fun W => HK.out ▸ l3key_any key W)
  have HBO := hide (fun p : Grown W0 => HBK.out ▸ specBacksOk_any o cap l p.v ((hR.kept (HB.out.trans (p.b.mono HB.out.size)) (Nat.le_refl _)).le (Nat.le_trans HB.out.size p.b.size)) hf1)
  have HRK := hide hR
  have HG := hide hG
  clear hR hG
  have hw0 := HB.out.size
  have h1n : 1 ≤ 3 := by omega
  have h3n : 3 ≤ 3 := by omega
  have hln0 : 0 < lll.length := by rw [← HNN.out]; omega
  have hl100 := backs_len HBK.out
  obtain ⟨b, off, o', c', rfl, hbl, hcu0, hru0⟩ := HG.out.at (Nat.le_refl _) 0 hln0
  have hcu := bC HB.out hcu0 hbl
  rw [Nat.add_zero] at hcu
  have HRU := hide hru0
  have HX0 := hide (HX.out 0 hln0)
  have HY0 := hide (HY.out 0 hln0)
  have HTB := hide (fun W (hb : Below W0.heap.size W0 W) => l3table_any key o cap l W ((HRK.out.kept (HB.out.trans (hb.mono HB.out.size)) (Nat.le_refl _)).le (Nat.le_trans HB.out.size hb.size)) (by omega) HK.out HBK.out)
  have HMO := hide (fun W (hb : Below W0.heap.size W0 W) oT cT (hT : RdLL W.heap.size W oT (newT key l)) => (newT_len key l) ▸ specMoved_any o' oT c' cT (lll.getD 0 []) (newT key l) W ((HRU.out.kept (HB.out.trans (hb.mono HB.out.size)) (Nat.le_refl _)).le (Nat.le_trans HB.out.size hb.size)) hT HX0.out (by rw [newT_len]; omega) HY0.out (fun i hi => by have := newT_row key l i; omega))
  clear hcu0 hru0
  obtain ⟨m0, hm0⟩ : ∃ m, (lll.getD 0 []).length = m := ⟨_, rfl⟩
  rw [hm0] at hcu HMO
  clear hm0
  obtain ⟨r, hr⟩ : ∃ r, movedI (lll.getD 0 []) (newT key l) = r := ⟨_, rfl⟩
  rw [hr] at HMO HMV HYS
  clear hr
  have hbl' : b < W0.heap.size := by omega
  by_cases hr0 : r = 0
  · subst hr0
    go_enter Tryd.func34, Tryd.ntmps34
    go_wp2
    go_region_held3 (fun w' => w'.cell? ⟨w.heap.size, 0, none⟩ = some (.int .i64 key) ∧ w'.cell? ⟨w.heap.size, 1, none⟩ = some (.slice o l.length cap) ∧ w'.cell? ⟨w.heap.size, 2, none⟩ = some (.slice (some ⟨b, off, none⟩) 3 cR) ∧ w'.cell? ⟨b, off, none⟩ = some (.slice o' m0 c')) (first | with_reducible exact ⟨k3_0, k3_1, k3_2, k3_3⟩ | with_reducible exact ⟨k2_0, k2_1, k2_2, k2_3⟩ | with_reducible exact ⟨k1_0, k1_1, k1_2, k1_3⟩ | with_reducible exact ⟨z0, z1, z2, hcu⟩ | go_keep) (first | (go_at_call 57; refine (HKE.out _).mono ?_; rintro e _ ⟨rfl, rfl⟩) | (go_at_call 58; have hc_ := HBO.out ⟨W0.drew, Below.drew (Below.refl _ _)⟩; refine hc_.mono ?_; clear hc_; rintro e x1 ⟨rfl, hb⟩; have hp1 : Below W0.heap.size W0 x1 := (Below.drew (Below.refl _ _)).trans hb; have k1_0 := bC hp1 z0 zz; have k1_1 := bC hp1 z1 zz; have k1_2 := bC hp1 z2 zz; have k1_3 := bC hp1 hcu hbl'; clear hb) | (go_at_call 60; have hc_ := HTB.out x1 hp1; with_reducible refine hc_.mono ?_; clear hc_; rintro e x2 ⟨vT, rfl, ⟨oT, cT, rfl, hT⟩, hb⟩; have hp2 : Below W0.heap.size W0 x2 := hp1.trans (hb.mono hp1.size); have k2_0 := bC hp2 z0 zz; have k2_1 := bC hp2 z1 zz; have k2_2 := bC hp2 z2 zz; have k2_3 := bC hp2 hcu hbl'; clear hb) | (go_at_call 59; have hc_ := HMO.out x2 hp2 oT cT hT; with_reducible refine hc_.mono ?_; clear hc_; rintro e x3 ⟨rfl, hb⟩; have hp3 : Below W0.heap.size W0 x3 := hp2.trans (hb.mono hp2.size); have k3_0 := bC hp3 z0 zz; have k3_1 := bC hp3 z1 zz; have k3_2 := bC hp3 z2 zz; have k3_3 := bC hp3 hcu hbl'; clear hb))
    have HB3 := hide (HB.out.trans (hp3.mono HB.out.size))
    have HZ3 := hide hp3.size
    clear k1_0 k1_1 k1_2 k1_3 k2_0 k2_1 k2_2 k2_3 hT hp1 hp2 hp3
    go_wp2
    go_loopw [3] (fun iv wr => ∃ i : Nat, i ≤ 3 ∧ iv = .int .i64 (i : Int) ∧ Hid (∀ j, j < i → tabOkB (lll.getD j []) = true) ∧ Hid (Below x3.heap.size x3 wr))
              (fun iv _ => 3 - (intOf iv).toNat)
    case atStart => exact ⟨0, Nat.zero_le _, rfl, fun j hj => absurd hj (Nat.not_lt_zero _), Below.refl _ _⟩
    case round =>
          rename World => wo
          obtain ⟨i, hi', rfl, HOK, HBO1⟩ := hrel
          have hx3 : w.heap.size < x3.heap.size := by have := HZ3.out; omega
          have hbx3 : b < x3.heap.size := by have := HZ3.out; omega
          have y2 := bC HBO1.out k3_2 hx3
          have HBW := hide (HB3.out.trans (HBO1.out.mono HB3.out.size))
          have hso := HBO1.out.size
          by_cases hlt : i < 3
          · skip
            have hlt' : (i : Int) < (3 : Int) := by omega
            have hif : i < lll.length := by rw [← HNN.out]; exact hlt
            obtain ⟨b1, off1, o1, c1, e1, hbl1, hcu1, hru1⟩ := HG.out.at (Nat.le_refl _) i hif
            injection e1 with e1
            injection e1 with e2 e3 e4
            subst e2 e3
            clear e4
            have hci := bC HBW.out hcu1 hbl1
            have HRI := hide hru1
            have HYI := hide (HY.out i hif)
            have HNI := hide (fun h => HNO.out (.inr (.inr (.inr (.inr (.inl ⟨i, hif, h⟩))))))
            have hxi := HX.out i hif
            clear hcu1 hru1
            obtain ⟨ll, hll⟩ : ∃ ll, lll.getD i [] = ll := ⟨_, rfl⟩
            rw [hll] at hci HRI HYI HNI hxi
            have HLL := hide hll
            clear hll
            by_cases h8 : ll.length = 8
            · rw [h8] at hci
              have H8 := hide h8
              clear h8 hxi
              have hbo : b < wo.heap.size := by omega
              have hxo : w.heap.size < wo.heap.size := by omega
              go_wp2
              go_loopw [4] (fun kv wr => ∃ k : Nat, k ≤ 8 ∧ kv = .int .i64 (k : Int) ∧ Hid (∀ q, q < k → pairOkB (ll.getD q []) = true) ∧ wo = wr)
                    (fun kv _ => 8 - (intOf kv).toNat)
              case atStart => exact ⟨0, Nat.zero_le _, rfl, fun j hj => absurd hj (Nat.not_lt_zero _), rfl⟩
              case round =>
                obtain ⟨k, hk', rfl, HPK, rfl⟩ := hrel
                by_cases hlk : k < 8
                · skip
                  have hlk' : (k : Int) < 8 := by omega
                  obtain ⟨b2, off2, o9, c9, rfl, hbl2, hc9, hr9⟩ := ((HRI.out.kept HBW.out (Nat.le_refl _)).le HBW.out.size).at (Nat.le_refl _) k (by rw [H8.out]; exact hlk)
                  have HLP := hide (l4pair_any o9 c9 (ll.getD k []) wo hr9 (HYI.out k (by rw [H8.out]; exact hlk)))
                  have HNK := hide (fun h => HNI.out (tabOk_no hlk h))
                  have HPN := hide (fun (h : pairOkB (ll.getD k []) = true) => fun j (hj : j < k + 1) => (show pairOkB (ll.getD j []) = true from (Nat.lt_succ_iff_lt_or_eq.1 hj).elim (fun h' => HPK.out j h') (fun h' => h' ▸ h)))
                  clear hr9
                  obtain ⟨row, hrow⟩ : ∃ r, ll.getD k [] = r := ⟨_, rfl⟩
                  rw [hrow] at hc9 HLP HNK HPN
                  clear hrow
                  obtain ⟨rl, hrl⟩ : ∃ r, row.length = r := ⟨_, rfl⟩
                  rw [hrl] at hc9 HLP
                  clear hrl
                  cases hp : pairOkB row with
                  | false =>
                    have hAf := HNK.out hp
                    rw [hp] at HLP
                    clear HPN HNK HNI HNO HMV HYS
                    subst hAf
                    go_wp2_with fail
                    refine HLP.out.mono ?_
                    rintro e _ ⟨rfl, rfl⟩
                    go_wp2
                    go_ret
                    exact ⟨rfl, HBW.out⟩
                  | true =>
                    have HPP := hide (HPN.out hp)
                    rw [hp] at HLP
                    clear HPN HNK hp
                    go_wp2_with fail
                    refine HLP.out.mono ?_
                    rintro e _ ⟨rfl, rfl⟩
                    go_wp2
                    go_roundw
                    case rel => exact ⟨k + 1, by omega, by go_num, HPP.out, (by first | rfl | trivial)⟩
                    case measure => simp [intOf]; omega
                · skip
                  have e : k = 8 := by omega
                  subst e
                  have HTO := hide (tabOk_yes H8.out HPK.out)
                  go_wp2
                  go_roundw
                  case rel => exact ⟨i + 1, by omega, by go_num, (fun j hj => (Nat.lt_succ_iff_lt_or_eq.1 hj).elim (fun h' => HOK.out j h') (fun h' => by rw [h', HLL.out]; exact HTO.out)), HBO1.out⟩
                  case measure => simp [intOf]; omega
            · have hAf := HNI.out (show tabOkB ll = false by unfold tabOkB; rw [decide_eq_false h8, Bool.false_and])
              have h8' : ((ll.length : Int) == 8) = false := beq_eq_false_iff_ne.2 (by omega)
              have h8n : ((ll.length : Int) != 8) = true := by simp [bne, h8']
              clear HNI HNO HMV HYS
              subst hAf
              have hbo : b < wo.heap.size := by omega
              generalize ll.length = m at *
              go_wp2
              go_ret
              exact ⟨rfl, HBW.out⟩
          · skip
            have e : i = 3 := by omega
            subst e
            have hAt := HYS.out HK.out HBK.out (by show 1 ≤ lll.length; rw [← HNN.out]; exact h1n) (by show lll.length ≤ 3; rw [← HNN.out]; exact h3n) (fun j hj => HOK.out j (by rw [HNN.out]; exact hj)) (by first | rfl | trivial)
            clear HNO HMV HYS
            subst hAt
            go_wp2
            go_ret
            exact ⟨rfl, HBW.out⟩
  · have hAf : A = false := by (cases A with | false => rfl | true => exact absurd (HMV.out rfl) hr0)
    have hr0' : (r == 0) = false := beq_eq_false_iff_ne.2 hr0
    have hr1' : (r != 0) = true := by simp [bne, hr0']
    clear HMV HNO HYS
    subst hAf
    go_enter Tryd.func34, Tryd.ntmps34
    go_wp2
    go_region_held3 (fun w' => w'.cell? ⟨w.heap.size, 0, none⟩ = some (.int .i64 key) ∧ w'.cell? ⟨w.heap.size, 1, none⟩ = some (.slice o l.length cap) ∧ w'.cell? ⟨w.heap.size, 2, none⟩ = some (.slice (some ⟨b, off, none⟩) 3 cR) ∧ w'.cell? ⟨b, off, none⟩ = some (.slice o' m0 c')) (first | with_reducible exact ⟨k3_0, k3_1, k3_2, k3_3⟩ | with_reducible exact ⟨k2_0, k2_1, k2_2, k2_3⟩ | with_reducible exact ⟨k1_0, k1_1, k1_2, k1_3⟩ | with_reducible exact ⟨z0, z1, z2, hcu⟩ | go_keep) (first | (go_at_call 57; refine (HKE.out _).mono ?_; rintro e _ ⟨rfl, rfl⟩) | (go_at_call 58; have hc_ := HBO.out ⟨W0.drew, Below.drew (Below.refl _ _)⟩; refine hc_.mono ?_; clear hc_; rintro e x1 ⟨rfl, hb⟩; have hp1 : Below W0.heap.size W0 x1 := (Below.drew (Below.refl _ _)).trans hb; have k1_0 := bC hp1 z0 zz; have k1_1 := bC hp1 z1 zz; have k1_2 := bC hp1 z2 zz; have k1_3 := bC hp1 hcu hbl'; clear hb) | (go_at_call 60; have hc_ := HTB.out x1 hp1; with_reducible refine hc_.mono ?_; clear hc_; rintro e x2 ⟨vT, rfl, ⟨oT, cT, rfl, hT⟩, hb⟩; have hp2 : Below W0.heap.size W0 x2 := hp1.trans (hb.mono hp1.size); have k2_0 := bC hp2 z0 zz; have k2_1 := bC hp2 z1 zz; have k2_2 := bC hp2 z2 zz; have k2_3 := bC hp2 hcu hbl'; clear hb) | (go_at_call 59; have hc_ := HMO.out x2 hp2 oT cT hT; with_reducible refine hc_.mono ?_; clear hc_; rintro e x3 ⟨rfl, hb⟩; have hp3 : Below W0.heap.size W0 x3 := hp2.trans (hb.mono hp2.size); have k3_0 := bC hp3 z0 zz; have k3_1 := bC hp3 z1 zz; have k3_2 := bC hp3 z2 zz; have k3_3 := bC hp3 hcu hbl'; clear hb))
    have HB3 := hide (HB.out.trans (hp3.mono HB.out.size))
    clear k1_0 k1_1 k1_2 k1_3 k2_0 k2_1 k2_2 k2_3 hT hp1 hp2 hp3
    go_wp2
    go_ret
    exact ⟨rfl, HB3.out⟩

set_option maxRecDepth 100000 in
set_option maxHeartbeats 16000000 in
theorem specPoolOk_go (key : Int) (o : Option Addr) (cap : Nat) (l : List Bk) (oR : Option Addr) (cR : Nat) (lll : List (List (List Int))) (n : Nat) (hnn : n = lll.length) (w : World) (hR : RdK w.heap.size w o l) (hG : RiR 0 w.heap.size w (.slice oR n cR) lll) (hf : fitPm ⟨key, l, lll⟩) :
    Calls Tryd.prog 34 #[plv key (.slice o l.length cap) (.slice oR n cR)] w fun e w' => e = .returned (.bool (poolB ⟨key, l, lll⟩)) ∧ Below w.heap.size w w' := by
  have HNN := hide hnn
  have HFIT := hide hf
  obtain ⟨hf1, hf2, hf3, hf4, hf5⟩ := hf
  dsimp only at hf1 hf2 hf3 hf4 hf5
  rw [← hnn] at hf2
  have HX := hide hf4
  have HY := hide hf5
  clear hnn hf4 hf5 hf3
  have HNO := hide (fun h => poolB_no (m := ⟨key, l, lll⟩) h)
  have HMV := hide (fun h => moved_pool (m := ⟨key, l, lll⟩) h)
  have HYS := hide (fun h1 h2 h3 h4 h5 h6 => pool_rest (m := ⟨key, l, lll⟩) h1 h2 h3 h4 h5 h6)
  obtain ⟨A, hA⟩ : ∃ A, poolB ⟨key, l, lll⟩ = A := ⟨_, rfl⟩
  rw [hA] at HNO HMV HYS ⊢
  dsimp only at HNO HMV HYS
  clear hA
  obtain ⟨W0, hW0⟩ : ∃ W, (w.alloc (.cells #[.int .i64 key, .slice o l.length cap, .slice oR n cR] 49)) = W := ⟨_, rfl⟩
  have hb_W0 : Below w.heap.size w W0 := by rw [← hW0]; exact ((Below.refl _ _).alloc (Nat.le_refl _) _)
  have HB := hide hb_W0
  clear hb_W0
  have zz : w.heap.size < W0.heap.size := by rw [← hW0]; simp
  have z0 : W0.cell? ⟨w.heap.size, 0, none⟩ = some (.int .i64 key) := by rw [← hW0]; simp [go_sem]
  have z1 : W0.cell? ⟨w.heap.size, 1, none⟩ = some (.slice o l.length cap) := by rw [← hW0]; simp [go_sem]
  have z2 : W0.cell? ⟨w.heap.size, 2, none⟩ = some (.slice oR n cR) := by rw [← hW0]; simp [go_sem]
  have G0 := Grown.cell z0 zz
  have G1 := Grown.cell z1 zz
  have G2 := Grown.cell z2 zz
  have HKE := hide (fun W => l3key_any key W)
  have HBO := hide (fun p : Grown W0 => specBacksOk_any o cap l p.v ((hR.kept (HB.out.trans (p.b.mono HB.out.size)) (Nat.le_refl _)).le (Nat.le_trans HB.out.size p.b.size)) hf1)
  have HRK := hide hR
  have HG := hide hG
  clear hR hG
  have hw0 := HB.out.size
  cases hk : keyB key with
  | false =>
    rw [hk] at HKE
    have hAf := HNO.out (.inl hk)
    subst hAf
    go_enter Tryd.func34, Tryd.ntmps34
    go_wp2
    (refine wp_region_grown (by kernel_rfl) (by kernel_rfl) ?_; intro hne9; (repeat (go_big_quiet_step (first | (go_at_call 57; exact grown_same _ (HKE.out _)) | (go_at_call 58; exact grown_of _ (HBO.out _))))); (with_reducible refine wpQuiet_nil ?_); intro _ hw9; obtain ⟨pq, hw8⟩ := hw9; subst hw8)
    go_wp2
    go_ret
    exact ⟨rfl, HB.out.trans (pq.b.mono HB.out.size)⟩
  | true =>
    have HK := hide hk
    rw [hk] at HKE
    clear hk
    cases hbo : backsOkB l with
    | false =>
      rw [hbo] at HBO
      have hAf := HNO.out (.inr (.inl hbo))
      subst hAf
      go_enter Tryd.func34, Tryd.ntmps34
      go_wp2
      (refine wp_region_grown (by kernel_rfl) (by kernel_rfl) ?_; intro hne9; (repeat (go_big_quiet_step (first | (go_at_call 57; exact grown_same _ (HKE.out _)) | (go_at_call 58; exact grown_of _ (HBO.out _))))); (with_reducible refine wpQuiet_nil ?_); intro _ hw9; obtain ⟨pq, hw8⟩ := hw9; subst hw8)
      go_wp2
      go_ret
      exact ⟨rfl, HB.out.trans (pq.b.mono HB.out.size)⟩
    | true =>
      have HBK := hide hbo
      rw [hbo] at HBO
      clear hbo
      by_cases h1 : (n : Int) < 1
      · skip
        have hAf := HNO.out (.inr (.inr (.inl (show lll.length < 1 by have := HNN.out; omega))))
        subst hAf
        go_enter Tryd.func34, Tryd.ntmps34
        go_wp2
        (refine wp_region_grown (by kernel_rfl) (by kernel_rfl) ?_; intro hne9; (repeat (go_big_quiet_step (first | (go_at_call 57; exact grown_same _ (HKE.out _)) | (go_at_call 58; exact grown_of _ (HBO.out _))))); (with_reducible refine wpQuiet_nil ?_); intro _ hw9; obtain ⟨pq, hw8⟩ := hw9; subst hw8)
        go_wp2
        go_ret
        exact ⟨rfl, HB.out.trans (pq.b.mono HB.out.size)⟩
      have hd1 : decide ((n : Int) < 1) = false := decide_eq_false h1
      by_cases h3 : (3 : Int) < (n : Int)
      · skip
        have hAf := HNO.out (.inr (.inr (.inr (.inl (show 3 < lll.length by have := HNN.out; omega)))))
        subst hAf
        go_enter Tryd.func34, Tryd.ntmps34
        go_wp2
        (refine wp_region_grown (by kernel_rfl) (by kernel_rfl) ?_; intro hne9; (repeat (go_big_quiet_step (first | (go_at_call 57; exact grown_same _ (HKE.out _)) | (go_at_call 58; exact grown_of _ (HBO.out _))))); (with_reducible refine wpQuiet_nil ?_); intro _ hw9; obtain ⟨pq, hw8⟩ := hw9; subst hw8)
        go_wp2
        go_ret
        exact ⟨rfl, HB.out.trans (pq.b.mono HB.out.size)⟩
      have h1n : 1 ≤ n := by omega
      have h3n : n ≤ 3 := by omega
      have hfit : fitPm ⟨key, l, lll⟩ := HFIT.out
      have hcase : n = 1 ∨ n = 2 ∨ n = 3 := by omega
      rcases hcase with rfl | rfl | rfl
      · exact poolOk_1 key o cap l oR cR lll HNN.out w HRK.out HG.out hfit A HK.out HBK.out HNO.out HMV.out HYS.out
      · exact poolOk_2 key o cap l oR cR lll HNN.out w HRK.out HG.out hfit A HK.out HBK.out HNO.out HMV.out HYS.out
      · exact poolOk_3 key o cap l oR cR lll HNN.out w HRK.out HG.out hfit A HK.out HBK.out HNO.out HMV.out HYS.out

end Go.Proofs.YtmmhgkkcpjhiiaaDoor

/- The program's PoolOk; both by their shape. -/
namespace Go.Proofs.YtmmhgkkcpjhiiaaDoor
open Go.ChangeShapes Go.WideShapes Go.ChangeAt Go.RowKit Go.Joins
set_option linter.unusedVariables false
set_option linter.unusedSimpArgs false


set_option maxRecDepth 100000 in
set_option maxHeartbeats 2000000 in
theorem implPoolOk_go (key : Int) (o : Option Addr) (cap : Nat) (l : List Bk) (oR : Option Addr) (cR : Nat) (lll : List (List (List Int))) (w : World) (hR : RdK w.heap.size w o l) (hG : RiR 0 w.heap.size w (.slice oR lll.length cR) lll) (hf : fitPm ⟨key, l, lll⟩) :
  Calls Tryd.prog 37 #[plv key (.slice o l.length cap) (.slice oR lll.length cR)] w fun e w' => e = .returned (.bool (poolB ⟨key, l, lll⟩)) ∧ Below w.heap.size w w' := by
 obtain ⟨W0, hW0⟩ : ∃ W, (w.alloc (.cells #[.int .i64 key, .slice o l.length cap, .slice oR lll.length cR] 49)) = W := ⟨_, rfl⟩
 have hb_W0 : Below w.heap.size w W0 := by rw [← hW0]; exact ((Below.refl _ _).alloc (Nat.le_refl _) _)
 have HB := hide hb_W0
 clear hb_W0
 have zz : w.heap.size < W0.heap.size := by rw [← hW0]; simp
 have z0 : W0.cell? ⟨w.heap.size, 0, none⟩ = some (.int .i64 key) := by rw [← hW0]; simp [go_sem]
 have z1 : W0.cell? ⟨w.heap.size, 1, none⟩ = some (.slice o l.length cap) := by rw [← hW0]; simp [go_sem]
 have z2 : W0.cell? ⟨w.heap.size, 2, none⟩ = some (.slice oR lll.length cR) := by rw [← hW0]; simp [go_sem]
 obtain ⟨A, hA⟩ : ∃ A, poolB ⟨key, l, lll⟩ = A := ⟨_, rfl⟩
 rw [hA]
 have HA := hide hA
 clear hA
 have HPF := hide (poolFrom_go key o cap l oR cR lll lll.length rfl W0 ((hR.kept HB.out (Nat.le_refl _)).le HB.out.size) (RiR.mon.go (RiR.stp.go hG (Stp.of (lo := 0) (hi := 0) HB.out) (.inl (Nat.zero_le _))) (Nat.le_refl _) HB.out.size) hf)
 clear hR hG
 go_enter Tryd.func37, Tryd.ntmps37
 go_wp2_with fail
 refine HPF.out.mono ?_
 rintro e v1 ⟨vP, rfl, h1, h2, hb⟩
 have HB1 := hide (HB.out.trans (hb.mono HB.out.size))
 clear hb HPF
 dsimp only at h1 h2
 rw [HA.out] at h1 h2 ⊢
 clear HA
 obtain ⟨ky, ob, nb, cb, oq, nq, cq, e9⟩ : ∃ ky ob nb cb oq nq cq, vP = polv ky (.slice ob nb cb) (.slice oq nq cq) := by (cases A with | true => (obtain ⟨o2, c2, e, _⟩ := h1 rfl; exact ⟨_, _, _, _, _, _, _, e⟩) | false => exact ⟨_, _, _, _, _, _, _, h2 rfl⟩)
 subst e9
 clear h1 h2
 go_wp2
 go_ret
 exact ⟨rfl, HB1.out.alloc HB1.out.size _⟩

theorem specPoolOk_sh (v : Value) (m : Pm) (w : World) (hR : RdPm w.heap.size w v m) (hf : fitPm m) :
  Calls Tryd.prog 34 #[v] w fun e w' => e = .returned (.bool (poolB m)) ∧ Below w.heap.size w w' := by
 obtain ⟨vb, vr, rfl, hb, rr⟩ := hR
 obtain ⟨o, c, rfl, r⟩ := hb.open
 obtain ⟨oR, cR, rfl⟩ := RiR.len rr
 exact specPoolOk_go m.key o c m.l oR cR m.ring m.ring.length rfl w r rr hf

theorem implPoolOk_sh (v : Value) (m : Pm) (w : World) (hR : RdPm w.heap.size w v m) (hf : fitPm m) :
  Calls Tryd.prog 37 #[v] w fun e w' => e = .returned (.bool (poolB m)) ∧ Below w.heap.size w w' := by
 obtain ⟨vb, vr, rfl, hb, rr⟩ := hR
 obtain ⟨o, c, rfl, r⟩ := hb.open
 obtain ⟨oR, cR, rfl⟩ := RiR.len rr
 exact implPoolOk_go m.key o c m.l oR cR m.ring w r rr hf

end Go.Proofs.YtmmhgkkcpjhiiaaDoor

/- Pools as text, the program's. -/
namespace Go.Proofs.YtmmhgkkcpjhiiaaDoor
open Go.ChangeShapes Go.WideShapes Go.ChangeAt Go.RowKit Go.Joins
set_option linter.unusedVariables false
set_option linter.unusedSimpArgs false


theorem back_cells {C : Nat} {w : World} {o : Option Addr} {l : List Bk} (h : RdK C w o l) (j : Nat) (hj : j < l.length) : ∃ g off, o = some ⟨g, off, none⟩ ∧ g < C ∧ w.cell? ⟨g, off + j * 3, none⟩ = some (.int .i64 (l.getD j (0, 0, false)).1) ∧ w.cell? ⟨g, off + j * 3 + 1, none⟩ = some (.int .i64 (l.getD j (0, 0, false)).2.1) ∧ w.cell? ⟨g, off + j * 3 + 2, none⟩ = some (.bool (l.getD j (0, 0, false)).2.2) := by
 rcases h with r | ⟨b, off, ho, hb, r⟩
 ·subst r; exact absurd hj (Nat.not_lt_zero _)
 ·exact ⟨b, off, ho, hb, r j hj 0 (by decide), r j hj 1 (by decide), r j hj 2 (by decide)⟩
theorem pairOk_parts {p : List Int} (h : pairOkB p = true) : p.length ≤ 2 ∧ ∀ j, j < p.length → idB (p.getD j 0) = true := by
 unfold pairOkB at h
 rw [Bool.or_eq_true, Bool.and_eq_true, Bool.and_eq_true, decide_eq_true_eq, decide_eq_true_eq] at h
 rcases h with h | ⟨⟨h, h0⟩, h1⟩
 ·exact ⟨by omega, fun j hj => by omega⟩
 ·refine ⟨by omega, fun j hj => ?_⟩
  rcases (show j = 0 ∨ j = 1 by omega) with e | e <;> subst e
  ·exact h0
  ·exact h1
theorem pool_facts {m : Pm} (h : poolB m = true) : (∀ i, i < m.l.length → backB (m.l.getD i (0, 0, false)).1 (m.l.getD i (0, 0, false)).2.1 = true) ∧ 1 ≤ m.ring.length ∧ (m.ring.getD 0 []).length = 8 ∧ ∀ i, i < 8 → pairOkB ((m.ring.getD 0 []).getD i []) = true := by
 unfold poolB at h
 simp only [Bool.and_eq_true, decide_eq_true_eq] at h
 obtain ⟨⟨⟨⟨⟨_, hb⟩, h1⟩, _⟩, ht⟩, _⟩ := h
 rw [List.all_eq_true] at ht
 have h0 := ht 0 (List.mem_range.2 (by omega))
 unfold tabOkB at h0
 rw [Bool.and_eq_true, decide_eq_true_eq, List.all_eq_true] at h0
 refine ⟨fun i hi => ?_, h1, h0.1, fun i hi => h0.2 i (List.mem_range.2 hi)⟩
 have h2 := backsOkB_iff.1 hb i hi
 unfold okAt at h2
 rw [Bool.and_eq_true] at h2
 exact h2.1
theorem backsT_len {l : List Bk} (h : ∀ i, i < l.length → backB (l.getD i (0, 0, false)).1 (l.getD i (0, 0, false)).2.1 = true) : ∀ k, k ≤ l.length → (backsT l k).length ≤ 140 * k := by
 intro k
 induction k with
 | zero => intro _; simp [backsT]
 | succ k ih =>
  intro hk
  have h1 := ih (by omega)
  have h2 := backB_iff.1 (h k (by omega))
  have h3 := backT_len (l.getD k (0, 0, false)).1.toNat (l.getD k (0, 0, false)).2.1.toNat (l.getD k (0, 0, false)).2.2
  rw [backsT, List.length_append]
  omega
theorem bucketT_len {i : Nat} {p : List Int} (h : pairOkB p = true) : (bucketT i p).length ≤ i + 30 := by
 obtain ⟨h1, h2⟩ := pairOk_parts h
 have h3 := idsT_len h2 p.length (Nat.le_refl _)
 have h4 := digL_len i
 simp only [bucketT, List.length_append, List.length_cons, List.length_nil]
 omega
theorem linesT_len {ll : List (List Int)} (h : ∀ i, i < 8 → pairOkB (ll.getD i []) = true) : ∀ k, k ≤ 8 → (linesT ll k).length ≤ 40 * k := by
 intro k
 induction k with
 | zero => intro _; simp [linesT]
 | succ k ih =>
  intro hk
  have h1 := ih (by omega)
  have h2 := bucketT_len (i := k) (h k (by omega))
  rw [linesT, List.length_append]
  omega
theorem poolT_no {m : Pm} (h : poolB m = false) : poolT m = [] := by unfold poolT; rw [h]; rfl
theorem poolT_yes {m : Pm} (h : poolB m = true) : poolT m = backsT m.l m.l.length ++ linesT (m.ring.getD 0 []) 8 := by unfold poolT; rw [if_pos h]; unfold poolTL; rw [(pool_facts h).2.2.1]
set_option maxRecDepth 100000 in
set_option maxHeartbeats 4000000 in
theorem implPoolText_go (key : Int) (o : Option Addr) (cap : Nat) (l : List Bk) (oR : Option Addr) (cR : Nat) (lll : List (List (List Int))) (w : World) (hR : RdK w.heap.size w o l) (hG : RiR 0 w.heap.size w (.slice oR lll.length cR) lll) (hf : fitPm ⟨key, l, lll⟩) (hT : PTab w.heap.size w) :
  Calls Tryd.prog 17 #[plv key (.slice o l.length cap) (.slice oR lll.length cR)] w fun e w' => ∃ v, e = .returned v ∧ ownB w' w.heap.size v (poolT ⟨key, l, lll⟩) ∧ TxS w.heap.size w w' := by
 obtain ⟨W0, hW0⟩ : ∃ W, (w.alloc (.cells #[.int .i64 key, .slice o l.length cap, .slice oR lll.length cR] 49)) = W := ⟨_, rfl⟩
 have bx : W0.heap[w.heap.size]? = some (.cells #[.int .i64 key, .slice o l.length cap, .slice oR lll.length cR] 49 (0, 0)) := by rw [← hW0]; exact heap_alloc_new w _
 have hB0 : Below w.heap.size w W0 := by rw [← hW0]; exact (Below.refl _ _).alloc (Nat.le_refl _) _
 have t0 : TxS w.heap.size w W0 := TxS.below hB0 (Nat.le_refl _)
 have HOK := hide (implPoolOk_sh (plv key (.slice o l.length cap) (.slice oR lll.length cR)) ⟨key, l, lll⟩ W0 ⟨_, _, rfl, RiV.of ((hR.kept hB0 (Nat.le_refl _)).le hB0.size), RiR.mon.go (RiR.stp.go hG (Stp.of (lo := 0) (hi := 0) hB0) (.inl (Nat.zero_le _))) (Nat.le_refl _) hB0.size⟩ hf)
 have hs0 := t0.sz (Nat.le_refl _)
 clear hB0
 have hl20 : l.length ≤ 1048576 := hf.1
 have bxc0 : W0.cell? ⟨w.heap.size, 0, none⟩ = some (.int .i64 key) := cellT bx 0 _ rfl
 have bxc1 : W0.cell? ⟨w.heap.size, 1, none⟩ = some (.slice o l.length cap) := cellT bx 1 _ rfl
 have bxc2 : W0.cell? ⟨w.heap.size, 2, none⟩ = some (.slice oR lll.length cR) := cellT bx 2 _ rfl
 obtain ⟨B, hB⟩ : ∃ B, poolB ⟨key, l, lll⟩ = B := ⟨_, rfl⟩
 rw [hB] at HOK
 cases B with
 | false =>
  have HN := hide (poolT_no hB)
  clear hB hf
  go_enter Tryd.func17, Tryd.ntmps17
  go_wp2_with fail
  refine HOK.out.mono ?_
  rintro e y ⟨rfl, hb⟩
  have st := TxS.below hb hs0
  have HX := hide (t0.trans st)
  clear st hb bx bxc0 bxc1 bxc2
  go_wp2
  go_ret
  exact ⟨_, rfl, by rw [HN.out]; exact World.ownsRow_nil _ _ _ _, HX.out⟩
 | true =>
  have HE := hide (poolT_yes hB)
  obtain ⟨hbk, hr1, hr8, hpr⟩ := pool_facts hB
  dsimp only at hbk hr1 hr8 hpr
  have HBL := hide (backsT_len hbk)
  have HLL := hide (linesT_len hpr)
  have HBK := hide hbk
  have HPR := hide hpr
  obtain ⟨bR, offR, oT, cT, hoR, hbR, hcR, hRT⟩ := hG.at (Nat.le_refl _) 0 (by omega)
  subst hoR
  rw [hr8] at hcR
  clear hB hf hbk hpr hG
  go_enter Tryd.func17, Tryd.ntmps17
  go_wp2_with fail
  refine HOK.out.mono ?_
  rintro e y0 ⟨rfl, hb0⟩
  have st0 := TxS.below hb0 hs0
  clear bxc0 bxc1 bxc2
  replace bx := st0.box bx (by decide)
  replace t0 := t0.trans st0
  replace hs0 := st0.sz hs0
  clear st0 hb0 HOK
  have bxc1 : y0.cell? ⟨w.heap.size, 1, none⟩ = some (.slice o l.length cap) := cellT bx 1 _ rfl
  have hnil : ownB y0 w.heap.size (.slice none 0 0) ([] : List Int) := World.ownsRow_nil _ _ _ _
  have HNIL := hide hnil
  clear hnil
  replace hT := hT.tx t0 (Nat.le_refl _)
  go_wp2
  go_loopw [3, 14] (fun tv iv wr => ∃ i : Nat, i ≤ l.length ∧ iv = .int .i64 i ∧ ownB wr w.heap.size tv (backsT l i) ∧ TxS w.heap.size y0 wr)
   (fun _ iv _ => l.length - (intOf iv).toNat)
  case atStart => exact ⟨0, Nat.zero_le _, rfl, HNIL.out, TxS.refl _ _⟩
  case round =>
   obtain ⟨i, hi, rfl, ho, sr⟩ := hrel
   have bxr := sr.box bx (by decide)
   have hsr := sr.sz hs0
   have hbl := HBL.out i hi
   by_cases hlt : i < l.length
   ·obtain ⟨g, off, rfl, hgl, hq0, hq1, hq2⟩ := back_cells hR i hlt
    obtain ⟨x, y, z, hxy⟩ : ∃ x y z, l.getD i (0, 0, false) = (x, y, z) := ⟨_, _, _, rfl⟩
    have hbb := backB_iff.1 (HBK.out i hlt)
    have HSU := hide (show backsT l (i + 1) = backsT l i ++ backT (l.getD i (0, 0, false)).1.toNat (l.getD i (0, 0, false)).2.1.toNat (l.getD i (0, 0, false)).2.2 from rfl)
    rw [hxy] at hq0 hq1 hq2 hbb HSU
    dsimp only at hq0 hq1 hq2 hbb HSU
    obtain ⟨x', rfl⟩ : ∃ q : Nat, x = q := ⟨x.toNat, by omega⟩
    obtain ⟨y', rfl⟩ : ∃ q : Nat, y = q := ⟨y.toNat, by omega⟩
    rw [Int.toNat_natCast, Int.toNat_natCast] at HSU
    have bel := (t0.trans sr).bel
    have hc0 : wr.cell? ⟨g, off + i * 3, none⟩ = some (.int .i64 x') := (bel.cell (p := ⟨g, off + i * 3, none⟩) hgl).trans hq0
    have hc1 : wr.cell? ⟨g, off + i * 3 + 1, none⟩ = some (.int .i64 y') := (bel.cell (p := ⟨g, off + i * 3 + 1, none⟩) hgl).trans hq1
    have hc2 : wr.cell? ⟨g, off + i * 3 + 2, none⟩ = some (.bool z) := (bel.cell (p := ⟨g, off + i * 3 + 2, none⟩) hgl).trans hq2
    have z1 : (i : Int) < (l.length : Int) := by omega
    obtain ⟨K, hK⟩ : ∃ q, backsT l i = q := ⟨_, rfl⟩
    rw [hK] at ho hbl
    have HK := hide hK
    have HS := hide sr
    clear hK sr hq0 hq1 hq2 hxy bel
    obtain ⟨W1, hW1⟩ : ∃ W, (wr.alloc (.cells #[.int .i64 x', .int .i64 y', .bool z] 70)) = W := ⟨_, rfl⟩
    have hB1 : Below wr.heap.size wr W1 := by rw [← hW1]; exact (Below.refl _ _).alloc (Nat.le_refl _) _
    have bxn : W1.heap[wr.heap.size]? = some (.cells #[.int .i64 x', .int .i64 y', .bool z] 70 (0, 0)) := by rw [← hW1]; exact heap_alloc_new wr _
    have n0 : W1.cell? ⟨wr.heap.size, 0, none⟩ = some (.int .i64 x') := cellT bxn 0 _ rfl
    have n1 : W1.cell? ⟨wr.heap.size, 1, none⟩ = some (.int .i64 y') := cellT bxn 1 _ rfl
    have n2 : W1.cell? ⟨wr.heap.size, 2, none⟩ = some (.bool z) := cellT bxn 2 _ rfl
    have ho1 := own_kept ho hB1
    have t1 := TxS.below hB1 hsr
    have hs1 := t1.sz hsr
    clear hB1
    have hTr := (hT.tx HS.out (Nat.le_refl _)).tx t1 (Nat.le_refl _)
    go_wp2_with fail
    refine (appendBack_any w.heap.size _ K x' y' z W1 ho1 hs1 hTr (by omega) (by omega) (by omega)).mono ?_
    rintro e w5 ⟨v5, rfl, ho5, st5⟩
    have HO5 : Hid (ownB w5 w.heap.size v5 (backsT l (i + 1))) := by unfold Hid; rw [HSU.out, HK.out]; exact ho5
    have HS5 := hide (HS.out.trans (t1.trans st5))
    clear ho ho1 ho5 st5 t1 hTr hc0 hc1 hc2 bxr n0 n1 n2 bxn
    go_wp2
    go_roundw
    case rel => exact ⟨i + 1, by omega, by go_num, HO5.out, HS5.out⟩
    case measure => simp [intOf]; omega
   ·have hie : i = l.length := by omega
    subst hie
    have z1 : ¬ ((l.length : Int) < (l.length : Int)) := by omega
    have bel := (t0.trans sr).bel
    have hcr : wr.cell? ⟨bR, offR + 0, none⟩ = some (.slice oT 8 cT) := (bel.cell (p := ⟨bR, offR + 0, none⟩) hbR).trans hcR
    rw [Nat.add_zero] at hcr
    have c2 : wr.cell? ⟨w.heap.size, 2, none⟩ = some (.slice (some ⟨bR, offR, none⟩) lll.length cR) := cellT bxr 2 _ rfl
    have zr1 : (0 : Int) < (lll.length : Int) := by omega
    have hT3 := hT.tx sr (Nat.le_refl _)
    have HS := hide (t0.trans sr)
    have HO := hide ho
    obtain ⟨K, hK⟩ : ∃ q, backsT l l.length = q := ⟨_, rfl⟩
    rw [hK] at HO hbl HE
    clear hK sr ho bel hcR bx t0 hT bxc1
    go_wp2
    go_loopw [3, 27] (fun tv iv wq => ∃ i : Nat, i ≤ 8 ∧ iv = .int .i64 i ∧ ownB wq w.heap.size tv (K ++ linesT (lll.getD 0 []) i) ∧ TxS w.heap.size wr wq)
     (fun _ iv _ => 8 - (intOf iv).toNat)
    case atStart => exact ⟨0, by omega, rfl, by simpa [linesT] using HO.out, TxS.refl _ _⟩
    case round =>
     rename World => wq
     obtain ⟨i, hi, rfl, ho, sq⟩ := hrel
     have hsq := sq.sz hsr
     have hll := HLL.out i hi
     by_cases hlt2 : i < 8
     ·obtain ⟨g, off, oP, cP, e0, hgl, hcp, hRP⟩ := hRT.at (Nat.le_refl _) i (by omega)
      subst e0
      have bel := (HS.out.trans sq).bel
      obtain ⟨p, hp⟩ : ∃ p, (lll.getD 0 []).getD i [] = p := ⟨_, rfl⟩
      have hpo := HPR.out i hlt2
      have HSU := hide (show linesT (lll.getD 0 []) (i + 1) = linesT (lll.getD 0 []) i ++ bucketT i ((lll.getD 0 []).getD i []) from rfl)
      rw [hp] at hcp hRP hpo HSU
      obtain ⟨hp2, hpi⟩ := pairOk_parts hpo
      have hcq : wq.cell? ⟨g, off + i, none⟩ = some (.slice oP p.length cP) := (bel.cell (p := ⟨g, off + i, none⟩) hgl).trans hcp
      have hRq := hRP.kept bel (Nat.le_refl _)
      have z2 : (i : Int) < 8 := by omega
      obtain ⟨M, hM⟩ : ∃ q, K ++ linesT (lll.getD 0 []) i = q := ⟨_, rfl⟩
      have hMl : M.length ≤ 200000000 := by rw [← hM, List.length_append]; omega
      rw [hM] at ho
      have HM := hide hM
      have HQ := hide sq
      have hTq := hT3.tx sq (Nat.le_refl _)
      clear hM sq hcp hRP hp hpo bel
      go_wp2_with fail
      refine (appendBucket_any w.heap.size _ M i oP cP p wq ho hsq hTq (by omega) hRq hp2 hpi (by omega)).mono ?_
      rintro e w5 ⟨v5, rfl, ho5, st5⟩
      have HO5 : Hid (ownB w5 w.heap.size v5 (K ++ linesT (lll.getD 0 []) (i + 1))) := by unfold Hid; rw [HSU.out, ← List.append_assoc, HM.out]; exact ho5
      have HS5 := hide (HQ.out.trans st5)
      clear ho ho5 st5 hTq hcq hRq
      go_wp2
      go_roundw
      case rel => exact ⟨i + 1, by omega, by go_num, HO5.out, HS5.out⟩
      case measure => simp [intOf]; omega
     ·have hie : i = 8 := by omega
      subst hie
      have HX := hide ho
      have HT2 := hide (HS.out.trans sq)
      clear ho sq
      go_wp2
      go_ret
      exact ⟨_, rfl, by rw [HE.out]; exact HX.out, HT2.out⟩

end Go.Proofs.YtmmhgkkcpjhiiaaDoor

/- Pools as text, the model's. -/
namespace Go.Proofs.YtmmhgkkcpjhiiaaDoor
open Go.ChangeShapes Go.WideShapes Go.ChangeAt Go.RowKit Go.Joins
set_option linter.unusedVariables false
set_option linter.unusedSimpArgs false


set_option maxRecDepth 100000 in
set_option maxHeartbeats 4000000 in
theorem specPoolText_go (key : Int) (o : Option Addr) (cap : Nat) (l : List Bk) (oR : Option Addr) (cR : Nat) (lll : List (List (List Int))) (w : World) (hR : RdK w.heap.size w o l) (hG : RiR 0 w.heap.size w (.slice oR lll.length cR) lll) (hf : fitPm ⟨key, l, lll⟩) :
  Calls Tryd.prog 15 #[plv key (.slice o l.length cap) (.slice oR lll.length cR)] w fun e w' => ∃ v, e = .returned v ∧ ownB w' w.heap.size v (poolT ⟨key, l, lll⟩) ∧ TxS w.heap.size w w' := by
 obtain ⟨W0, hW0⟩ : ∃ W, (w.alloc (.cells #[.int .i64 key, .slice o l.length cap, .slice oR lll.length cR] 49)) = W := ⟨_, rfl⟩
 have bx : W0.heap[w.heap.size]? = some (.cells #[.int .i64 key, .slice o l.length cap, .slice oR lll.length cR] 49 (0, 0)) := by rw [← hW0]; exact heap_alloc_new w _
 have hB0 : Below w.heap.size w W0 := by rw [← hW0]; exact (Below.refl _ _).alloc (Nat.le_refl _) _
 have t0 : TxS w.heap.size w W0 := TxS.below hB0 (Nat.le_refl _)
 have HOK := hide (specPoolOk_sh (plv key (.slice o l.length cap) (.slice oR lll.length cR)) ⟨key, l, lll⟩ W0 ⟨_, _, rfl, RiV.of ((hR.kept hB0 (Nat.le_refl _)).le hB0.size), RiR.mon.go (RiR.stp.go hG (Stp.of (lo := 0) (hi := 0) hB0) (.inl (Nat.zero_le _))) (Nat.le_refl _) hB0.size⟩ hf)
 have hs0 := t0.sz (Nat.le_refl _)
 clear hB0
 have hl20 : l.length ≤ 1048576 := hf.1
 have bxc0 : W0.cell? ⟨w.heap.size, 0, none⟩ = some (.int .i64 key) := cellT bx 0 _ rfl
 have bxc1 : W0.cell? ⟨w.heap.size, 1, none⟩ = some (.slice o l.length cap) := cellT bx 1 _ rfl
 have bxc2 : W0.cell? ⟨w.heap.size, 2, none⟩ = some (.slice oR lll.length cR) := cellT bx 2 _ rfl
 obtain ⟨B, hB⟩ : ∃ B, poolB ⟨key, l, lll⟩ = B := ⟨_, rfl⟩
 rw [hB] at HOK
 cases B with
 | false =>
  have HN := hide (poolT_no hB)
  clear hB hf
  go_enter Tryd.func15, Tryd.ntmps15
  go_wp2_with fail
  refine HOK.out.mono ?_
  rintro e y ⟨rfl, hb⟩
  have st := TxS.below hb hs0
  have HX := hide (t0.trans st)
  clear st hb bx bxc0 bxc1 bxc2
  go_wp2
  go_ret
  exact ⟨_, rfl, by rw [HN.out]; exact World.ownsRow_nil _ _ _ _, HX.out⟩
 | true =>
  have HE := hide (poolT_yes hB)
  obtain ⟨hbk, hr1, hr8, hpr⟩ := pool_facts hB
  dsimp only at hbk hr1 hr8 hpr
  have HBL := hide (backsT_len hbk)
  have HLL := hide (linesT_len hpr)
  have HBK := hide hbk
  have HPR := hide hpr
  obtain ⟨bR, offR, oT, cT, hoR, hbR, hcR, hRT⟩ := hG.at (Nat.le_refl _) 0 (by omega)
  subst hoR
  rw [hr8] at hcR
  clear hB hf hbk hpr hG
  go_enter Tryd.func15, Tryd.ntmps15
  go_wp2_with fail
  refine HOK.out.mono ?_
  rintro e y0 ⟨rfl, hb0⟩
  have st0 := TxS.below hb0 hs0
  clear bxc0 bxc1 bxc2
  replace bx := st0.box bx (by decide)
  replace t0 := t0.trans st0
  replace hs0 := st0.sz hs0
  clear st0 hb0 HOK
  have bxc1 : y0.cell? ⟨w.heap.size, 1, none⟩ = some (.slice o l.length cap) := cellT bx 1 _ rfl
  have hnil : ownB y0 w.heap.size (.slice none 0 0) ([] : List Int) := World.ownsRow_nil _ _ _ _
  have HNIL := hide hnil
  clear hnil
  go_wp2
  go_loopw [3, 4] (fun tv iv wr => ∃ i : Nat, i ≤ l.length ∧ iv = .int .i64 i ∧ ownB wr w.heap.size tv (backsT l i) ∧ TxS w.heap.size y0 wr)
   (fun _ iv _ => l.length - (intOf iv).toNat)
  case atStart => exact ⟨0, Nat.zero_le _, rfl, HNIL.out, TxS.refl _ _⟩
  case round =>
   obtain ⟨i, hi, rfl, ho, sr⟩ := hrel
   have bxr := sr.box bx (by decide)
   have hsr := sr.sz hs0
   have hbl := HBL.out i hi
   have xc1 : wr.cell? ⟨w.heap.size, 1, none⟩ = some (.slice o l.length cap) := cellT bxr 1 _ rfl
   by_cases hlt : i < l.length
   ·obtain ⟨g, off, rfl, hgl, hq0, hq1, hq2⟩ := back_cells hR i hlt
    obtain ⟨x, y, z, hxy⟩ : ∃ x y z, l.getD i (0, 0, false) = (x, y, z) := ⟨_, _, _, rfl⟩
    have hbb := backB_iff.1 (HBK.out i hlt)
    have HSU := hide (show backsT l (i + 1) = backsT l i ++ backT (l.getD i (0, 0, false)).1.toNat (l.getD i (0, 0, false)).2.1.toNat (l.getD i (0, 0, false)).2.2 from rfl)
    rw [hxy] at hq0 hq1 hq2 hbb HSU
    dsimp only at hq0 hq1 hq2 hbb HSU
    obtain ⟨x', rfl⟩ : ∃ q : Nat, x = q := ⟨x.toNat, by omega⟩
    obtain ⟨y', rfl⟩ : ∃ q : Nat, y = q := ⟨y.toNat, by omega⟩
    rw [Int.toNat_natCast, Int.toNat_natCast] at HSU
    have bel := (t0.trans sr).bel
    have hc0 : wr.cell? ⟨g, off + i * 3, none⟩ = some (.int .i64 x') := (bel.cell (p := ⟨g, off + i * 3, none⟩) hgl).trans hq0
    have hc1 : wr.cell? ⟨g, off + i * 3 + 1, none⟩ = some (.int .i64 y') := (bel.cell (p := ⟨g, off + i * 3 + 1, none⟩) hgl).trans hq1
    have hc2 : wr.cell? ⟨g, off + i * 3 + 2, none⟩ = some (.bool z) := (bel.cell (p := ⟨g, off + i * 3 + 2, none⟩) hgl).trans hq2
    have z1 : (i : Int) < (l.length : Int) := by omega
    obtain ⟨K, hK⟩ : ∃ q, backsT l i = q := ⟨_, rfl⟩
    rw [hK] at ho hbl
    have HK := hide hK
    have HS := hide sr
    clear hK sr hq0 hq1 hq2 hxy bel
    obtain ⟨W1, hW1⟩ : ∃ W, (wr.alloc (.cells #[.int .i64 x', .int .i64 y', .bool z] 70)) = W := ⟨_, rfl⟩
    have hB1 : Below wr.heap.size wr W1 := by rw [← hW1]; exact (Below.refl _ _).alloc (Nat.le_refl _) _
    have bxn : W1.heap[wr.heap.size]? = some (.cells #[.int .i64 x', .int .i64 y', .bool z] 70 (0, 0)) := by rw [← hW1]; exact heap_alloc_new wr _
    have n0 : W1.cell? ⟨wr.heap.size, 0, none⟩ = some (.int .i64 x') := cellT bxn 0 _ rfl
    have n1 : W1.cell? ⟨wr.heap.size, 1, none⟩ = some (.int .i64 y') := cellT bxn 1 _ rfl
    have n2 : W1.cell? ⟨wr.heap.size, 2, none⟩ = some (.bool z) := cellT bxn 2 _ rfl
    have ho1 := own_kept ho hB1
    have t1 := TxS.below hB1 hsr
    have hs1 := t1.sz hsr
    clear hB1
    have HDX := hide (fun W => l1digits_any x' (by omega) W)
    have HDY := hide (fun W => l1digits_any y' (by omega) W)
    have hlx := digL_len x'
    have hly := digL_len y'
    obtain ⟨ov, cv, ev, _⟩ := ownB.open (l := K) ho1
    subst ev
    go_wp2
    go_region_law (first | (refine step_append_txt rfl (.tmp 24) _ rfl w.heap.size vap (K ++ [98, 97, 99, 107, 32]) rfl hocp obp cbp (digL x') _ rfl rfl nbp Rbp (by simp only [List.length_append, List.length_cons, List.length_nil]; omega) (Nat.le_trans zap hbbp.size) ?_; intro vdp wdp hodp sdp _; have ttp := (((TxS.refl w.heap.size W1).drew.trans sap).trans (TxS.below hbbp zap)).trans sdp) | (refine step_append_txt rfl (.tmp 24) _ rfl w.heap.size vfp (K ++ [98, 97, 99, 107, 32]) rfl hofp oep cep (digL x') _ rfl rfl nep Rfp (by simp only [List.length_append, List.length_cons, List.length_nil]; omega) (sfp.sz zep) ?_; intro vdp wdp hodp sdp _; have ttp := (((TxS.refl w.heap.size W1).drew.trans (TxS.below (w := W1.drew) hbep hs1)).trans sfp).trans sdp) | (refine step_append_str rfl (.tmp 23) _ rfl w.heap.size (.slice ov K.length cv) K rfl hoep _ [98, 97, 99, 107, 32] rfl rfl (by simp only [List.length_append, List.length_cons, List.length_nil]; omega) zep ?_; intro vfp wfp hofp sfp gfp; have hqfp := own_beside hqep gfp (fun b e => (ho1.lt b e).2); have Rfp := ownB.rdAny hqfp) | (go_simp; go_at_call 22; refine (HDX.out wap).mono ?_; rintro e wbp ⟨qbp, rfl, hqbp, hbbp⟩; obtain ⟨obp, cbp, rfl, Rbp⟩ := hqbp.open; have hocp := own_kept hoap hbbp; have nbp := own_nilB hqbp; dsimp only) | (refine step_append_str rfl (.tmp 23) _ rfl w.heap.size (.slice ov K.length cv) K rfl ho1.drew _ [98, 97, 99, 107, 32] rfl rfl (by simp only [List.length_append, List.length_cons, List.length_nil]; omega) hs1 ?_; intro vap wap hoap sap gap; have bap := sap.box (show W1.drew.heap[wr.heap.size]? = _ from bxn) (by decide); have cap := cellT bap 0 _ rfl; have zap := sap.sz hs1) | (go_simp; go_at_call 22; refine (HDX.out W1.drew).mono ?_; rintro e wep ⟨qep, rfl, hqep, hbep⟩; obtain ⟨oep, cep, rfl, Rep⟩ := hqep.open; have hoep := own_kept ho1.drew hbep; have nep := own_nilB hqep; have zep := Nat.le_trans hs1 hbep.size; dsimp only))
    all_goals (
     obtain ⟨K2, hK2⟩ : ∃ q, (K ++ [98, 97, 99, 107, 32]) ++ digL x' = q := ⟨_, rfl⟩
     rw [hK2] at hodp
     have bK2 : K2.length ≤ 200000000 := by rw [← hK2, List.length_append, List.length_append]; simp only [List.length_cons, List.length_nil]; omega
     have EK2 := hide hK2
     have bx2 := ttp.box bxn (by decide)
     have hs2 := ttp.sz hs1
     have HS2 := hide (HS.out.trans (t1.trans ttp))
     clear hK2 n0 n1 n2
     obtain ⟨ow, cw, ew, _⟩ := ownB.open (l := K2) hodp
     subst ew
     have n1 : wdp.cell? ⟨wr.heap.size, 1, none⟩ = some (.int .i64 y') := cellT bx2 1 _ rfl
     go_wp2
     go_region_law (first | (refine step_append_txt rfl (.tmp 30) _ rfl w.heap.size vaq (K2 ++ [32, 119, 101, 105, 103, 104, 116, 32]) rfl hocq obq cbq (digL y') _ rfl rfl nbq Rbq (by simp only [List.length_append, List.length_cons, List.length_nil]; omega) (Nat.le_trans zaq hbbq.size) ?_; intro vdq wdq hodq sdq _; have ttq := (((TxS.refl w.heap.size wdp).drew.trans saq).trans (TxS.below hbbq zaq)).trans sdq) | (refine step_append_txt rfl (.tmp 30) _ rfl w.heap.size vfq (K2 ++ [32, 119, 101, 105, 103, 104, 116, 32]) rfl hofq oeq ceq (digL y') _ rfl rfl neq Rfq (by simp only [List.length_append, List.length_cons, List.length_nil]; omega) (sfq.sz zeq) ?_; intro vdq wdq hodq sdq _; have ttq := (((TxS.refl w.heap.size wdp).drew.trans (TxS.below (w := wdp.drew) hbeq hs2)).trans sfq).trans sdq) | (refine step_append_str rfl (.tmp 29) _ rfl w.heap.size (.slice ow K2.length cw) K2 rfl hoeq _ [32, 119, 101, 105, 103, 104, 116, 32] rfl rfl (by simp only [List.length_append, List.length_cons, List.length_nil]; omega) zeq ?_; intro vfq wfq hofq sfq gfq; have hqfq := own_beside hqeq gfq (fun b e => (hodp.lt b e).2); have Rfq := ownB.rdAny hqfq) | (go_simp; go_at_call 22; refine (HDY.out waq).mono ?_; rintro e wbq ⟨qbq, rfl, hqbq, hbbq⟩; obtain ⟨obq, cbq, rfl, Rbq⟩ := hqbq.open; have hocq := own_kept hoaq hbbq; have nbq := own_nilB hqbq; dsimp only) | (refine step_append_str rfl (.tmp 29) _ rfl w.heap.size (.slice ow K2.length cw) K2 rfl hodp.drew _ [32, 119, 101, 105, 103, 104, 116, 32] rfl rfl (by simp only [List.length_append, List.length_cons, List.length_nil]; omega) hs2 ?_; intro vaq waq hoaq saq gaq; have baq := saq.box (show wdp.drew.heap[wr.heap.size]? = _ from bx2) (by decide); have caq := cellT baq 1 _ rfl; have zaq := saq.sz hs2) | (go_simp; go_at_call 22; refine (HDY.out wdp.drew).mono ?_; rintro e weq ⟨qeq, rfl, hqeq, hbeq⟩; obtain ⟨oeq, ceq, rfl, Req⟩ := hqeq.open; have hoeq := own_kept hodp.drew hbeq; have neq := own_nilB hqeq; have zeq := Nat.le_trans hs2 hbeq.size; dsimp only))
     all_goals (
      obtain ⟨K4, hK4⟩ : ∃ q, (K2 ++ [32, 119, 101, 105, 103, 104, 116, 32]) ++ digL y' = q := ⟨_, rfl⟩
      rw [hK4] at hodq
      have bK4 : K4.length ≤ 201000000 := by rw [← hK4, List.length_append, List.length_append]; simp only [List.length_cons, List.length_nil]; omega
      have EK4 := hide hK4
      have bx4 := ttq.box bx2 (by decide)
      have hs4 := ttq.sz hs2
      have HS4 := hide (HS2.out.trans ttq)
      clear hK4 n1
      have n2 : wdq.cell? ⟨wr.heap.size, 2, none⟩ = some (.bool z) := cellT bx4 2 _ rfl
      cases z with
      | true =>
       go_wp2_with (at_builtin; refine wpList_append_str rfl _ _ rfl w.heap.size _ K4 rfl hodq _ [32, 100, 114, 97, 105, 110, 115] rfl rfl ?c5 hs4 ?_)
       case c5 => simp only [List.length_cons, List.length_nil]; omega
       intro x5 y5 ho5 st5
       obtain ⟨K5, hK5⟩ : ∃ q, K4 ++ [32, 100, 114, 97, 105, 110, 115] = q := ⟨_, rfl⟩
       rw [hK5] at ho5
       have bK5 : K5.length ≤ 202000000 := by rw [← hK5, List.length_append]; simp only [List.length_cons, List.length_nil]; omega
       have EK5 := hide hK5
       have hs5 := st5.sz hs4
       have HS5 := hide (HS4.out.trans st5)
       clear hK5 hodq st5 n2 bx4
       go_wp2_with (at_builtin; refine wpList_append_one 10 rfl _ _ rfl w.heap.size x5 K5 rfl ho5 rfl ?c6 hs5 ?_)
       case c6 => omega
       intro x6 y6 ho6 st6
       have HO6 : Hid (ownB y6 w.heap.size x6 (backsT l (i + 1))) := by unfold Hid; rw [HSU.out, HK.out, ← backT_eq, EK2.out, EK4.out, show drL true = [32, 100, 114, 97, 105, 110, 115] from rfl, EK5.out]; exact ho6
       have HX := hide (HS5.out.trans st6)
       clear ho5 ho6 st6
       go_wp2
       go_roundw
       case rel => exact ⟨i + 1, by omega, by go_num, HO6.out, HX.out⟩
       case measure => simp [intOf]; omega
      | false =>
       go_wp2_with (at_builtin; refine wpList_append_one 10 rfl _ _ rfl w.heap.size _ K4 rfl hodq rfl ?c6 hs4 ?_)
       case c6 => omega
       intro x6 y6 ho6 st6
       have HO6 : Hid (ownB y6 w.heap.size x6 (backsT l (i + 1))) := by unfold Hid; rw [HSU.out, HK.out, ← backT_eq, EK2.out, EK4.out, show drL false = [] from rfl, List.append_nil]; exact ho6
       have HX := hide (HS4.out.trans st6)
       clear hodq ho6 st6
       go_wp2
       go_roundw
       case rel => exact ⟨i + 1, by omega, by go_num, HO6.out, HX.out⟩
       case measure => simp [intOf]; omega))
   ·have hie : i = l.length := by omega
    subst hie
    have z1 : ¬ ((l.length : Int) < (l.length : Int)) := by omega
    have zr1 : (0 : Int) < (lll.length : Int) := by omega
    rw [Nat.add_zero] at hcR
    have HS := hide (t0.trans sr)
    have HO := hide ho
    obtain ⟨K, hK⟩ : ∃ q, backsT l l.length = q := ⟨_, rfl⟩
    rw [hK] at HO hbl HE
    clear hK sr ho bx t0 bxc1
    go_wp2
    go_loopw [3, 6] (fun tv iv wq => ∃ i : Nat, i ≤ 8 ∧ iv = .int .i64 i ∧ ownB wq w.heap.size tv (K ++ linesT (lll.getD 0 []) i) ∧ TxS w.heap.size wr wq)
     (fun _ iv _ => 8 - (intOf iv).toNat)
    case atStart => exact ⟨0, by omega, rfl, by simpa [linesT] using HO.out, TxS.refl _ _⟩
    case round =>
     rename World => wq
     obtain ⟨i, hi, rfl, ho, sq⟩ := hrel
     have hsq := sq.sz hsr
     have hll := HLL.out i hi
     have bxq := sq.box bxr (by decide)
     have c2 : wq.cell? ⟨w.heap.size, 2, none⟩ = some (.slice (some ⟨bR, offR, none⟩) lll.length cR) := cellT bxq 2 _ rfl
     have hcr : wq.cell? ⟨bR, offR, none⟩ = some (.slice oT 8 cT) := ((HS.out.trans sq).bel.cell (p := ⟨bR, offR, none⟩) hbR).trans hcR
     by_cases hlt2 : i < 8
     ·obtain ⟨g, off, oP, cP, e0, hgl, hcp, hRP⟩ := hRT.at (Nat.le_refl _) i (by omega)
      subst e0
      obtain ⟨p, hp⟩ : ∃ p, (lll.getD 0 []).getD i [] = p := ⟨_, rfl⟩
      have hpo := HPR.out i hlt2
      have HSU := hide (show linesT (lll.getD 0 []) (i + 1) = linesT (lll.getD 0 []) i ++ bucketT i ((lll.getD 0 []).getD i []) from rfl)
      rw [hp] at hcp hRP hpo HSU
      obtain ⟨hp2, hpi⟩ := pairOk_parts hpo
      have HID := hide (fun k (h : k ≤ p.length) => idsT_len hpi k h)
      have HI5 := hide (fun k (h : k < p.length) => (show 0 ≤ p.getD k 0 ∧ p.getD k 0 ≤ 5 by have h9 := hpi k h; unfold idB at h9; rw [Bool.and_eq_true, decide_eq_true_eq, decide_eq_true_eq] at h9; omega))
      have z2 : (i : Int) < 8 := by omega
      obtain ⟨M, hM⟩ : ∃ q, K ++ linesT (lll.getD 0 []) i = q := ⟨_, rfl⟩
      have hMl : M.length ≤ 200000000 := by rw [← hM, List.length_append]; omega
      rw [hM] at ho
      have HM := hide hM
      have HQ := hide (HS.out.trans sq)
      have HQ1 := hide sq
      have HDI := hide (fun W => l1digits_any i (by omega) W)
      have hli := digL_len i
      clear hM sq hp hpo hpi
      go_wp2_with (at_builtin; refine wpList_append_str rfl _ _ rfl w.heap.size _ M rfl ho _ [98, 117, 99, 107, 101, 116, 32] rfl rfl ?d1 hsq ?_)
      case d1 => simp only [List.length_cons, List.length_nil]; omega
      intro x1 y1 ho1 st1
      obtain ⟨K1, hK1⟩ : ∃ q, M ++ [98, 117, 99, 107, 101, 116, 32] = q := ⟨_, rfl⟩
      rw [hK1] at ho1
      have bK1 : K1.length ≤ 200000100 := by rw [← hK1, List.length_append]; simp only [List.length_cons, List.length_nil]; omega
      have EK1 := hide hK1
      clear hK1
      have hs1 := st1.sz hsq
      clear c2 hcr ho
      go_wp2_with fail
      refine (HDI.out y1).mono ?_
      rintro e y2 ⟨q2, rfl, hq2, hb2⟩
      obtain ⟨o2, e2, rfl, R2⟩ := hq2.open
      have nl2 := own_nilB hq2
      have st2 := TxS.below hb2 hs1
      have hp2' := own_kept ho1 hb2
      have hs2 := st2.sz hs1
      clear ho1 hq2 hb2
      go_wp2_with (at_builtin; refine wpList_append_txt rfl _ _ rfl w.heap.size x1 K1 rfl hp2' o2 e2 (digL i) _ rfl rfl nl2 R2 ?d2 hs2 ?_)
      case d2 => omega
      intro x3 y3 ho3 st3
      obtain ⟨K3, hK3⟩ : ∃ q, K1 ++ digL i = q := ⟨_, rfl⟩
      rw [hK3] at ho3
      have bK3 : K3.length ≤ 201000000 := by rw [← hK3, List.length_append]; omega
      have EK3 := hide hK3
      have hs3 := st3.sz hs2
      have s13 := (st1.trans st2).trans st3
      have bx3 := s13.box bxq (by decide)
      have HS3 := hide (HQ.out.trans s13)
      have HS31 := hide (HQ1.out.trans s13)
      have HO3 := hide ho3
      clear hK3 hp2' R2 nl2 st1 st2 st3 s13 bxq ho3
      go_wp2
      go_loopw [3, 7] (fun tv kv wz => ∃ k : Nat, k ≤ p.length ∧ kv = .int .i64 k ∧ ownB wz w.heap.size tv (K3 ++ idsT p k) ∧ TxS w.heap.size y3 wz)
       (fun _ kv _ => p.length - (intOf kv).toNat)
      case atStart => exact ⟨0, Nat.zero_le _, rfl, by simpa [idsT] using HO3.out, TxS.refl _ _⟩
      case round =>
       rename World => wz
       obtain ⟨k, hk, rfl, ho, sz⟩ := hrel
       have hsz := sz.sz hs3
       have hlk := HID.out k hk
       have bxz := sz.box bx3 (by decide)
       have bel := (HS3.out.trans sz).bel
       have c2 : wz.cell? ⟨w.heap.size, 2, none⟩ = some (.slice (some ⟨bR, offR, none⟩) lll.length cR) := cellT bxz 2 _ rfl
       have hcr : wz.cell? ⟨bR, offR, none⟩ = some (.slice (some ⟨g, off, none⟩) 8 cT) := (bel.cell (p := ⟨bR, offR, none⟩) hbR).trans hcR
       have hcq : wz.cell? ⟨g, off + i, none⟩ = some (.slice oP p.length cP) := (bel.cell (p := ⟨g, off + i, none⟩) hgl).trans hcp
       obtain ⟨K5, hK5⟩ : ∃ q, K3 ++ idsT p k = q := ⟨_, rfl⟩
       have bK5 : K5.length ≤ 201000100 := by rw [← hK5, List.length_append]; omega
       rw [hK5] at ho
       have EK5 := hide hK5
       have HZ := hide (HS31.out.trans sz)
       have HZ1 := hide sz
       clear hK5 sz
       by_cases hlt3 : k < p.length
       ·rcases hRP with hRP | ⟨b, of, rfl, hbl2, hcell⟩
        ·subst hRP; simp at hlt3
        have hc0 := RdL.int hcell k hlt3
        obtain ⟨h5a, h5b⟩ := HI5.out k hlt3
        obtain ⟨x, hx⟩ : ∃ x : Nat, p.getD k 0 = x := ⟨(p.getD k 0).toNat, by omega⟩
        have HSV := hide (show idsT p (k + 1) = idsT p k ++ ([32] ++ digL x) by rw [show (x : Nat) = (p.getD k 0).toNat by omega]; rfl)
        rw [hx] at hc0 h5a h5b
        have hcp2 : wz.cell? ⟨b, of + k, none⟩ = some (.int .i64 x) := (bel.cell (p := ⟨b, of + k, none⟩) hbl2).trans hc0
        have z3 : (k : Int) < (p.length : Int) := by omega
        have HD := hide (fun W => l1digits_any x (by omega) W)
        have hlx := digL_len x
        have hzA : ∀ O, w.heap.size ≤ (wz.drew.alloc O).heap.size := fun O => Nat.le_trans hsz ((Below.refl wz.drew.heap.size wz.drew).alloc (Nat.le_refl _) O).size
        have bA : ∀ O, Below wz.heap.size wz (wz.drew.alloc O) := fun O => ((Below.refl wz.heap.size wz).drew).alloc (Nat.le_refl _) O
        have bA2 : ∀ O, Below wz.heap.size wz (wz.alloc O) := fun O => (Below.refl wz.heap.size wz).alloc (Nat.le_refl _) O
        have l2 : w.heap.size < wz.heap.size := (Array.getElem?_eq_some_iff.1 bxz).1
        have f2 : ∀ O, (wz.alloc O).cell? ⟨w.heap.size, 2, none⟩ = some (.slice (some ⟨bR, offR, none⟩) lll.length cR) := fun O => ((bA2 O).cell (p := ⟨w.heap.size, 2, none⟩) l2).trans c2
        have fr : ∀ O, (wz.alloc O).cell? ⟨bR, offR, none⟩ = some (.slice (some ⟨g, off, none⟩) 8 cT) := fun O => ((bA2 O).cell (p := ⟨bR, offR, none⟩) (Nat.lt_trans hbR l2)).trans hcr
        have fq : ∀ O, (wz.alloc O).cell? ⟨g, off + i, none⟩ = some (.slice (some ⟨b, of, none⟩) p.length cP) := fun O => ((bA2 O).cell (p := ⟨g, off + i, none⟩) (Nat.lt_trans hgl l2)).trans hcq
        have fp : ∀ O, (wz.alloc O).cell? ⟨b, of + k, none⟩ = some (.int .i64 x) := fun O => ((bA2 O).cell (p := ⟨b, of + k, none⟩) (Nat.lt_trans hbl2 l2)).trans hcp2
        have HBA := hide bA
        have zn1 : 0 < lll.length := by omega
        clear hcell hc0 hx bel bA bA2
        obtain ⟨ov, cv, ev, _⟩ := ownB.open (l := K5) ho
        subst ev
        go_wp2
        go_region_law (first | (refine step_append_txt rfl (.tmp 70) _ rfl w.heap.size vaz (K5 ++ [32]) rfl hocz obz cbz (digL x) _ rfl rfl nbz Rbz (by simp only [List.length_append, List.length_cons, List.length_nil]; omega) (Nat.le_trans zaz hbbz.size) ?_; intro vdz wdz hodz sdz _; have ttz := (tAz.trans (TxS.below hbbz zaz)).trans sdz) | (refine step_append_txt rfl (.tmp 70) _ rfl w.heap.size vfz (K5 ++ [32]) rfl hofz ocz ccz (digL x) _ rfl rfl ncz Rfz (by simp only [List.length_append, List.length_cons, List.length_nil]; omega) (sfz.sz zcz) ?_; intro vdz wdz hodz sdz _; have ttz := (tCz.trans sfz).trans sdz) | (refine step_append_txt rfl (.tmp 70) _ rfl w.heap.size vgz (K5 ++ [32]) rfl hogz oez cez (digL x) _ rfl rfl nez Rgz (by simp only [List.length_append, List.length_cons, List.length_nil]; omega) (sgz.sz zgz) ?_; intro vdz wdz hodz sdz _; have ttz := (tEz.trans sgz).trans sdz) | (refine step_append_txt rfl (.tmp 68) _ rfl w.heap.size (.slice ov K5.length cv) K5 rfl hoc2z (some ⟨wz.heap.size, 0, none⟩) 1 [32] _ rfl rfl (fun h => by cases h) Rkz (by simp only [List.length_append, List.length_cons, List.length_nil]; omega) zcz ?_; intro vfz wfz hofz sfz gfz; have hqfz := own_beside hqcz gfz (fun b e => Nat.lt_of_lt_of_le (ho.lt b e).2 (HBA.out (.cells #[.int .u8 32] 5)).size); have Rfz := ownB.rdAny hqfz) | (refine step_append_txt rfl (.tmp 68) _ rfl w.heap.size (.slice ov K5.length cv) K5 rfl (own_kept hoez ((Below.refl _ _).alloc (Nat.le_refl _) _)) (some ⟨wez.heap.size, 0, none⟩) 1 [32] _ rfl rfl (fun h => by cases h) (rd_built wez 32) (by simp only [List.length_append, List.length_cons, List.length_nil]; omega) (Nat.le_trans zez ((Below.refl wez.heap.size wez).alloc (Nat.le_refl _) (.cells #[.int .u8 32] 5)).size) ?_; intro vgz wgz hogz sgz ggz; have hqgz := own_beside (own_kept hqez ((Below.refl _ _).alloc (Nat.le_refl _) _)) ggz (fun b e => (ho.lt b e).2); have Rgz := ownB.rdAny hqgz; have tEz := ((TxS.refl w.heap.size wz).drew.trans (TxS.below (w := wz.drew) hbez hsz)).trans (TxS.below ((Below.refl wez.heap.size wez).alloc (Nat.le_refl _) (.cells #[.int .u8 32] 5)) zez); have zgz := tEz.sz hsz) | (refine step_append_txt rfl (.tmp 68) _ rfl w.heap.size (.slice ov K5.length cv) K5 rfl (own_kept ho.drew ((Below.refl _ _).alloc (Nat.le_refl _) _)) (some ⟨wz.heap.size, 0, none⟩) 1 [32] _ rfl rfl (fun h => by cases h) (rd_built wz.drew 32) (by simp only [List.length_append, List.length_cons, List.length_nil]; omega) (hzA _) ?_; intro vaz waz hoaz saz gaz; have tAz := (TxS.below (HBA.out (.cells #[.int .u8 32] 5)) hsz).trans saz; have zaz := saz.sz (hzA _); have a2z : waz.cell? ⟨w.heap.size, 2, none⟩ = some (.slice (some ⟨bR, offR, none⟩) lll.length cR) := cellT (tAz.box bxz (by decide)) 2 _ rfl; have arz : waz.cell? ⟨bR, offR, none⟩ = some (.slice (some ⟨g, off, none⟩) 8 cT) := (tAz.bel.cell (p := ⟨bR, offR, none⟩) hbR).trans hcr; have aqz : waz.cell? ⟨g, off + i, none⟩ = some (.slice (some ⟨b, of, none⟩) p.length cP) := (tAz.bel.cell (p := ⟨g, off + i, none⟩) hgl).trans hcq; have apz : waz.cell? ⟨b, of + k, none⟩ = some (.int .i64 x) := (tAz.bel.cell (p := ⟨b, of + k, none⟩) hbl2).trans hcp2) | (go_simp; go_at_call 22; refine (HD.out waz).mono ?_; rintro e wbz ⟨qbz, rfl, hqbz, hbbz⟩; obtain ⟨obz, cbz, rfl, Rbz⟩ := hqbz.open; have hocz := own_kept hoaz hbbz; have nbz := own_nilB hqbz; dsimp only) | (go_simp; go_at_call 22; refine (HD.out (wz.drew.alloc (.cells #[.int .u8 32] 5))).mono ?_; rintro e wcz ⟨qcz, rfl, hqcz, hbcz⟩; obtain ⟨ocz, ccz, rfl, Rcz⟩ := hqcz.open; have hoc2z := own_kept (own_kept ho.drew ((Below.refl wz.drew.heap.size wz.drew).alloc (Nat.le_refl _) (.cells #[.int .u8 32] 5))) hbcz; have ncz := own_nilB hqcz; have tCz := (TxS.below (HBA.out (.cells #[.int .u8 32] 5)) hsz).trans (TxS.below hbcz (hzA _)); have zcz := tCz.sz hsz; have Rkz := ownB.rdAny (own_kept (own_built wz.drew wz.drew.heap.size 32 (Nat.le_refl _)) hbcz); dsimp only) | (go_simp; go_at_call 22; refine (HD.out wz.drew).mono ?_; rintro e wez ⟨qez, rfl, hqez, hbez⟩; obtain ⟨oez, cez, rfl, Rez⟩ := hqez.open; have hoez := own_kept ho.drew hbez; have nez := own_nilB hqez; have zez := Nat.le_trans hsz hbez.size; dsimp only))
        all_goals (
         have HO6 : Hid (ownB wdz w.heap.size vdz (K3 ++ idsT p (k + 1))) := by unfold Hid; rw [HSV.out, ← List.append_assoc, ← List.append_assoc, EK5.out]; exact hodz
         have HZ6 := hide (HZ1.out.trans ttz)
         clear hodz ttz
         go_wp2
         go_roundw
         all_goals first
          | exact ⟨k + 1, by omega, by go_num, HO6.out, HZ6.out⟩
          | (simp [intOf]; omega))
       ·have hke : k = p.length := by omega
        subst hke
        have z3 : ¬ ((p.length : Int) < (p.length : Int)) := by omega
        clear hRP bel
        go_wp2_with (at_builtin; refine wpList_append_one 10 rfl _ _ rfl w.heap.size _ K5 rfl ho rfl ?d6 hsz ?_)
        case d6 => omega
        intro x6 y6 ho6 st6
        have HO6 : Hid (ownB y6 w.heap.size x6 (K ++ linesT (lll.getD 0 []) (i + 1))) := by unfold Hid; rw [HSU.out, ← List.append_assoc, HM.out, ← bucketT_eq, EK1.out, EK3.out, EK5.out]; exact ho6
        have HZ6 := hide (HZ.out.trans st6)
        clear ho ho6 st6
        go_wp2
        go_roundw
        case rel => exact ⟨i + 1, by omega, by go_num, HO6.out, HZ6.out⟩
        case measure => simp [intOf]; omega
     ·have hie : i = 8 := by omega
      subst hie
      have HX := hide ho
      have HT2 := hide (HS.out.trans sq)
      clear ho sq
      go_wp2
      go_ret
      exact ⟨_, rfl, by rw [HE.out]; exact HX.out, HT2.out⟩

end Go.Proofs.YtmmhgkkcpjhiiaaDoor

/- Contracts of the laws' own helpers over bytes: szByteS, toByteS, eqByteS. -/
namespace Go.Proofs.YtmmhgkkcpjhiiaaDoor
open Go.ChangeShapes Go.WideShapes Go.ChangeAt Go.RowKit Go.Joins
set_option linter.unusedVariables false
set_option linter.unusedSimpArgs false

set_option maxHeartbeats 1000000 in
theorem eqByteS_any (o1 o2 : Option Addr) (c1 c2 : Nat) (l1 l2 : List Int) (w : World) (h1 : Rd w o1 l1) (h2 : Rd w o2 l2) (hl1 : l1.length ≤ 1048576) (hl2 : l2.length ≤ 1048576) :
  Calls Tryd.prog 9 #[.slice o1 l1.length c1, .slice o2 l2.length c2] w fun e w' => e = .returned (.bool (decide (l1 = l2))) ∧ Below w.heap.size w w' := by
 by_cases hlen : l1.length = l2.length
 ·have hne : ((l1.length : Int) != (l2.length : Int)) = false := by simp [hlen]
  have HL := hide hlen
  have hle : l1.length ≤ l2.length := by omega
  have hge : l2.length ≤ l1.length := by omega
  clear hlen
  go_enter Tryd.func9, Tryd.ntmps9
  go_wp2
  go_loopw [5] (fun i wr => ∃ k : Nat, k ≤ l1.length ∧ i = .int .i64 k ∧ l1.take k = l2.take k ∧ Below w.heap.size w wr)
   (fun i _ => l1.length - (intOf i).toNat)
  case atStart => exact ⟨0, Nat.zero_le _, rfl, rfl, Below.refl _ _⟩
  case round =>
   obtain ⟨k, hk, rfl, htk, hBr⟩ := hrel
   have HT := hide htk
   by_cases hlt : k < l1.length
   ·rcases h1 with h1 | ⟨b1, off1, rfl, hb1, hcell1⟩
    ·subst h1; simp at hlt
    rcases h2 with h2 | ⟨b2, off2, rfl, hb2, hcell2⟩
    ·subst h2; simp at hle; simp [hle] at hlt
    have hlt2 : k < l2.length := by omega
    have hc1 : wr.cell? ⟨b1, off1 + k, none⟩ = some (.int .u8 (l1.getD k 0)) := (hBr.cell (p := ⟨b1, off1 + k, none⟩) hb1).trans (hcell1 k hlt)
    have hc2 : wr.cell? ⟨b2, off2 + k, none⟩ = some (.int .u8 (l2.getD k 0)) := (hBr.cell (p := ⟨b2, off2 + k, none⟩) hb2).trans (hcell2 k (by omega))
    have HB := hide hBr
    have t1 := hide (take_succ_getD l1 k hlt)
    have t2 := hide (take_succ_getD l2 k hlt2)
    have n12 : l1 = l2 → l1.getD k 0 = l2.getD k 0 := fun h => by rw [h]
    have N12 := hide n12
    clear n12 hcell1 hcell2
    have i1 : (k : Int) < (l1.length : Int) := by omega
    have i2 : (k : Int) < (l2.length : Int) := by omega
    generalize l1.getD k 0 = x at *
    generalize l2.getD k 0 = y at *
    clear htk hBr
    by_cases hxy : x = y
    ·have hb : (x != y) = false := by simp [hxy]
     have HX := hide hxy
     clear hxy N12
     go_wp2
     go_quiet (fail)
     go_wp2
     go_roundw
     case rel =>
      refine ⟨k + 1, by omega, by go_num, ?_, ?_⟩
      ·rw [t1.out, t2.out, HT.out, HX.out]
      ·exact below_drewN HB.out _
     case measure => simp [intOf]; omega
    ·have hb : (x != y) = true := by simp [hxy]
     have HX : Hid (l1 ≠ l2) := fun h => hxy (N12.out h)
     clear hxy N12 t1 t2
     go_wp2
     go_quiet (fail)
     go_wp2
     go_ret
     exact ⟨ret_bool (decide_eq_false HX.out).symm, below_drewN HB.out _⟩
   ·have e : l1 = l2 := by
     have := htk; rw [List.take_of_length_le (by omega), List.take_of_length_le (by omega)] at this; exact this
    have HE := hide e
    have HB := hide hBr
    clear e htk hBr
    go_wp2
    go_ret
    exact ⟨ret_bool (decide_eq_true HE.out).symm, HB.out⟩
 ·have hne : ((l1.length : Int) != (l2.length : Int)) = true := by simp; omega
  have HE : Hid (l1 ≠ l2) := fun h => hlen (by rw [h])
  go_enter Tryd.func9, Tryd.ntmps9
  go_wp2
  go_ret
  exact ⟨ret_bool (decide_eq_false HE.out).symm, Below.refl _ _⟩

theorem eqByteS_same (o1 o2 : Option Addr) (c1 c2 : Nat) (l : List Int) (w : World) (h1 : Rd w o1 l) (h2 : Rd w o2 l) (hl : l.length ≤ 1048576) :
  Calls Tryd.prog 9 #[.slice o1 l.length c1, .slice o2 l.length c2] w fun e w' => e = .returned (.bool true) ∧ Below w.heap.size w w' := by
 have := eqByteS_any o1 o2 c1 c2 l l w h1 h2 hl hl
 simpa using this

end Go.Proofs.YtmmhgkkcpjhiiaaDoor

/- The laws' marks: a row is filled with numbers that go up, and held against them. -/
namespace Go.Proofs.YtmmhgkkcpjhiiaaDoor
open Go.ChangeShapes Go.WideShapes Go.ChangeAt Go.RowKit Go.Joins
set_option linter.unusedVariables false
set_option linter.unusedSimpArgs false

def markL (k : Int) (n : Nat) : List Int := (List.range n).map (fun (i : Nat) => (k + (i : Int)) % 256)
theorem markL_length (k : Int) (n : Nat) : (markL k n).length = n := by simp [markL]
theorem markL_get (k : Int) (n i : Nat) (h : i < n) : (markL k n).getD i 0 = (k + (i : Int)) % 256 := by simp [markL, h]
def markTo (l : List Int) (k : Int) (i : Nat) : List Int := markL k i ++ l.drop i
theorem markTo_zero (l : List Int) (k : Int) : markTo l k 0 = l := by simp [markTo, markL]
theorem markTo_all (l : List Int) (k : Int) : markTo l k l.length = markL k l.length := by simp [markTo]
theorem markTo_length (l : List Int) (k : Int) (i : Nat) (h : i ≤ l.length) : (markTo l k i).length = l.length := by simp [markTo, markL]; omega
theorem markTo_set (l : List Int) (k : Int) (i : Nat) (h : i < l.length) : ((markTo l k i).map (Value.int .u8)).set i (.int .u8 ((k + (i : Int)) % 256)) = (markTo l k (i + 1)).map (Value.int .u8) := by
 rw [← List.map_set]
 congr 1
 have e2 : (markL k i).length = i := markL_length k i
 unfold markTo
 rw [List.drop_eq_getElem_cons h, List.set_append_right _ _ (by omega), e2, Nat.sub_self, List.set_cons_zero]
 have e3 : markL k (i + 1) = markL k i ++ [(k + (i : Int)) % 256] := by simp [markL, List.range_succ]
 rw [e3, List.append_assoc]
 rfl

theorem mark_step {w wr : World} {base g cap : Nat} {l : List Int} {k : Int} {i : Nat} (hi : i < l.length) (hown : wr.ownsRow base 5 1 (.slice (some ⟨g, 0, none⟩) l.length cap) l.length ((markTo l k i).map (Value.int .u8)))
  (hg : w.grownBy wr (some g)) : (wr.setCell ⟨g, i, none⟩ (.int .u8 ((k + (i : Int)) % 256))).ownsRow base 5 1 (.slice (some ⟨g, 0, none⟩) l.length cap) l.length ((markTo l k (i + 1)).map (Value.int .u8)) ∧
   w.grownBy (wr.setCell ⟨g, i, none⟩ (.int .u8 ((k + (i : Int)) % 256))) (some g) := by
 have h := hown.stored i (.int .u8 ((k + (i : Int)) % 256))
 rw [markTo_set l k i hi] at h
 exact ⟨h.1, ⟨hg.os, hg.tape, hg.output, by have := h.2.size; have := hg.size; omega, fun j hj hne => (h.2.block j (Nat.lt_of_lt_of_le hj hg.size) hne).trans (hg.block j hj hne)⟩⟩

set_option maxHeartbeats 1000000 in
theorem markByteS_any (base : Nat) (v : Value) (l : List Int) (k : Int) (w : World) (hv : ownB w base v l) (h0 : 0 ≤ k) (h1 : k ≤ 1073741824) (hlen : l.length ≤ 1048576) :
  Calls Tryd.prog 12 #[v, .int .i64 k] w fun e w' => e = .returned (.int .i64 (k + l.length)) ∧ ownB w' base v (markL k l.length) ∧ w.grownBy w' v.ownBlock := by
 rcases hv.2 with ⟨rfl, h2⟩ | ⟨g, cap, cur, rfl, hg, _⟩
 ·have e : l = [] := List.eq_nil_of_length_eq_zero h2
  subst e
  go_enter Tryd.func12, Tryd.ntmps12
  go_wp2
  refine wp_loop_rounds 1 ?_
  rw [rounds_succ]
  go_wp2
  go_ret
  exact ⟨by simp, by simpa [markL] using hv, World.grownBy.refl _ _⟩
 ·go_enter Tryd.func12, Tryd.ntmps12
  go_wp2
  have hv0 : w.ownsRow base 5 1 (.slice (some ⟨g, 0, none⟩) l.length cap) l.length ((markTo l k 0).map (Value.int .u8)) := by rw [markTo_zero]; exact hv
  go_loopw [1, 5] (fun m j wr => ∃ i : Nat, i ≤ l.length ∧ j = .int .i64 i ∧ m = .int .i64 (k + (i : Int)) ∧ wr.ownsRow base 5 1 (.slice (some ⟨g, 0, none⟩) l.length cap) l.length ((markTo l k i).map (Value.int .u8)) ∧ w.grownBy wr (some g))
   (fun _ j _ => l.length - (intOf j).toNat)
  case atStart => exact ⟨0, Nat.zero_le _, rfl, by simp, hv0, World.grownBy.refl _ _⟩
  case round =>
   obtain ⟨i, hi, rfl, rfl, hown, hgr⟩ := hrel
   by_cases hlt : i < l.length
   ·have hcl := hown.cellAt i (by omega)
    have hfr := hown.frozenAt i
    obtain ⟨u, hu⟩ : ∃ u, wr.cell? ⟨g, i, none⟩ = some u := ⟨_, hcl.trans (List.getElem?_eq_getElem (by simp [markTo_length l k i hi]; omega))⟩
    have R := hide (mark_step hlt hown hgr)
    clear hcl hown hgr hv hv0
    go_wp2
    go_roundw
    case rel => exact ⟨i + 1, by omega, by go_num, by go_num, R.out.1, R.out.2⟩
    case measure => simp [intOf]; omega
   ·have e : i = l.length := by omega
    subst e
    rw [markTo_all] at hown
    have HO := hide hown
    clear hown
    go_wp2
    go_ret
    exact ⟨rfl, by unfold ownB; rw [markL_length]; exact HO.out, hgr⟩

set_option maxHeartbeats 1000000 in
theorem heldByteS_any (o : Option Addr) (cap n : Nat) (k : Int) (w : World) (hR : Rd w o (markL k n)) (h0 : 0 ≤ k) (h1 : k ≤ 1073741824) (hlen : n ≤ 1048576) :
  Calls Tryd.prog 13 #[.slice o n cap, .int .i64 k] w fun e w' => e = .returned (.int .i64 (k + n)) ∧ w = w' := by
 go_enter Tryd.func13, Tryd.ntmps13
 go_wp2
 go_loop [1, 5] (fun m j => ∃ i : Nat, i ≤ n ∧ j = .int .i64 i ∧ m = .int .i64 (k + (i : Int)))
  (fun _ j => n - (intOf j).toNat)
 case atStart => exact ⟨0, Nat.zero_le _, rfl, by simp⟩
 case round =>
  obtain ⟨i, hi, rfl, rfl⟩ := hrel
  by_cases hlt : i < n
  ·rcases hR with hR | ⟨b, off, rfl, hbl, hcell⟩
   ·have := markL_length k n; rw [hR] at this; simp at this; omega
   have hc := hcell i (by rw [markL_length]; exact hlt)
   rw [markL_get k n i hlt] at hc
   clear hcell
   go_wp2
   go_round
   case rel => exact ⟨i + 1, by omega, by go_num, by go_num⟩
   case measure => simp [intOf]; omega
  ·have e : i = n := by omega
   subst e
   go_wp2
   go_ret
   exact ⟨rfl, rfl⟩

end Go.Proofs.YtmmhgkkcpjhiiaaDoor

/- Bytes by layout, and the laws' own helpers over them, in the words of Fr. -/
namespace Go.Proofs.YtmmhgkkcpjhiiaaDoor
open Go.ChangeShapes Go.WideShapes Go.ChangeAt Go.RowKit Go.Joins
set_option linter.unusedVariables false
set_option linter.unusedSimpArgs false

def layB : Lay Int := ⟨1, fun a => [.int .u8 a], 0, fun _ => rfl⟩
theorem flat_bytes : ∀ l : List Int, l.flatMap layB.cs = l.map (Value.int .u8)
 | [] => rfl
 | a :: l => by rw [List.flatMap_cons, flat_bytes l]; rfl
theorem ownB_lay {w : World} {base : Nat} {v : Value} {l : List Int} : ownB w base v l ↔ ownL layB 5 w base v l := by
 unfold ownB ownL; rw [flat_bytes]; exact Iff.rfl
theorem RdB_lay {C : Nat} {w : World} {o : Option Addr} {l : List Int} : RdB C w o l ↔ RdL layB C w o l := by
 constructor
 ·rintro (h | ⟨b, off, ho, hb, r⟩)
  ·exact .inl h
  ·refine .inr ⟨b, off, ho, hb, fun i hi j hj => ?_⟩
   have hj0 : j = 0 := by have : j < 1 := hj; omega
   subst hj0
   have := r i hi
   rw [show layB.k = 1 from rfl, Nat.mul_one, Nat.add_zero]
   exact this
 ·rintro (h | ⟨b, off, ho, hb, r⟩)
  ·exact .inl h
  ·refine .inr ⟨b, off, ho, hb, fun i hi => ?_⟩
   have := r i hi 0 (by decide)
   rw [show layB.k = 1 from rfl, Nat.mul_one, Nat.add_zero] at this
   exact this
theorem RdB_rd {w : World} {o : Option Addr} {l : List Int} : RdL layB w.heap.size w o l ↔ Rd w o l := RdB_lay.symm
abbrev InB := InL layB 5
theorem InB.of {w : World} {base : Nat} {v : Value} {l : List Int} (h : ownB w base v l) : InB base w.heap.size w v l := InRow.of (ownB_lay.1 h)

theorem eqByteS_sh (v1 v2 : Value) (l : List Int) (w : World) (h1 : RdV layB w.heap.size w v1 l) (h2 : RdV layB w.heap.size w v2 l) (hl : l.length ≤ 1048576) :
  Calls Tryd.prog 9 #[v1, v2] w fun e w' => e = .returned (.bool true) ∧ Below w.heap.size w w' := by
 obtain ⟨o, c, rfl, r⟩ := h1
 obtain ⟨o2, c2, rfl, r2⟩ := h2
 exact eqByteS_same o o2 c c2 l w (RdB_rd.1 r) (RdB_rd.1 r2) hl
theorem markByteS_sh (lo hi : Nat) (v : Value) (l : List Int) (k : Int) (w : World) (hv : InB lo hi w v l) (h0 : 0 ≤ k) (h1 : k ≤ 1073741824) (hlen : l.length ≤ 1048576) :
  Calls Tryd.prog 12 #[v, .int .i64 k] w fun e w' => e = .returned (.int .i64 (k + l.length)) ∧ InB lo hi w' v (markL k l.length) ∧ w.grownBy w' v.ownBlock := by
 refine (markByteS_any lo v l k w (ownB_lay.2 hv.1) h0 h1 hlen).mono ?_
 rintro e w' ⟨rfl, ho, hg⟩
 exact ⟨rfl, ⟨ownB_lay.1 ho, hv.2⟩, hg⟩
theorem heldByteS_sh (v : Value) (n C : Nat) (k : Int) (w : World) (hR : RdV layB C w v (markL k n)) (hn : (markL k n).length = n) (hC : C ≤ w.heap.size) (h0 : 0 ≤ k) (h1 : k ≤ 1073741824) (hlen : n ≤ 1048576) :
  Calls Tryd.prog 13 #[v, .int .i64 k] w fun e w' => e = .returned (.int .i64 (k + n)) ∧ w = w' := by
 obtain ⟨o, c, rfl, r⟩ := hR
 rw [hn]
 exact heldByteS_any o c n k w (RdB_rd.1 (r.le hC)) h0 h1 hlen

end Go.Proofs.YtmmhgkkcpjhiiaaDoor

/- Pools' text, by the shape of pools. -/
namespace Go.Proofs.YtmmhgkkcpjhiiaaDoor
open Go.ChangeShapes Go.WideShapes Go.ChangeAt Go.RowKit Go.Joins
set_option linter.unusedVariables false
set_option linter.unusedSimpArgs false


theorem InPm.cap {lo hi : Nat} {w : World} {v : Value} {m : Pm} (h : InPm lo hi w v m) : True := trivial
theorem poolT_short (m : Pm) : (poolT m).length ≤ 2000 := by
 cases h : poolB m with
 | false => rw [poolT_no h]; simp
 | true =>
  obtain ⟨h1, _, _, h4⟩ := pool_facts h
  have h5 := backsT_len h1 m.l.length (Nat.le_refl _)
  have h6 := linesT_len h4 8 (Nat.le_refl _)
  have hb : backsOkB m.l = true := by
   unfold poolB at h
   simp only [Bool.and_eq_true, decide_eq_true_eq] at h
   exact h.1.1.1.1.2
  have h7 := backs_len hb
  rw [poolT_yes h, List.length_append]
  omega
theorem specPoolText_sh (v : Value) (m : Pm) (w : World) (hR : RdPm w.heap.size w v m) (hf : fitPm m) :
  Calls Tryd.prog 15 #[v] w fun e w' => ∃ v', e = .returned v' ∧ InB w.heap.size w'.heap.size w' v' (poolT m) ∧ Below w.heap.size w w' := by
 obtain ⟨vb, vr, rfl, hb, rr⟩ := hR
 obtain ⟨o, c, rfl, r⟩ := hb.open
 obtain ⟨oR, cR, rfl⟩ := RiR.len rr
 refine (specPoolText_go m.key o c m.l oR cR m.ring w r rr hf).mono ?_
 rintro e w' ⟨v', rfl, ho, st⟩
 exact ⟨v', rfl, InB.of ho, st.bel⟩
theorem implPoolText_sh (v : Value) (m : Pm) (w : World) (hR : RdPm w.heap.size w v m) (hf : fitPm m) (hT : PTab w.heap.size w) :
  Calls Tryd.prog 17 #[v] w fun e w' => ∃ v', e = .returned v' ∧ InB w.heap.size w'.heap.size w' v' (poolT m) ∧ Below w.heap.size w w' := by
 obtain ⟨vb, vr, rfl, hb, rr⟩ := hR
 obtain ⟨o, c, rfl, r⟩ := hb.open
 obtain ⟨oR, cR, rfl⟩ := RiR.len rr
 refine (implPoolText_go m.key o c m.l oR cR m.ring w r rr hf hT).mono ?_
 rintro e w' ⟨v', rfl, ho, st⟩
 exact ⟨v', rfl, InB.of ho, st.bel⟩

end Go.Proofs.YtmmhgkkcpjhiiaaDoor

/- How a pool that comes in is opened. -/
namespace Go.Proofs.YtmmhgkkcpjhiiaaDoor
open Go.ChangeShapes Go.WideShapes Go.ChangeAt Go.RowKit Go.Joins
set_option linter.unusedVariables false
set_option linter.unusedSimpArgs false


theorem cellsLawsPool : Tryd.prog.cellsOf 44 = 3 := by kernel_rfl
theorem cellsIntSS : Tryd.prog.cellsOf 71 = 1 := by kernel_rfl
/-- Rows of rows of ints that came in. -/
theorem open_rows3_cells {H : Type} {enc : TypeId × Value → H} {W : World} {fuel : Nat} {cs : List Value} {x : DataW H × List MemPlace} (h : DataW.trod enc Tryd.prog W 0 (fun _ => true) true fuel 42 cs = some x) :
  ∃ (o : Option Addr) (cap : Nat) (ll : List (List (List Int))), cs = [.slice o ll.length cap] ∧ ll.length ≤ maxLen ∧ RiR 0 W.heap.size W (.slice o ll.length cap) ll ∧ (∀ i, i < ll.length → (ll.getD i []).length ≤ maxLen) ∧ ∀ i, i < ll.length → ∀ j, j < (ll.getD i []).length → ((ll.getD i []).getD j []).length ≤ maxLen := by
 rcases Go.Deep.open_slice1 Tryd.underlying42 cellsIntSS h with ⟨hcs, _⟩ | ⟨a, len, cap, m, n, V, D, Pl, hcs, _, hl, hm, hmm, _, hx⟩
 ·exact ⟨none, 0, [], hcs, Nat.zero_le _, ⟨[], rfl, ⟨none, 0, rfl, .inl rfl⟩, fun i hi => absurd hi (Nat.not_lt_zero _)⟩, fun i hi => absurd hi (Nat.not_lt_zero _), fun i hi => absurd hi (Nat.not_lt_zero _)⟩
 ·have hlm : len ≤ m := by rw [hmm]; split <;> omega
  have ex : ∀ i, i < len → ∃ y : Hd × List (List Int), V i = .slice y.1.1 y.1.2.1 y.1.2.2 ∧ y.1.2.1 = y.2.length ∧ y.2.length ≤ maxLen ∧ RdLL W.heap.size W y.1.1 y.2 ∧ ∀ j, j < y.2.length → (y.2.getD j []).length ≤ maxLen := fun i hi => by
   obtain ⟨o', c', l', e, hl', hr, hj⟩ := open_rows_cells (hx i (by omega)).2
   simp at e
   exact ⟨((o', l'.length, c'), l'), e, rfl, hl', hr, hj⟩
  have hne : Inhabited (Hd × List (List Int)) := ⟨((none, 0, 0), [])⟩
  obtain ⟨f, hf⟩ := Go.Deep.choose_lt ex
  have gd : ∀ i, i < len → ((List.range len).map (fun i => (f i).2)).getD i [] = (f i).2 := fun i hi => by simp [hi]
  have gh : ∀ i, i < len → ((List.range len).map (fun i => (f i).1)).getD i (none, 0, 0) = (f i).1 := fun i hi => by simp [hi]
  refine ⟨some a, cap, (List.range len).map (fun i => (f i).2), by simpa using hcs, by simp; omega, ⟨(List.range len).map (fun i => (f i).1), by simp, ⟨some a, cap, by simp, ?_⟩, fun i hi => ?_⟩, fun i hi => ?_, fun i hi => ?_⟩
  ·by_cases h0 : len = 0
   ·left; simp [h0]
   ·right
    obtain ⟨b, off, spot⟩ := a
    have hc := (hx 0 (by omega)).1
    have hspot : spot = none := by simpa [Addr.add] using World.cell?_spot hc
    subst hspot
    have e2 : ∀ j, (⟨b, off, none⟩ : Addr).add j = ⟨b, off + j, none⟩ := fun j => by by_cases h : j = 0 <;> simp [Addr.add, h]
    refine ⟨b, off, rfl, Nat.zero_le _, ?_, fun i hi j hj => ?_⟩
    ·rw [e2] at hc
     rcases Nat.lt_or_ge b W.heap.size with h | h
     ·exact h
     ·simp [World.cell?, Array.getElem?_eq_none h] at hc
    ·have hi' : i < len := by simpa using hi
     have hj' : j = 0 := by have : j < 1 := hj; omega
     subst hj'
     have h1 := (hx i (by omega)).1
     rw [e2] at h1
     rw [show layH.d = (none, 0, 0) from rfl, gh i hi', show layH.k = 1 from rfl, Nat.mul_one, Nat.add_zero, h1, (hf i hi').1]
     rfl
  ·have hi' : i < len := by simpa using hi
   have hv' : hv ((List.range len).map (fun i => (f i).1)) i = .slice (f i).1.1 (f i).2.length (f i).1.2.2 := by unfold hv; rw [gh i hi', (hf i hi').2.1]
   rw [gd i hi', hv']
   exact RiT.of (hf i hi').2.2.2.1
  ·have hi' : i < len := by simpa using hi
   rw [gd i hi']
   exact (hf i hi').2.2.1
  ·have hi' : i < len := by simpa using hi
   rw [gd i hi']
   exact (hf i hi').2.2.2.2
set_option maxRecDepth 100000 in
theorem open_pool {H : Type} {enc : TypeId × Value → H} {W : World} {base : Nat} {v : Value} {d : DataW H} {p : List MemPlace}
  (hv : Value.okWide Tryd.prog W .any base 44 v) (h : DataW.Trod enc Tryd.prog W 0 (fun _ => true) true 44 v d p) :
  ∃ (m : Pm) (o : Option Addr) (cap : Nat) (oR : Option Addr) (cR : Nat), v = plv m.key (.slice o m.l.length cap) (.slice oR m.ring.length cR) ∧ lenPm m ∧ RdPm W.heap.size W (plv m.key (.slice o m.l.length cap) (.slice oR m.ring.length cR)) m := by
 obtain ⟨c0, c1, c2, y0, y1, y2, m, rfl, rfl, rfl, hy0, hy1, hy2⟩ := open_agg3 Tryd.underlying44 (by kernel_rfl) cellsLawsPool hv h
 obtain ⟨a, e0, rfl, wa⟩ := DataW.trod_int Tryd.underlying3 hy0
 obtain ⟨o, cap, l, e1, r⟩ := open_backs_cells hy1
 obtain ⟨oR, cR, ll, e2, l2, rr, l3, l4⟩ := open_rows3_cells hy2
 simp at e0 e1 e2
 subst e0 e1 e2
 exact ⟨⟨a, l, ll⟩, o, cap, oR, cR, rfl, ⟨r.1, l2, l3, l4⟩, ⟨_, _, rfl, RiV.of r.2, rr⟩⟩

end Go.Proofs.YtmmhgkkcpjhiiaaDoor

