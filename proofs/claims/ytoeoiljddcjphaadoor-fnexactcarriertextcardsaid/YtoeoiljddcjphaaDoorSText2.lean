/- Packets as text, the model's. -/
import Derived.Test.YtoeoiljddcjphaaDoorSText
namespace Go.Proofs.YtoeoiljddcjphaaDoor
open Go.ChangeShapes Go.WideShapes Go.ChangeAt Go.RowKit Go.Joins
set_option linter.unusedVariables false
set_option linter.unusedSimpArgs false

set_option maxRecDepth 100000 in
set_option maxHeartbeats 4000000 in
theorem specPacketText_any (base : Nat) (a b f s : Int) (o : Option Addr) (len cap : Nat) (w : World) (hl : len ≤ maxLen) (hbase : base ≤ w.heap.size) :
    Calls Tryd.prog 46 #[pkt a b f s (.slice o len cap)] w fun e w' => ∃ v, e = .returned v ∧ ownB w' base v (pktT a b f s len) ∧ TxS base w w' := by
  obtain ⟨W0, hW0⟩ : ∃ W, (w.alloc (.cells #[.int .i64 a, .int .i64 b, .int .i64 f, .int .i64 s, .slice o len cap] 26)) = W := ⟨_, rfl⟩
  have bx : W0.heap[w.heap.size]? = some (.cells #[.int .i64 a, .int .i64 b, .int .i64 f, .int .i64 s, .slice o len cap] 26 (0, 0)) := by rw [← hW0]; exact heap_alloc_new w _
  have hB0 : Below w.heap.size w W0 := by rw [← hW0]; exact (Below.refl _ _).alloc (Nat.le_refl _) _
  have t0 : TxS base w W0 := TxS.below hB0 hbase
  have hs0 := t0.sz hbase
  clear hB0
  have HOK := hide (specPacketOk_any a b f s o len cap W0 hl)
  obtain ⟨B, hB⟩ : ∃ B, packetOkB a b f s len = B := ⟨_, rfl⟩
  rw [hB] at HOK
  cases B with
  | false =>
    have bxc0 : W0.cell? ⟨w.heap.size, 0, none⟩ = some (.int .i64 a) := cellT bx 0 _ rfl
    have bxc1 : W0.cell? ⟨w.heap.size, 1, none⟩ = some (.int .i64 b) := cellT bx 1 _ rfl
    have bxc2 : W0.cell? ⟨w.heap.size, 2, none⟩ = some (.int .i64 f) := cellT bx 2 _ rfl
    have bxc3 : W0.cell? ⟨w.heap.size, 3, none⟩ = some (.int .i64 s) := cellT bx 3 _ rfl
    have bxc4 : W0.cell? ⟨w.heap.size, 4, none⟩ = some (.slice o len cap) := cellT bx 4 _ rfl
    have HN := hide (pktT_no hB)
    clear hB
    go_enter Tryd.func46, Tryd.ntmps46
    go_wp2_with fail
    refine HOK.out.mono ?_
    rintro e y ⟨rfl, hb⟩
    have st := TxS.below hb hs0
    have HT := hide (t0.trans st)
    clear st hb bx bxc0 bxc1 bxc2 bxc3 bxc4
    go_wp2
    go_ret
    exact ⟨_, rfl, by rw [HN.out]; exact World.ownsRow_nil _ _ _ _, HT.out⟩
  | true =>
    obtain ⟨a', b', s', rfl, rfl, rfl, f0, f1, ha, hb', hs', hn, hE⟩ := pktT_yes hB
    have HE := hide hE
    have hla := flowTL_len a' b'
    have hll := letTo_len f 4
    have hls := digL_len s'
    have hln := digL_len len
    clear hE hB
    have bxc0 : W0.cell? ⟨w.heap.size, 0, none⟩ = some (.int .i64 a') := cellT bx 0 _ rfl
    have bxc1 : W0.cell? ⟨w.heap.size, 1, none⟩ = some (.int .i64 b') := cellT bx 1 _ rfl
    have bxc2 : W0.cell? ⟨w.heap.size, 2, none⟩ = some (.int .i64 f) := cellT bx 2 _ rfl
    have bxc3 : W0.cell? ⟨w.heap.size, 3, none⟩ = some (.int .i64 s') := cellT bx 3 _ rfl
    have bxc4 : W0.cell? ⟨w.heap.size, 4, none⟩ = some (.slice o len cap) := cellT bx 4 _ rfl
    go_enter Tryd.func46, Tryd.ntmps46
    go_wp2_with fail
    refine HOK.out.mono ?_
    rintro e y0 ⟨rfl, hb0⟩
    have st0 := TxS.below hb0 hs0
    clear bxc0 bxc1 bxc2 bxc3 bxc4
    replace bx := st0.box bx (by decide)
    replace t0 := t0.trans st0
    replace hs0 := st0.sz hs0
    clear st0 hb0 HOK
    have bxc0 : y0.cell? ⟨w.heap.size, 0, none⟩ = some (.int .i64 a') := cellT bx 0 _ rfl
    have bxc1 : y0.cell? ⟨w.heap.size, 1, none⟩ = some (.int .i64 b') := cellT bx 1 _ rfl
    have hnil : ownB y0 base (.slice none 0 0) ([] : List Int) := World.ownsRow_nil _ _ _ _
    go_wp2_with fail
    refine (l1flow_any base (.slice none 0 0) [] a' b' y0 hnil hs0 (by omega) (by omega) (by simp)).mono ?_
    rintro e y1 ⟨x1, rfl, ho1, st1⟩
    obtain ⟨K1, hK1⟩ : ∃ q, ([] : List Int) ++ flowTL a' b' = q := ⟨_, rfl⟩
    rw [hK1] at ho1
    have bK1 : K1.length ≤ 131075 := by rw [← hK1, List.length_append]; simp only [List.length_nil]; omega
    have EK1 := hide hK1
    clear hK1
    clear bxc0 bxc1
    replace bx := st1.box bx (by decide)
    replace t0 := t0.trans st1
    replace hs0 := st1.sz hs0
    clear hnil st1
    go_wp2_with (at_builtin; refine wpList_append_one 32 rfl _ _ rfl base x1 K1 rfl ho1 rfl ?c2 hs0 ?_)
    case c2 => omega
    intro x2 y2 ho2 st2
    obtain ⟨K2, hK2⟩ : ∃ q, K1 ++ [32] = q := ⟨_, rfl⟩
    rw [hK2] at ho2
    have bK2 : K2.length ≤ 131076 := by rw [← hK2, List.length_append]; simp only [List.length_cons, List.length_nil]; omega
    have EK2 := hide hK2
    clear hK2
    replace bx := st2.box bx (by decide)
    replace t0 := t0.trans st2
    replace hs0 := st2.sz hs0
    clear ho1 st2
    go_wp2
    have HOL := hide ho2
    clear ho2
    go_loopw [3, 4] (fun bv iv wr => ∃ i : Nat, i ≤ 4 ∧ iv = .int .i64 i ∧ ownB wr base bv (K2 ++ letTo f i) ∧ TxS base y2 wr)
      (fun _ iv _ => 4 - (intOf iv).toNat)
    case atStart => exact ⟨0, by omega, rfl, by simpa [letTo] using HOL.out, TxS.refl _ _⟩
    case round =>
      obtain ⟨i, hi, rfl, ho, sr⟩ := hrel
      have bxr := sr.box bx (by decide)
      have hsr := sr.sz hs0
      by_cases hlt : i < 4
      · have HL := hide (letTo_len f i)
        have HY := hide (fun h => letTo_yes (f := f) (i := i) h)
        have HN := hide (fun h => letTo_no (f := f) (i := i) h)
        have cf : wr.cell? ⟨w.heap.size, 2, none⟩ = some (.int .i64 f) := cellT bxr 2 _ rfl
        obtain ⟨K, hK⟩ : ∃ q, K2 ++ letTo f i = q := ⟨_, rfl⟩
        have hKl : K.length ≤ 131080 := by rw [← hK, List.length_append]; have := HL.out; omega
        rw [hK] at ho
        have HK := hide hK
        have HO := hide ho
        have HS := hide sr
        clear hK ho sr hi bxr HL
        rcases (show i = 0 ∨ i = 1 ∨ i = 2 ∨ i = 3 by omega) with h | h | h | h
        all_goals subst h
        · by_cases hbit : letB f 0 = true
          · have hand : bits .and .i64 f 1 = 1 := by have := bit_shr f f0 f1 0 (by decide); rw [if_pos hbit] at this; simpa using this
            have HF := hide (HY.out hbit)
            clear hbit
            go_wp2_with (first | (at_builtin; refine wpList_append_one 115 rfl _ _ rfl base _ K rfl HO.out rfl ?c1 hsr ?_) | go_in)
            case c1 => omega
            intro v2 w2 ho2 s2
            have HO2 : Hid (ownB w2 base v2 (K2 ++ letTo f 1)) := by unfold Hid; rw [HF.out, ← List.append_assoc, HK.out]; exact ho2
            have HS2 := hide (HS.out.trans s2)
            clear ho2 s2
            go_wp2
            go_roundw
            case rel => exact ⟨1, by omega, by go_num, HO2.out, HS2.out⟩
            case measure => simp [intOf]
          · have hbf : letB f 0 = false := by simpa using hbit
            have hand : bits .and .i64 f 1 = 0 := by have := bit_shr f f0 f1 0 (by decide); rw [hbf] at this; simpa using this
            have HF := hide (HN.out hbf)
            clear hbit hbf
            go_wp2
            go_roundw
            case rel => exact ⟨1, by omega, by go_num, by rw [HF.out, HK.out]; exact HO.out, HS.out⟩
            case measure => simp [intOf]
        · by_cases hbit : letB f 1 = true
          · have hand : bits .and .i64 (f / 2) 1 = 1 := by have := bit_shr f f0 f1 1 (by decide); rw [if_pos hbit] at this; simpa using this
            have HF := hide (HY.out hbit)
            clear hbit
            go_wp2_with (first | (at_builtin; refine wpList_append_one 97 rfl _ _ rfl base _ K rfl HO.out rfl ?c1 hsr ?_) | go_in)
            case c1 => omega
            intro v2 w2 ho2 s2
            have HO2 : Hid (ownB w2 base v2 (K2 ++ letTo f 2)) := by unfold Hid; rw [HF.out, ← List.append_assoc, HK.out]; exact ho2
            have HS2 := hide (HS.out.trans s2)
            clear ho2 s2
            go_wp2
            go_roundw
            case rel => exact ⟨2, by omega, by go_num, HO2.out, HS2.out⟩
            case measure => simp [intOf]
          · have hbf : letB f 1 = false := by simpa using hbit
            have hand : bits .and .i64 (f / 2) 1 = 0 := by have := bit_shr f f0 f1 1 (by decide); rw [hbf] at this; simpa using this
            have HF := hide (HN.out hbf)
            clear hbit hbf
            go_wp2
            go_roundw
            case rel => exact ⟨2, by omega, by go_num, by rw [HF.out, HK.out]; exact HO.out, HS.out⟩
            case measure => simp [intOf]
        · by_cases hbit : letB f 2 = true
          · have hand : bits .and .i64 (f / 4) 1 = 1 := by have := bit_shr f f0 f1 2 (by decide); rw [if_pos hbit] at this; simpa using this
            have HF := hide (HY.out hbit)
            clear hbit
            go_wp2_with (first | (at_builtin; refine wpList_append_one 102 rfl _ _ rfl base _ K rfl HO.out rfl ?c1 hsr ?_) | go_in)
            case c1 => omega
            intro v2 w2 ho2 s2
            have HO2 : Hid (ownB w2 base v2 (K2 ++ letTo f 3)) := by unfold Hid; rw [HF.out, ← List.append_assoc, HK.out]; exact ho2
            have HS2 := hide (HS.out.trans s2)
            clear ho2 s2
            go_wp2
            go_roundw
            case rel => exact ⟨3, by omega, by go_num, HO2.out, HS2.out⟩
            case measure => simp [intOf]
          · have hbf : letB f 2 = false := by simpa using hbit
            have hand : bits .and .i64 (f / 4) 1 = 0 := by have := bit_shr f f0 f1 2 (by decide); rw [hbf] at this; simpa using this
            have HF := hide (HN.out hbf)
            clear hbit hbf
            go_wp2
            go_roundw
            case rel => exact ⟨3, by omega, by go_num, by rw [HF.out, HK.out]; exact HO.out, HS.out⟩
            case measure => simp [intOf]
        · by_cases hbit : letB f 3 = true
          · have hand : bits .and .i64 (f / 8) 1 = 1 := by have := bit_shr f f0 f1 3 (by decide); rw [if_pos hbit] at this; simpa using this
            have HF := hide (HY.out hbit)
            clear hbit
            go_wp2_with (first | (at_builtin; refine wpList_append_one 114 rfl _ _ rfl base _ K rfl HO.out rfl ?c1 hsr ?_) | go_in)
            case c1 => omega
            intro v2 w2 ho2 s2
            have HO2 : Hid (ownB w2 base v2 (K2 ++ letTo f 4)) := by unfold Hid; rw [HF.out, ← List.append_assoc, HK.out]; exact ho2
            have HS2 := hide (HS.out.trans s2)
            clear ho2 s2
            go_wp2
            go_roundw
            case rel => exact ⟨4, by omega, by go_num, HO2.out, HS2.out⟩
            case measure => simp [intOf]
          · have hbf : letB f 3 = false := by simpa using hbit
            have hand : bits .and .i64 (f / 8) 1 = 0 := by have := bit_shr f f0 f1 3 (by decide); rw [hbf] at this; simpa using this
            have HF := hide (HN.out hbf)
            clear hbit hbf
            go_wp2
            go_roundw
            case rel => exact ⟨4, by omega, by go_num, by rw [HF.out, HK.out]; exact HO.out, HS.out⟩
            case measure => simp [intOf]
      · have e : i = 4 := by omega
        subst e
        obtain ⟨M, hM⟩ : ∃ q, K2 ++ letTo f 4 = q := ⟨_, rfl⟩
        have hMl : M.length ≤ 131080 := by rw [← hM, List.length_append]; omega
        rw [hM] at ho
        have EM := hide hM
        have HS := hide (t0.trans sr)
        clear hM sr t0 bx hi hlt HOL
        obtain ⟨om, cm, e0, _⟩ := ho.open
        subst e0
        have HD1 := hide (fun W => l1digits_any s' (by omega) W)
        have HD2 := hide (fun W => l1digits_any len (by omega) W)
        have cs3 : wr.cell? ⟨w.heap.size, 3, none⟩ = some (.int .i64 s') := cellT bxr 3 _ rfl
        go_wp2
        go_region_law (first | (refine step_append_txt rfl (.tmp 29) _ rfl base vaa (M ++ [32, 35]) rfl hoca oba cba (digL s') _ rfl rfl nba Rba (by rw [List.length_append]; simp only [List.length_cons, List.length_nil]; omega) (Nat.le_trans zaa hbba.size) ?_; intro vda wda hoda sda _; have tta := (((TxS.refl base wr).drew.trans saa).trans (TxS.below hbba zaa)).trans sda) | (refine step_append_txt rfl (.tmp 29) _ rfl base vfa (M ++ [32, 35]) rfl hofa oea cea (digL s') _ rfl rfl nea Rfa (by rw [List.length_append]; simp only [List.length_cons, List.length_nil]; omega) (sfa.sz zea) ?_; intro vda wda hoda sda _; have tta := (((TxS.refl base wr).drew.trans (TxS.below (w := wr.drew) hbea hsr)).trans sfa).trans sda) | (refine step_append_str rfl (.tmp 28) _ rfl base (.slice om M.length cm) M rfl hoea _ [32, 35] rfl rfl (by simp only [List.length_cons, List.length_nil]; omega) zea ?_; intro vfa wfa hofa sfa gfa; have hqfa := own_beside hqea gfa (fun b e => (ho.lt b e).2); have Rfa := ownB.rdAny hqfa) | (go_simp; go_at_call 47; refine (HD1.out waa).mono ?_; rintro e wba ⟨qba, rfl, hqba, hbba⟩; obtain ⟨oba, cba, rfl, Rba⟩ := hqba.open; have hoca := own_kept hoaa hbba; have nba := own_nilB hqba; dsimp only) | (refine step_append_str rfl (.tmp 28) _ rfl base (.slice om M.length cm) M rfl ho.drew _ [32, 35] rfl rfl (by simp only [List.length_cons, List.length_nil]; omega) hsr ?_; intro vaa waa hoaa saa gaa; have baa := saa.box (show wr.drew.heap[w.heap.size]? = _ from bxr) (by decide); have caa := cellT baa 3 _ rfl; have zaa := saa.sz hsr) | (go_simp; go_at_call 47; refine (HD1.out wr.drew).mono ?_; rintro e wea ⟨qea, rfl, hqea, hbea⟩; obtain ⟨oea, cea, rfl, Rea⟩ := hqea.open; have hoea := own_kept ho.drew hbea; have nea := own_nilB hqea; have zea := Nat.le_trans hsr hbea.size; dsimp only))
        all_goals (
          obtain ⟨M2, hM2⟩ : ∃ q, (M ++ [32, 35]) ++ digL s' = q := ⟨_, rfl⟩
          have hM2l : M2.length ≤ 196622 := by rw [← hM2, List.length_append, List.length_append]; simp only [List.length_cons, List.length_nil]; omega
          rw [hM2] at hoda
          have EM2 := hide hM2
          clear hM2
          have bxd := tta.box bxr (by decide)
          have hsd := tta.sz hsr
          have HS2 := hide (HS.out.trans tta)
          obtain ⟨og, cg, eg, _⟩ := hoda.open
          subst eg
          have cs4 : wda.cell? ⟨w.heap.size, 4, none⟩ = some (.slice o len cap) := cellT bxd 4 _ rfl
          go_wp2
          go_region_law (first | (refine step_append_txt rfl (.tmp 35) _ rfl base vab (M2 ++ [32, 43]) rfl hocb obb cbb (digL len) _ rfl rfl nbb Rbb (by rw [List.length_append]; simp only [List.length_cons, List.length_nil]; omega) (Nat.le_trans zab hbbb.size) ?_; intro vdb wdb hodb sdb _; have ttb := (((TxS.refl base wda).drew.trans sab).trans (TxS.below hbbb zab)).trans sdb) | (refine step_append_txt rfl (.tmp 35) _ rfl base vfb (M2 ++ [32, 43]) rfl hofb oeb ceb (digL len) _ rfl rfl neb Rfb (by rw [List.length_append]; simp only [List.length_cons, List.length_nil]; omega) (sfb.sz zeb) ?_; intro vdb wdb hodb sdb _; have ttb := (((TxS.refl base wda).drew.trans (TxS.below (w := wda.drew) hbeb hsd)).trans sfb).trans sdb) | (refine step_append_str rfl (.tmp 34) _ rfl base (.slice og M2.length cg) M2 rfl hoeb _ [32, 43] rfl rfl (by simp only [List.length_cons, List.length_nil]; omega) zeb ?_; intro vfb wfb hofb sfb gfb; have hqfb := own_beside hqeb gfb (fun b e => (hoda.lt b e).2); have Rfb := ownB.rdAny hqfb) | (go_simp; go_at_call 47; refine (HD2.out wab).mono ?_; rintro e wbb ⟨qbb, rfl, hqbb, hbbb⟩; obtain ⟨obb, cbb, rfl, Rbb⟩ := hqbb.open; have hocb := own_kept hoab hbbb; have nbb := own_nilB hqbb; dsimp only) | (refine step_append_str rfl (.tmp 34) _ rfl base (.slice og M2.length cg) M2 rfl hoda.drew _ [32, 43] rfl rfl (by simp only [List.length_cons, List.length_nil]; omega) hsd ?_; intro vab wab hoab sab gab; have bab := sab.box (show wda.drew.heap[w.heap.size]? = _ from bxd) (by decide); have cab := cellT bab 4 _ rfl; have zab := sab.sz hsd) | (go_simp; go_at_call 47; refine (HD2.out wda.drew).mono ?_; rintro e web ⟨qeb, rfl, hqeb, hbeb⟩; obtain ⟨oeb, ceb, rfl, Reb⟩ := hqeb.open; have hoeb := own_kept hoda.drew hbeb; have neb := own_nilB hqeb; have zeb := Nat.le_trans hsd hbeb.size; dsimp only))
          all_goals (
            have HO : Hid (ownB wdb base vdb (pktT a' b' f s' len)) := by unfold Hid; rw [HE.out]; unfold pktTL; rw [← List.nil_append (flowTL a' b')]; rw [EK1.out, EK2.out, EM.out, EM2.out]; exact hodb
            have HT := hide (HS2.out.trans ttb)
            clear hodb ttb
            go_wp2
            go_ret
            exact ⟨_, rfl, HO.out, HT.out⟩))
end Go.Proofs.YtoeoiljddcjphaaDoor
