/- An agent's text, the model's. -/
import Derived.Deep.DeepCutAuto
import Derived.Deep.RegionLaw
import Derived.Test.YtljogkoaaidlcaaDoorQAgentText17
namespace Go.Proofs.YtljogkoaaidlcaaDoor
open Go.ChangeShapes Go.WideShapes Go.ChangeAt Go.RowKit Go.Joins
set_option linter.unusedVariables false
set_option linter.unusedSimpArgs false


theorem specFlows_tab (o : Option Addr) (n c : Nat) (l : List Sl) (w : World) (hR : RdT w.heap.size w (tab (.slice o n c)) l) (hl : l.length ≤ 1048576) :
  Calls Tryd.prog 16 #[tab (.slice o n c)] w fun e w' => ∃ v, e = .returned v ∧ ownL layF 48 w' w.heap.size v (flowsM l) ∧ Below w.heap.size w w' := by
 obtain ⟨vl, e, o', c', rfl, r⟩ := hR
 have e2 : o = o' ∧ n = l.length ∧ c = c' := by
  simp only [tab, Value.agg.injEq, Array.mk.injEq, List.cons.injEq, Value.slice.injEq] at e
  exact ⟨e.1.1, e.1.2.1, e.1.2.2⟩
 obtain ⟨rfl, rfl, rfl⟩ := e2
 exact specFlowsOf_any o c l w r hl

set_option maxRecDepth 100000 in
set_option maxHeartbeats 8000000 in
theorem specAgentText_yes (m : Am) (oc ot : Option Addr) (n1 n2 cc ct : Nat) (w : World) (hR : RdA w.heap.size w (agt m.id m.lim m.dr (.slice oc n1 cc) (.slice ot n2 ct)) m) (hf : m.c.length + m.t.length ≤ 1048576) (hok : agentOkB m = true) :
  Calls Tryd.prog 5 #[(agt m.id m.lim m.dr (.slice oc n1 cc) (.slice ot n2 ct))] w fun e w' => ∃ v', e = .returned v' ∧ ownB w' w.heap.size v' (agentTL m) ∧ Below w.heap.size w w' := by
 have hp := agentOkB_parts.1 hok
 obtain ⟨i, hi⟩ : ∃ i : Nat, m.id = i := ⟨m.id.toNat, by omega⟩
 obtain ⟨g, hg⟩ : ∃ g : Nat, m.lim = g := ⟨m.lim.toNat, by omega⟩
 have hi6 : i < 6 := by omega
 have hg16 : g ≤ 16 := by omega
 have HE := hide (agentTL_eq m)
 rw [hi, hg, Int.toNat_natCast, Int.toNat_natCast] at HE
 obtain ⟨W0, hW0⟩ : ∃ W, (w.alloc (.cells #[.int .i64 (i : Int), .int .i64 (g : Int), .bool m.dr, .slice oc n1 cc, .slice ot n2 ct] 34)) = W := ⟨_, rfl⟩
 have bx : W0.heap[w.heap.size]? = some (.cells #[.int .i64 (i : Int), .int .i64 (g : Int), .bool m.dr, .slice oc n1 cc, .slice ot n2 ct] 34 (0, 0)) := by rw [← hW0]; exact heap_alloc_new w _
 have hb0 : Below w.heap.size w W0 := by rw [← hW0]; exact (Below.refl _ _).alloc (Nat.le_refl _) _
 have hz0 : w.heap.size < W0.heap.size := by rw [← hW0]; simp
 have HA := hide (specAgentOk_sh (agt m.id m.lim m.dr (.slice oc n1 cc) (.slice ot n2 ct)) m W0 ((hR.kept hb0 (Nat.le_refl _)).le hb0.size) hf)
 have HFL := hide (fun W (hb : Below w.heap.size w W) => specFlows_tab oc n1 cc m.c W ((rdA_tabT (hR.kept hb (Nat.le_refl _))).1.le hb.size) (Nat.le_trans (Nat.le_add_right _ _) hf))
 have hli := digL_len i
 have hlg := digL_len g
 have hdl := drA_len m.dr
 have hLo := fun k hk => flowA_nat (flowsA_ok hp.2.2.2.2.1 k hk)
 have hLl := flowsT_len (flowsA_ok hp.2.2.2.2.1)
 have hL16 := flowsA_len m.c
 obtain ⟨L, hL⟩ : ∃ q, flowsM m.c = q := ⟨_, rfl⟩
 rw [hL] at HE HFL hLo hLl hL16
 have HLo := hide hLo
 have HLl := hide hLl
 rw [hok, hi, hg] at HA
 have t0 : TxS w.heap.size w W0 := TxS.below hb0 (Nat.le_refl _)
 rw [hi, hg]
 clear hR hp hi hg hL hb0 hLo hLl hok hf
 have e0 : W0.cell? ⟨w.heap.size, 0, none⟩ = some (.int .i64 (i : Int)) := cellT bx 0 _ rfl
 have e1 : W0.cell? ⟨w.heap.size, 1, none⟩ = some (.int .i64 (g : Int)) := cellT bx 1 _ rfl
 have e2 : W0.cell? ⟨w.heap.size, 2, none⟩ = some (.bool m.dr) := cellT bx 2 _ rfl
 have e3 : W0.cell? ⟨w.heap.size, 3, none⟩ = some (.slice oc n1 cc) := cellT bx 3 _ rfl
 have e4 : W0.cell? ⟨w.heap.size, 4, none⟩ = some (.slice ot n2 ct) := cellT bx 4 _ rfl
 have HDI := hide (fun W => l1digits_any i (by omega) W)
 have HDG := hide (fun W => l1digits_any g (by omega) W)
 have kc := fun (w : World) (C : Array Value) (n c : Nat) => Go.Lib.run_convert_bytes_const (P := Tryd.prog) w 28 5 C n c Tryd.underlying28 Tryd.underlying5
 go_enter Tryd.func5, Tryd.ntmps5
 go_wp2_with fail
 refine HA.out.mono ?_
 rintro e y0 ⟨rfl, hb⟩
 replace bx := (hb.block _ hz0).trans bx
 have T0 := t0.trans (TxS.below hb (Nat.le_of_lt hz0))
 have s0 : w.heap.size < y0.heap.size := Nat.lt_of_lt_of_le hz0 hb.size
 clear hb hW0 HA t0 hz0 e0 e1 e2 e3 e4
 obtain ⟨Wc, hWc⟩ : ∃ W, (y0.alloc (.cells #[.int .u8 97, .int .u8 103, .int .u8 101, .int .u8 110, .int .u8 116, .int .u8 32] 5 (6, 7))) = W := ⟨_, rfl⟩
 have hbc : Below y0.heap.size y0 Wc := by rw [← hWc]; exact (Below.refl _ _).alloc (Nat.le_refl _) _
 have Rg : Rd Wc (some ⟨y0.heap.size, 0, none⟩) [97, 103, 101, 110, 116, 32] := by rw [← hWc]; exact rd_const y0
 replace bx := (hbc.block _ s0).trans bx
 have xc0 : Wc.cell? ⟨w.heap.size, 0, none⟩ = some (.int .i64 (i : Int)) := cellT bx 0 _ rfl
 have Tc := T0.trans (TxS.below hbc (Nat.le_of_lt s0))
 clear hbc T0
 go_wp2_with fail
 refine (HDI.out Wc).mono ?_
 rintro e y1 ⟨q1, rfl, hq1, hb1⟩
 obtain ⟨o1, c1, rfl, R1⟩ := hq1.open
 have sc := Tc.sz (Nat.le_refl _)
 have T1 := Tc.trans (TxS.below hb1 sc)
 replace bx := (hb1.block _ (Array.getElem?_eq_some_iff.1 bx).1).trans bx
 have Rg1 := Rg.kept hb1
 have s1 := T1.sz (Nat.le_refl _)
 clear hb1 hq1 xc0 hWc Rg Tc
 go_wp2_with (at_builtin; refine wpList_append_full rfl _ _ rfl y0.heap.size [97, 103, 101, 110, 116, 32] 6 rfl rfl Rg1 o1 c1 (digL i) _ rfl rfl (digL_pos i) R1 ?c1 ?_)
 case c1 => simp only [List.length_cons, List.length_nil]; omega
 intro x2 y2 ho2 hb2
 clear kc
 replace ho2 : ownB y2 y1.heap.size x2 ([97, 103, 101, 110, 116, 32] ++ digL i) := ho2
 obtain ⟨K2, hK2⟩ : ∃ q, [97, 103, 101, 110, 116, 32] ++ digL i = q := ⟨_, rfl⟩
 rw [hK2] at ho2
 have bK2 : K2.length ≤ 1000 := by rw [← hK2, List.length_append]; simp only [List.length_cons, List.length_nil]; omega
 rw [hK2] at HE
 have T2 := T1.trans (TxS.below hb2 s1)
 have s2 := T2.sz (Nat.le_refl _)
 replace ho2 := own_mono ho2 s1
 replace bx := (hb2.block _ (Array.getElem?_eq_some_iff.1 bx).1).trans bx
 clear hK2 T1 s1 hb2 Rg1 R1
 obtain ⟨ov, cv, ev, _⟩ := ownB.open (l := K2) ho2
 subst ev
 have xc1 : y2.cell? ⟨w.heap.size, 1, none⟩ = some (.int .i64 (g : Int)) := cellT bx 1 _ rfl
 go_upto_region 4 with fail
 go_cut [3] (fun s3 wx => ∃ v4, s3 = v4 ∧ Hid (ownB wx w.heap.size v4 ((K2 ++ [32, 108, 105, 109, 105, 116, 32]) ++ digL g)) ∧ Hid (TxS w.heap.size y2 wx))
 case first =>
  go_region_law (first | (refine step_append_txt rfl (.tmp 16) _ rfl w.heap.size vap (K2 ++ [32, 108, 105, 109, 105, 116, 32]) rfl hocp obp cbp (digL g) _ rfl rfl nbp Rbp (by simp only [List.length_append, List.length_cons, List.length_nil]; omega) (Nat.le_trans zap hbbp.size) ?_; intro vdp wdp hodp sdp _; have ttp := (((TxS.refl w.heap.size y2).drew.trans sap).trans (TxS.below hbbp zap)).trans sdp) | (refine step_append_txt rfl (.tmp 16) _ rfl w.heap.size vfp (K2 ++ [32, 108, 105, 109, 105, 116, 32]) rfl hofp oep cep (digL g) _ rfl rfl nep Rfp (by simp only [List.length_append, List.length_cons, List.length_nil]; omega) (sfp.sz zep) ?_; intro vdp wdp hodp sdp _; have ttp := (((TxS.refl w.heap.size y2).drew.trans (TxS.below (w := y2.drew) hbep s2)).trans sfp).trans sdp) | (refine step_append_str rfl (.tmp 15) _ rfl w.heap.size (.slice ov K2.length cv) K2 rfl hoep _ [32, 108, 105, 109, 105, 116, 32] rfl rfl (by simp only [List.length_append, List.length_cons, List.length_nil]; omega) zep ?_; intro vfp wfp hofp sfp gfp; have hqfp := own_beside hqep gfp (fun b e => (ho2.lt b e).2); have Rfp := ownB.rdAny hqfp) | (go_simp; go_at_call 15; refine (HDG.out wap).mono ?_; rintro e wbp ⟨qbp, rfl, hqbp, hbbp⟩; obtain ⟨obp, cbp, rfl, Rbp⟩ := hqbp.open; have hocp := own_kept hoap hbbp; have nbp := own_nilB hqbp; dsimp only) | (refine step_append_str rfl (.tmp 15) _ rfl w.heap.size (.slice ov K2.length cv) K2 rfl ho2.drew _ [32, 108, 105, 109, 105, 116, 32] rfl rfl (by simp only [List.length_append, List.length_cons, List.length_nil]; omega) s2 ?_; intro vap wap hoap sap gap; have bap := sap.box (show y2.drew.heap[w.heap.size]? = _ from bx) (by decide); have cap := cellT bap 1 _ rfl; have zap := sap.sz s2) | (go_simp; go_at_call 15; refine (HDG.out y2.drew).mono ?_; rintro e wep ⟨qep, rfl, hqep, hbep⟩; obtain ⟨oep, cep, rfl, Rep⟩ := hqep.open; have hoep := own_kept ho2.drew hbep; have nep := own_nilB hqep; have zep := Nat.le_trans s2 hbep.size; dsimp only))
  all_goals (go_wp2; go_meet)
  all_goals exact ⟨_, rfl, hide hodp, hide ttp⟩
 case rest =>
 obtain ⟨v4, rfl, HO4, HT4⟩ := hcut
 obtain ⟨y4, hwc⟩ : ∃ W, W = wc := ⟨_, rfl⟩
 subst hwc
 obtain ⟨K4, hK4⟩ : ∃ q, (K2 ++ [32, 108, 105, 109, 105, 116, 32]) ++ digL g = q := ⟨_, rfl⟩
 rw [hK4] at HO4
 have bK4 : K4.length ≤ 2000 := by rw [← hK4, List.length_append, List.length_append]; simp only [List.length_cons, List.length_nil]; omega
 rw [hK4] at HE
 replace bx := HT4.out.box bx (by decide)
 have T4 := T2.trans HT4.out
 have s4 := T4.sz (Nat.le_refl _)
 have ho4 := HO4.out
 clear hK4 ho2 xc1 T2 s2 HT4 HO4
 have xc2 : y4.cell? ⟨w.heap.size, 2, none⟩ = some (.bool m.dr) := cellT bx 2 _ rfl
 obtain ⟨z, hz⟩ : ∃ z, m.dr = z := ⟨_, rfl⟩
 rw [hz] at xc2
 have HZ := hide hz
 clear hz
 go_upto_if 22 with fail
 go_cut [3] (fun s3 wx => ∃ v5, s3 = v5 ∧ Hid (ownB wx w.heap.size v5 (K4 ++ drA m.dr)) ∧ Hid (TxS w.heap.size y4 wx))
 case first =>
  cases z with
  | true =>
   go_wp2_with (at_builtin; refine wpList_append_str rfl _ _ rfl w.heap.size _ K4 rfl ho4 _ [32, 100, 114, 97, 105, 110, 115] rfl rfl ?c5 s4 ?_)
   case c5 => simp only [List.length_cons, List.length_nil]; omega
   intro x5 y5 ho5 st5
   have HO5 : Hid (ownB y5 w.heap.size x5 (K4 ++ drA m.dr)) := hide (by rw [HZ.out]; exact ho5)
   have HS5 := hide st5
   clear ho5 st5
   go_wp2
   go_meet
   exact ⟨_, rfl, HO5, HS5⟩
  | false =>
   have HO5 : Hid (ownB y4 w.heap.size _ (K4 ++ drA m.dr)) := hide (by rw [HZ.out, show drA false = [] from rfl, List.append_nil]; exact ho4)
   go_wp2
   go_meet
   exact ⟨_, rfl, HO5, hide (TxS.refl _ _)⟩
 case rest =>
 obtain ⟨v5, rfl, HO5, HT5⟩ := hcut
 obtain ⟨y5, hwc⟩ : ∃ W, W = wc := ⟨_, rfl⟩
 subst hwc
 obtain ⟨K5, hK5⟩ : ∃ q, K4 ++ drA m.dr = q := ⟨_, rfl⟩
 rw [hK5] at HO5
 have bK5 : K5.length ≤ 3000 := by rw [← hK5, List.length_append]; omega
 rw [hK5] at HE
 replace bx := HT5.out.box bx (by decide)
 have T5 := T4.trans HT5.out
 have s5 := T5.sz (Nat.le_refl _)
 clear hK5 ho4 xc2 T4 s4 HT5 HZ
 have xc3 : y5.cell? ⟨w.heap.size, 3, none⟩ = some (.slice oc n1 cc) := cellT bx 3 _ rfl
 go_wp2_with fail
 refine (HFL.out y5 T5.bel).mono ?_
 rintro e y6 ⟨vf, rfl, hof, hb6⟩
 obtain ⟨oF, cF, evf, _⟩ := ownL.open hof
 subst evf
 have HOF := hide hof
 have T6 := T5.trans (TxS.below hb6 s5)
 have s6 := T6.sz (Nat.le_refl _)
 have HO6 := hide (own_kept HO5.out hb6)
 have HT6 := hide T6
 clear hof hb6 T5 s5 HO5 HFL xc3 bx T6
 go_wp2
 go_loopw [3, 5] (fun tv iv wr => ∃ k : Nat, k ≤ L.length ∧ iv = .int .i64 k ∧ ownB wr w.heap.size tv (K5 ++ flowsT L k) ∧ TxS w.heap.size y6 wr)
  (fun _ iv _ => L.length - (intOf iv).toNat)
 case atStart => exact ⟨0, Nat.zero_le _, rfl, by simpa [flowsT] using HO6.out, TxS.refl _ _⟩
 case round =>
  rename World => wz
  obtain ⟨k, hk, rfl, ho, sr⟩ := hrel
  have hsz := sr.sz s6
  have hlk := HLl.out k hk
  obtain ⟨K, hK⟩ : ∃ q, K5 ++ flowsT L k = q := ⟨_, rfl⟩
  have bK : K.length ≤ 4000000 := by rw [← hK, List.length_append]; omega
  rw [hK] at ho
  have HK := hide hK
  have HSR := hide sr
  have hof := ownF_tx HOF.out sr
  clear hK sr
  by_cases hlt : k < L.length
  ·obtain ⟨gb, rfl, hgb⟩ := own_at hof (by omega)
   obtain ⟨f0, f1⟩ := flow_cells hof hlt
   have hnat := HLo.out k hlt
   have HSU := hide (show flowsT L (k + 1) = flowsT L k ++ ([32] ++ flowTL (L.getD k (0, 0)).1.toNat (L.getD k (0, 0)).2.toNat) from rfl)
   obtain ⟨a, ha⟩ : ∃ a : Nat, (L.getD k (0, 0)).1 = a := ⟨(L.getD k (0, 0)).1.toNat, by omega⟩
   obtain ⟨p, hp⟩ : ∃ p : Nat, (L.getD k (0, 0)).2 = p := ⟨(L.getD k (0, 0)).2.toNat, by omega⟩
   rw [ha, hp, Int.toNat_natCast, Int.toNat_natCast] at HSU
   rw [ha] at f0 hnat
   rw [hp] at f1 hnat
   have HFC := hide (fun W (s : TxS w.heap.size wz W) => (show W.cell? ⟨gb, k * 2, none⟩ = some (.int .i64 (a : Int)) ∧ W.cell? ⟨gb, k * 2 + 1, none⟩ = some (.int .i64 (p : Int)) by have h := flow_cells (ownF_tx hof s) hlt; rw [ha, hp] at h; exact h))
   have z1 : (k : Int) < (L.length : Int) := by omega
   clear ha hp hof
   have hzA : ∀ O, w.heap.size ≤ (wz.drew.alloc O).heap.size := fun O => Nat.le_trans hsz ((Below.refl wz.drew.heap.size wz.drew).alloc (Nat.le_refl _) O).size
   have HBA := hide (show ∀ O, Below wz.heap.size wz (wz.drew.alloc O) from fun O => ((Below.refl wz.heap.size wz).drew).alloc (Nat.le_refl _) O)
   have z2 : gb < wz.heap.size + 1 := by omega
   obtain ⟨ov, cv, ev, _⟩ := ownB.open (l := K) ho
   subst ev
   go_wp2
   go_region_law (first | (go_simp; go_at_call 17; refine (l1flow_any w.heap.size vaz _ a p waz hoaz zaz (by omega) (by omega) (by simp only [List.length_append, List.length_cons, List.length_nil]; omega)).mono ?_; rintro e wdz ⟨vdz, rfl, hodz, sdz⟩; have ttz := tAz.trans sdz; dsimp only) | (refine step_append_txt rfl (.tmp 34) _ rfl w.heap.size (.slice ov K.length cv) K rfl (own_kept (ho.drew) ((Below.refl _ _).alloc (Nat.le_refl _) _)) (some ⟨wz.heap.size, 0, none⟩) 1 [32] _ rfl rfl (fun h => by cases h) (rd_built wz.drew 32) (by simp only [List.length_append, List.length_cons, List.length_nil]; omega) (hzA _) ?_; intro vaz waz hoaz saz gaz; have tAz := (TxS.below (HBA.out (.cells #[.int .u8 32] 5)) hsz).trans saz; have zaz := saz.sz (hzA _); have fz := HFC.out waz tAz; obtain ⟨f0z, f1z⟩ := fz))
   all_goals (
    have HO7 : Hid (ownB wdz w.heap.size vdz (K5 ++ flowsT L (k + 1))) := by unfold Hid; rw [HSU.out, ← List.append_assoc, ← List.append_assoc, HK.out]; exact hodz
    have HZ7 := hide (HSR.out.trans ttz)
    clear hodz ttz
    go_wp2
    go_roundw
    all_goals first
     | exact ⟨k + 1, by omega, by go_num, HO7.out, HZ7.out⟩
     | (simp [intOf]; omega))
  ·have hke : k = L.length := by omega
   subst hke
   have z1 : ¬ ((L.length : Int) < (L.length : Int)) := by omega
   go_wp2_with (at_builtin; refine wpList_append_one 10 rfl _ _ rfl w.heap.size _ K rfl ho rfl ?d6 hsz ?_)
   case d6 => omega
   intro x9 y9 ho9 st9
   have HO9 : Hid (ownB y9 w.heap.size x9 (agentTL m)) := by unfold Hid; rw [← HE.out, HK.out]; exact ho9
   have HX := hide (HT6.out.trans (HSR.out.trans st9)).bel
   clear ho ho9 st9
   go_wp2
   go_ret
   exact ⟨_, rfl, HO9.out, HX.out⟩

end Go.Proofs.YtljogkoaaidlcaaDoor

