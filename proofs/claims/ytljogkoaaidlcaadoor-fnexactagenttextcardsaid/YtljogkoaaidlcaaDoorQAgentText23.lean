/- Several texts in one: SAgTI, ShAgT. -/
import Derived.Deep.DeepCutAuto
import Derived.Deep.RegionLaw
import Derived.Test.YtljogkoaaidlcaaDoorQAgentText17
import Derived.Test.YtljogkoaaidlcaaDoorQAgentText22
import Derived.Test.YtljogkoaaidlcaaDoorQAgentText18
import Derived.Test.YtljogkoaaidlcaaDoorQAgentText05
/- An agent's text, the program's. -/
namespace Go.Proofs.YtljogkoaaidlcaaDoor
open Go.ChangeShapes Go.WideShapes Go.ChangeAt Go.RowKit Go.Joins Go.Shelf
set_option linter.unusedVariables false
set_option linter.unusedSimpArgs false


theorem small_any (n : Nat) (h : n < 100) (w : World) : Calls Tryd.prog 71 #[.int .i64 n] w fun e w' => e = .returned (.string ⟨(Go.Lib.decDigits n).toArray⟩) ∧ w' = w := Any.internal_strconv_small { laysAI with } n h w
set_option maxHeartbeats 1000000 in
theorem appUint_full (g nn : Nat) (l0 : List Int) (n : Nat) (w : World) (hR : Rd w (some ⟨g, 0, none⟩) l0) (hnn : nn = l0.length) (hn : n < 10) (hl : l0.length ≤ 1000) :
  Calls Tryd.prog 55 #[.slice (some ⟨g, 0, none⟩) nn nn, .int .u64 n, .int .i64 10] w fun e w' => ∃ v', e = .returned v' ∧ ownB w' w.heap.size v' (l0 ++ digL n) ∧ Below w.heap.size w w' := by
 have hw1 : IntKind.i64.wrap (n : Int) = (n : Int) := by rw [IntKind.wrap_i64]; omega
 have hw2 : (n : Int) < 100 := by omega
 have HS := hide (small_any n (by omega) w)
 have HR := hide hR
 have HN := hide hnn
 have hld := digL_len n
 clear hR hnn
 go_enter Tryd.func55, Tryd.ntmps55
 go_wp2_with fail
 refine HS.out.mono ?_
 rintro e w1 ⟨rfl, rfl⟩
 go_wp2_with (at_builtin; refine wpList_append_fullS rfl _ _ rfl g l0 nn HN.out rfl HR.out _ (digL n) rfl (by simp [digL]) (digL_pos n) ?c1 ?_)
 case c1 => omega
 intro v2 w2 ho2 hb2
 have HO := hide ho2
 have HB := hide hb2
 clear ho2 hb2
 go_wp2
 go_ret
 exact ⟨_, rfl, HO.out, HB.out⟩
set_option maxHeartbeats 1000000 in
theorem appInt_full (g nn : Nat) (l0 : List Int) (n : Nat) (w : World) (hR : Rd w (some ⟨g, 0, none⟩) l0) (hnn : nn = l0.length) (hn : n < 10) (hl : l0.length ≤ 1000) :
  Calls Tryd.prog 43 #[.slice (some ⟨g, 0, none⟩) nn nn, .int .i64 n, .int .i64 10] w fun e w' => ∃ v', e = .returned v' ∧ ownB w' w.heap.size v' (l0 ++ digL n) ∧ Below w.heap.size w w' := by
 have hw1 : IntKind.u64.wrap (n : Int) = (n : Int) := by rw [IntKind.wrap_u64]; omega
 have hw2 : ¬ ((n : Int) < 0) := by omega
 have HS := hide (appUint_full g nn l0 n w hR hnn hn hl)
 clear hR hnn
 go_enter Tryd.func43, Tryd.ntmps43
 go_wp2_with fail
 refine HS.out.mono ?_
 rintro e w1 ⟨v1, rfl, ho1, hb1⟩
 have HO := hide ho1
 have HB := hide hb1
 clear ho1 hb1
 go_wp2
 go_ret
 exact ⟨_, rfl, HO.out, HB.out⟩
set_option maxHeartbeats 1000000 in
theorem sappInt_full (g nn : Nat) (l0 : List Int) (n : Nat) (w : World) (hR : Rd w (some ⟨g, 0, none⟩) l0) (hnn : nn = l0.length) (hn : n < 10) (hl : l0.length ≤ 1000) :
  Calls Tryd.prog 30 #[.slice (some ⟨g, 0, none⟩) nn nn, .int .i64 n, .int .i64 10] w fun e w' => ∃ v', e = .returned v' ∧ ownB w' w.heap.size v' (l0 ++ digL n) ∧ Below w.heap.size w w' := by
 have HS := hide (appInt_full g nn l0 n w hR hnn hn hl)
 clear hR hnn
 go_enter Tryd.func30, Tryd.ntmps30
 go_wp2_with fail
 refine HS.out.mono ?_
 rintro e w1 ⟨v1, rfl, ho1, hb1⟩
 have HO := hide ho1
 have HB := hide hb1
 clear ho1 hb1
 go_wp2
 go_ret
 exact ⟨_, rfl, HO.out, HB.out⟩
set_option maxHeartbeats 1000000 in
theorem iappInt_full (g nn : Nat) (l0 : List Int) (n : Nat) (w : World) (hR : Rd w (some ⟨g, 0, none⟩) l0) (hnn : nn = l0.length) (hn : n < 10) (hl : l0.length ≤ 1000) :
  Calls Tryd.prog 20 #[.slice (some ⟨g, 0, none⟩) nn nn, .int .i64 n] w fun e w' => ∃ v', e = .returned v' ∧ ownB w' w.heap.size v' (l0 ++ digL n) ∧ Below w.heap.size w w' := by
 have HS := hide (sappInt_full g nn l0 n w hR hnn hn hl)
 clear hR hnn
 go_enter Tryd.func20, Tryd.ntmps20
 go_wp2_with fail
 refine HS.out.mono ?_
 rintro e w1 ⟨v1, rfl, ho1, hb1⟩
 have HO := hide ho1
 have HB := hide hb1
 clear ho1 hb1
 go_wp2
 go_ret
 exact ⟨_, rfl, HO.out, HB.out⟩

theorem implFlows_tab (o : Option Addr) (n c : Nat) (l : List Sl) (w : World) (hR : RdT w.heap.size w (tab (.slice o n c)) l) (hl : l.length ≤ 1048576) :
  Calls Tryd.prog 21 #[tab (.slice o n c)] w fun e w' => ∃ v, e = .returned v ∧ ownL layF 48 w' w.heap.size v (flowsM l) ∧ Below w.heap.size w w' := by
 obtain ⟨vl, e, o', c', rfl, r⟩ := hR
 have e2 : o = o' ∧ n = l.length ∧ c = c' := by
  simp only [tab, Value.agg.injEq, Array.mk.injEq, List.cons.injEq, Value.slice.injEq] at e
  exact ⟨e.1.1, e.1.2.1, e.1.2.2⟩
 obtain ⟨rfl, rfl, rfl⟩ := e2
 exact implFlowsOf_any o c l w r hl

set_option maxRecDepth 100000 in
set_option maxHeartbeats 8000000 in
theorem implAgentText_yes (m : Am) (oc ot : Option Addr) (n1 n2 cc ct : Nat) (w : World) (hR : RdA w.heap.size w (agt m.id m.lim m.dr (.slice oc n1 cc) (.slice ot n2 ct)) m) (hf : m.c.length + m.t.length ≤ 1048576) (hok : agentOkB m = true) (hT : PTab w.heap.size w) :
  Calls Tryd.prog 7 #[(agt m.id m.lim m.dr (.slice oc n1 cc) (.slice ot n2 ct))] w fun e w' => ∃ v', e = .returned v' ∧ ownB w' w.heap.size v' (agentTL m) ∧ Below w.heap.size w w' := by
 have hp := agentOkB_parts.1 hok
 obtain ⟨i, hi⟩ : ∃ i : Nat, m.id = i := ⟨m.id.toNat, by omega⟩
 obtain ⟨g, hg⟩ : ∃ g : Nat, m.lim = g := ⟨m.lim.toNat, by omega⟩
 have hi6 : i < 6 := by omega
 have hg16 : g ≤ 16 := by omega
 have HE := hide (agentTL_eq m)
 rw [hi, hg, Int.toNat_natCast, Int.toNat_natCast] at HE
 obtain ⟨W0, hW0⟩ : ∃ W, (w.alloc (.cells #[.int .i64 (i : Int), .int .i64 (g : Int), .bool m.dr, .slice oc n1 cc, .slice ot n2 ct] 34)) = W := ⟨_, rfl⟩
 have bx : W0.heap[w.heap.size]? = some (.cells #[.int .i64 (i : Int), .int .i64 (g : Int), .bool m.dr, .slice oc n1 cc, .slice ot n2 ct] 34 (0, 0)) := by rw [← hW0]; exact heap_alloc_new w _
 have hb0 : Below w.heap.size w W0 := by rw [← hW0]; exact (Below.refl _ _).alloc (Nat.le_refl _) _
 have hz0 : w.heap.size < W0.heap.size := by rw [← hW0]; simp
 have HA := hide (implAgentOk_sh (agt m.id m.lim m.dr (.slice oc n1 cc) (.slice ot n2 ct)) m W0 ((hR.kept hb0 (Nat.le_refl _)).le hb0.size) hf)
 have HFL := hide (fun W (hb : Below w.heap.size w W) => implFlows_tab oc n1 cc m.c W ((rdA_tabT (hR.kept hb (Nat.le_refl _))).1.le hb.size) (Nat.le_trans (Nat.le_add_right _ _) hf))
 have hli := digL_len i
 have hlg := digL_len g
 have hdl := drA_len m.dr
 have hLo := fun k hk => flowA_nat (flowsA_ok hp.2.2.2.2.1 k hk)
 have hLl := flowsT_len (flowsA_ok hp.2.2.2.2.1)
 have hL16 := flowsA_len m.c
 obtain ⟨L, hL⟩ : ∃ q, flowsM m.c = q := ⟨_, rfl⟩
 rw [hL] at HE HFL hLo hLl hL16
 have HLo := hide hLo
 have HLl := hide hLl
 rw [hok, hi, hg] at HA
 have t0 : TxS w.heap.size w W0 := TxS.below hb0 (Nat.le_refl _)
 rw [hi, hg]
 clear hR hp hi hg hL hb0 hLo hLl hok hf
 have e0 : W0.cell? ⟨w.heap.size, 0, none⟩ = some (.int .i64 (i : Int)) := cellT bx 0 _ rfl
 have e1 : W0.cell? ⟨w.heap.size, 1, none⟩ = some (.int .i64 (g : Int)) := cellT bx 1 _ rfl
 have e2 : W0.cell? ⟨w.heap.size, 2, none⟩ = some (.bool m.dr) := cellT bx 2 _ rfl
 have e3 : W0.cell? ⟨w.heap.size, 3, none⟩ = some (.slice oc n1 cc) := cellT bx 3 _ rfl
 have e4 : W0.cell? ⟨w.heap.size, 4, none⟩ = some (.slice ot n2 ct) := cellT bx 4 _ rfl
 have HT0 := hide hT
 clear hT
 have kc := fun (w : World) (C : Array Value) (n c : Nat) => Go.Lib.run_convert_bytes_const (P := Tryd.prog) w 28 5 C n c Tryd.underlying28 Tryd.underlying5
 go_enter Tryd.func7, Tryd.ntmps7
 go_wp2_with fail
 refine HA.out.mono ?_
 rintro e y0 ⟨rfl, hb⟩
 replace bx := (hb.block _ hz0).trans bx
 have T0 := t0.trans (TxS.below hb (Nat.le_of_lt hz0))
 have s0 : w.heap.size < y0.heap.size := Nat.lt_of_lt_of_le hz0 hb.size
 clear hb hW0 HA t0 hz0 e0 e1 e2 e3 e4
 obtain ⟨Wc, hWc⟩ : ∃ W, (y0.alloc (.cells #[.int .u8 97, .int .u8 103, .int .u8 101, .int .u8 110, .int .u8 116, .int .u8 32] 5 (6, 7))) = W := ⟨_, rfl⟩
 have hbc : Below y0.heap.size y0 Wc := by rw [← hWc]; exact (Below.refl _ _).alloc (Nat.le_refl _) _
 have Rg : Rd Wc (some ⟨y0.heap.size, 0, none⟩) [97, 103, 101, 110, 116, 32] := by rw [← hWc]; exact rd_const y0
 replace bx := (hbc.block _ s0).trans bx
 have xc0 : Wc.cell? ⟨w.heap.size, 0, none⟩ = some (.int .i64 (i : Int)) := cellT bx 0 _ rfl
 have Tc := T0.trans (TxS.below hbc (Nat.le_of_lt s0))
 have sc := Tc.sz (Nat.le_refl _)
 have HC := hide (iappInt_full y0.heap.size 6 [97, 103, 101, 110, 116, 32] i Wc Rg rfl (by omega) (by decide))
 clear hbc T0 Rg
 go_wp2_with fail
 refine HC.out.mono ?_
 rintro e y2 ⟨x2, rfl, ho2, hb2⟩
 replace ho2 : ownB y2 Wc.heap.size x2 ([97, 103, 101, 110, 116, 32] ++ digL i) := ho2
 obtain ⟨K2, hK2⟩ : ∃ q, [97, 103, 101, 110, 116, 32] ++ digL i = q := ⟨_, rfl⟩
 rw [hK2] at ho2
 have bK2 : K2.length ≤ 1000 := by rw [← hK2, List.length_append]; simp only [List.length_cons, List.length_nil]; omega
 rw [hK2] at HE
 have T2 := Tc.trans (TxS.below hb2 sc)
 have s2 := T2.sz (Nat.le_refl _)
 replace ho2 := own_mono ho2 sc
 replace bx := (hb2.block _ (Array.getElem?_eq_some_iff.1 bx).1).trans bx
 have hT2 := HT0.out.tx T2 (Nat.le_refl _)
 clear hK2 Tc sc hb2 xc0 hWc HC kc
 obtain ⟨ov, cv, ev, _⟩ := ownB.open (l := K2) ho2
 subst ev
 have xc1 : y2.cell? ⟨w.heap.size, 1, none⟩ = some (.int .i64 (g : Int)) := cellT bx 1 _ rfl
 go_upto_region 4 with fail
 go_cut [3] (fun s3 wx => ∃ v4, s3 = v4 ∧ Hid (ownB wx w.heap.size v4 ((K2 ++ [32, 108, 105, 109, 105, 116, 32]) ++ digL g)) ∧ Hid (TxS w.heap.size y2 wx))
 case first =>
  go_region_law (first | (go_simp; go_at_call 20; refine (appendInt_any w.heap.size vap _ g wap hoap zap Tap (by omega) (by simp only [List.length_append, List.length_cons, List.length_nil]; omega)).mono ?_; rintro e wbp ⟨vbp, rfl, hobp, sbp⟩; have ttp := tap.trans sbp; dsimp only) | (refine step_append_str rfl (.tmp 14) _ rfl w.heap.size (.slice ov K2.length cv) K2 rfl ho2.drew _ [32, 108, 105, 109, 105, 116, 32] rfl rfl (by simp only [List.length_cons, List.length_nil]; omega) s2 ?_; intro vap wap hoap sap gap; have bap := sap.box (show y2.drew.heap[w.heap.size]? = _ from bx) (by decide); have cap := cellT bap 1 _ rfl; have zap := sap.sz s2; have tap := (TxS.refl w.heap.size y2).drew.trans sap; have Tap := hT2.tx tap (Nat.le_refl _)))
  all_goals (go_wp2; go_meet)
  all_goals exact ⟨_, rfl, hide hobp, hide ttp⟩
 case rest =>
 obtain ⟨v4, rfl, HO4, HT4⟩ := hcut
 obtain ⟨y4, hwc⟩ : ∃ W, W = wc := ⟨_, rfl⟩
 subst hwc
 obtain ⟨K4, hK4⟩ : ∃ q, (K2 ++ [32, 108, 105, 109, 105, 116, 32]) ++ digL g = q := ⟨_, rfl⟩
 rw [hK4] at HO4
 have bK4 : K4.length ≤ 2000 := by rw [← hK4, List.length_append, List.length_append]; simp only [List.length_cons, List.length_nil]; omega
 rw [hK4] at HE
 replace bx := HT4.out.box bx (by decide)
 have T4 := T2.trans HT4.out
 have s4 := T4.sz (Nat.le_refl _)
 have ho4 := HO4.out
 clear hK4 ho2 xc1 T2 s2 HT4 HO4
 have xc2 : y4.cell? ⟨w.heap.size, 2, none⟩ = some (.bool m.dr) := cellT bx 2 _ rfl
 obtain ⟨z, hz⟩ : ∃ z, m.dr = z := ⟨_, rfl⟩
 rw [hz] at xc2
 have HZ := hide hz
 clear hz
 go_upto_if 20 with fail
 go_cut [3] (fun s3 wx => ∃ v5, s3 = v5 ∧ Hid (ownB wx w.heap.size v5 (K4 ++ drA m.dr)) ∧ Hid (TxS w.heap.size y4 wx))
 case first =>
  cases z with
  | true =>
   go_wp2_with (at_builtin; refine wpList_append_str rfl _ _ rfl w.heap.size _ K4 rfl ho4 _ [32, 100, 114, 97, 105, 110, 115] rfl rfl ?c5 s4 ?_)
   case c5 => simp only [List.length_cons, List.length_nil]; omega
   intro x5 y5 ho5 st5
   have HO5 : Hid (ownB y5 w.heap.size x5 (K4 ++ drA m.dr)) := hide (by rw [HZ.out]; exact ho5)
   have HS5 := hide st5
   clear ho5 st5
   go_wp2
   go_meet
   exact ⟨_, rfl, HO5, HS5⟩
  | false =>
   have HO5 : Hid (ownB y4 w.heap.size _ (K4 ++ drA m.dr)) := hide (by rw [HZ.out, show drA false = [] from rfl, List.append_nil]; exact ho4)
   go_wp2
   go_meet
   exact ⟨_, rfl, HO5, hide (TxS.refl _ _)⟩
 case rest =>
 obtain ⟨v5, rfl, HO5, HT5⟩ := hcut
 obtain ⟨y5, hwc⟩ : ∃ W, W = wc := ⟨_, rfl⟩
 subst hwc
 obtain ⟨K5, hK5⟩ : ∃ q, K4 ++ drA m.dr = q := ⟨_, rfl⟩
 rw [hK5] at HO5
 have bK5 : K5.length ≤ 3000 := by rw [← hK5, List.length_append]; omega
 rw [hK5] at HE
 replace bx := HT5.out.box bx (by decide)
 have T5 := T4.trans HT5.out
 have s5 := T5.sz (Nat.le_refl _)
 clear hK5 ho4 xc2 T4 s4 HT5 HZ
 have xc3 : y5.cell? ⟨w.heap.size, 3, none⟩ = some (.slice oc n1 cc) := cellT bx 3 _ rfl
 go_wp2_with fail
 refine (HFL.out y5 T5.bel).mono ?_
 rintro e y6 ⟨vf, rfl, hof, hb6⟩
 obtain ⟨oF, cF, evf, _⟩ := ownL.open hof
 subst evf
 have HOF := hide hof
 have T6 := T5.trans (TxS.below hb6 s5)
 have s6 := T6.sz (Nat.le_refl _)
 have HO6 := hide (own_kept HO5.out hb6)
 have HT6 := hide T6
 have hT6 := HT0.out.tx T6 (Nat.le_refl _)
 clear hof hb6 T5 s5 HO5 HFL xc3 bx T6
 go_wp2
 go_loopw [3, 27] (fun tv iv wr => ∃ k : Nat, k ≤ L.length ∧ iv = .int .i64 k ∧ ownB wr w.heap.size tv (K5 ++ flowsT L k) ∧ TxS w.heap.size y6 wr)
  (fun _ iv _ => L.length - (intOf iv).toNat)
 case atStart => exact ⟨0, Nat.zero_le _, rfl, by simpa [flowsT] using HO6.out, TxS.refl _ _⟩
 case round =>
  rename World => wz
  obtain ⟨k, hk, rfl, ho, sr⟩ := hrel
  have hsz := sr.sz s6
  have hlk := HLl.out k hk
  obtain ⟨K, hK⟩ : ∃ q, K5 ++ flowsT L k = q := ⟨_, rfl⟩
  have bK : K.length ≤ 4000000 := by rw [← hK, List.length_append]; omega
  rw [hK] at ho
  have HK := hide hK
  have HSR := hide sr
  have hof := ownF_tx HOF.out sr
  clear hK sr
  by_cases hlt : k < L.length
  ·obtain ⟨gb, rfl, hgb⟩ := own_at hof (by omega)
   obtain ⟨f0, f1⟩ := flow_cells hof hlt
   have hnat := HLo.out k hlt
   have HSU := hide (show flowsT L (k + 1) = flowsT L k ++ ([32] ++ flowTL (L.getD k (0, 0)).1.toNat (L.getD k (0, 0)).2.toNat) from rfl)
   obtain ⟨a, ha⟩ : ∃ a : Nat, (L.getD k (0, 0)).1 = a := ⟨(L.getD k (0, 0)).1.toNat, by omega⟩
   obtain ⟨p, hp⟩ : ∃ p : Nat, (L.getD k (0, 0)).2 = p := ⟨(L.getD k (0, 0)).2.toNat, by omega⟩
   rw [ha, hp, Int.toNat_natCast, Int.toNat_natCast] at HSU
   rw [ha] at f0 hnat
   rw [hp] at f1 hnat
   have HFC := hide (fun W (s : TxS w.heap.size wz W) => (show W.cell? ⟨gb, k * 2, none⟩ = some (.int .i64 (a : Int)) ∧ W.cell? ⟨gb, k * 2 + 1, none⟩ = some (.int .i64 (p : Int)) by have h := flow_cells (ownF_tx hof s) hlt; rw [ha, hp] at h; exact h))
   have z1 : (k : Int) < (L.length : Int) := by omega
   clear ha hp hof
   obtain ⟨Wf, hWf⟩ : ∃ W, (wz.alloc (.cells #[.int .i64 (a : Int), .int .i64 (p : Int)] 48)) = W := ⟨_, rfl⟩
   have hbf : Below wz.heap.size wz Wf := by rw [← hWf]; exact (Below.refl _ _).alloc (Nat.le_refl _) _
   have bf : Wf.heap[wz.heap.size]? = some (.cells #[.int .i64 (a : Int), .int .i64 (p : Int)] 48 (0, 0)) := by rw [← hWf]; exact heap_alloc_new wz _
   have Tf := TxS.below hbf hsz
   have hob := own_kept ho hbf
   have hTf := hT6.tx (HSR.out.trans Tf) (Nat.le_refl _)
   have hsw := hsz
   replace hsz := Tf.sz hsz
   have b0 : Wf.cell? ⟨wz.heap.size, 0, none⟩ = some (.int .i64 (a : Int)) := cellT bf 0 _ rfl
   have b1 : Wf.cell? ⟨wz.heap.size, 1, none⟩ = some (.int .i64 (p : Int)) := cellT bf 1 _ rfl
   have zf : wz.heap.size < Wf.heap.size := (Array.getElem?_eq_some_iff.1 bf).1
   have zf1 : wz.heap.size < Wf.heap.size + 1 := by omega
   clear ho hbf
   have hzA : ∀ O, w.heap.size ≤ (Wf.drew.alloc O).heap.size := fun O => Nat.le_trans hsz ((Below.refl Wf.drew.heap.size Wf.drew).alloc (Nat.le_refl _) O).size
   have HBA := hide (show ∀ O, Below Wf.heap.size Wf (Wf.drew.alloc O) from fun O => ((Below.refl Wf.heap.size Wf).drew).alloc (Nat.le_refl _) O)
   obtain ⟨ov, cv, ev, _⟩ := ownB.open (l := K) hob
   subst ev
   go_wp2
   go_region_law (first | (go_simp; go_at_call 22; refine (appendFlow_any w.heap.size vaz _ a p waz hoaz zaz TAZ (by omega) (by omega) (by simp only [List.length_append, List.length_cons, List.length_nil]; omega)).mono ?_; rintro e wdz ⟨vdz, rfl, hodz, sdz⟩; have ttz := tAz.trans sdz; dsimp only) | (refine step_append_txt rfl (.tmp 31) _ rfl w.heap.size (.slice ov K.length cv) K rfl (own_kept (hob.drew) ((Below.refl _ _).alloc (Nat.le_refl _) _)) (some ⟨Wf.heap.size, 0, none⟩) 1 [32] _ rfl rfl (fun h => by cases h) (rd_built Wf.drew 32) (by simp only [List.length_append, List.length_cons, List.length_nil]; omega) (hzA _) ?_; intro vaz waz hoaz saz gaz; have tAz := (TxS.below (HBA.out (.cells #[.int .u8 32] 5)) hsz).trans saz; have zaz := saz.sz (hzA _); have bfz := tAz.box bf (by decide); have f0z := cellT bfz 0 _ rfl; have f1z := cellT bfz 1 _ rfl; have TAZ := hTf.tx tAz (Nat.le_refl _)))
   all_goals (
    have HO7 : Hid (ownB wdz w.heap.size vdz (K5 ++ flowsT L (k + 1))) := by unfold Hid; rw [HSU.out, ← List.append_assoc, ← List.append_assoc, HK.out]; exact hodz
    have HZ7 := hide (HSR.out.trans (Tf.trans ttz))
    clear hodz ttz
    go_wp2
    go_roundw
    all_goals first
     | exact ⟨k + 1, by omega, by go_num, HO7.out, HZ7.out⟩
     | (simp [intOf]; omega))
  ·have hke : k = L.length := by omega
   subst hke
   have z1 : ¬ ((L.length : Int) < (L.length : Int)) := by omega
   go_wp2_with (at_builtin; refine wpList_append_one 10 rfl _ _ rfl w.heap.size _ K rfl ho rfl ?d6 hsz ?_)
   case d6 => omega
   intro x9 y9 ho9 st9
   have HO9 : Hid (ownB y9 w.heap.size x9 (agentTL m)) := by unfold Hid; rw [← HE.out, HK.out]; exact ho9
   have HX := hide (HT6.out.trans (HSR.out.trans st9)).bel
   clear ho ho9 st9
   go_wp2
   go_ret
   exact ⟨_, rfl, HO9.out, HX.out⟩

end Go.Proofs.YtljogkoaaidlcaaDoor

/- An agent's text, whatever the agent. -/
namespace Go.Proofs.YtljogkoaaidlcaaDoor
open Go.ChangeShapes Go.WideShapes Go.ChangeAt Go.RowKit Go.Joins
set_option linter.unusedVariables false
set_option linter.unusedSimpArgs false


theorem nDigits_le : ∀ (k u : Nat), u < 10 ^ (k + 1) → Go.Lib.nDigits u ≤ k + 1
 | 0, u, h => by rw [Go.Lib.nDigits_small (by simpa using h)]; exact Nat.le_refl _
 | k + 1, u, h => by
  by_cases h10 : u < 10
  ·rw [Go.Lib.nDigits_small h10]; omega
  ·rw [Go.Lib.nDigits_big h10]
   have := nDigits_le k (u / 10) (by rw [Nat.pow_succ] at h; omega)
   omega
theorem digL_five {n : Nat} (h : n < 65536) : (digL n).length ≤ 5 := by
 unfold digL
 rw [List.length_map, Go.Lib.decDigits_length]
 exact nDigits_le 4 n (by omega)
theorem flowsT_short {l : List (Int × Int)} (h : ∀ i, i < l.length → flowOkB (l.getD i (0, 0)).1 (l.getD i (0, 0)).2 = true) : ∀ k, k ≤ l.length → (flowsT l k).length ≤ 20 * k
 | 0, _ => by simp [flowsT]
 | k + 1, hk => by
  have h1 := flowsT_short h k (by omega)
  have h3 := flowA_nat (h k (by omega))
  have h4 := digL_five (n := (l.getD k (0, 0)).1.toNat) (by omega)
  have h5 := digL_five (n := (l.getD k (0, 0)).2.toNat) (by omega)
  simp only [flowsT, flowTL, List.length_append, List.length_cons, List.length_nil]
  omega
theorem agentT_short (m : Am) : (agentT m).length ≤ 5000 := by
 unfold agentT
 split
 ·next h =>
  have hp := agentOkB_parts.1 h
  have h1 := flowsT_short (flowsA_ok hp.2.2.2.2.1) _ (Nat.le_refl _)
  have h2 := flowsA_len m.c
  have h3 := digL_five (n := m.id.toNat) (by omega)
  have h4 := digL_five (n := m.lim.toNat) (by omega)
  have h5 := drA_len m.dr
  unfold agentTL
  simp only [List.length_append, List.length_cons, List.length_nil]
  omega
 ·simp
set_option maxRecDepth 100000 in
set_option maxHeartbeats 4000000 in
theorem specAgentText_no (m : Am) (oc ot : Option Addr) (n1 n2 cc ct : Nat) (w : World) (hR : RdA w.heap.size w (agt m.id m.lim m.dr (.slice oc n1 cc) (.slice ot n2 ct)) m) (hf : m.c.length + m.t.length ≤ 1048576) (hok : agentOkB m = false) :
  Calls Tryd.prog 5 #[(agt m.id m.lim m.dr (.slice oc n1 cc) (.slice ot n2 ct))] w fun e w' => e = .returned (.slice none 0 0) ∧ Below w.heap.size w w' := by
 obtain ⟨W0, hW0⟩ : ∃ W, (w.alloc (.cells #[.int .i64 m.id, .int .i64 m.lim, .bool m.dr, .slice oc n1 cc, .slice ot n2 ct] 34)) = W := ⟨_, rfl⟩
 have bx : W0.heap[w.heap.size]? = some (.cells #[.int .i64 m.id, .int .i64 m.lim, .bool m.dr, .slice oc n1 cc, .slice ot n2 ct] 34 (0, 0)) := by rw [← hW0]; exact heap_alloc_new w _
 have hb0 : Below w.heap.size w W0 := by rw [← hW0]; exact (Below.refl _ _).alloc (Nat.le_refl _) _
 have HA := hide (specAgentOk_sh (agt m.id m.lim m.dr (.slice oc n1 cc) (.slice ot n2 ct)) m W0 ((hR.kept hb0 (Nat.le_refl _)).le hb0.size) hf)
 rw [hok] at HA
 have HB := hide hb0
 have e0 := cellT bx 0 _ rfl
 have e1 := cellT bx 1 _ rfl
 have e2 := cellT bx 2 _ rfl
 have e3 := cellT bx 3 _ rfl
 have e4 := cellT bx 4 _ rfl
 clear hR hok hf bx hb0
 go_enter Tryd.func5, Tryd.ntmps5
 go_wp2_with fail
 refine HA.out.mono ?_
 rintro e y0 ⟨rfl, hb⟩
 have HE := hide (HB.out.trans (hb.mono HB.out.size))
 clear HA HB hb hW0 e0 e1 e2 e3 e4
 go_wp2
 go_ret
 exact ⟨rfl, HE.out⟩
theorem specAgentText_sh (v : Value) (m : Am) (w : World) (hR : RdA w.heap.size w v m) (hf : m.c.length + m.t.length ≤ 1048576) :
  Calls Tryd.prog 5 #[v] w fun e w' => ∃ v', e = .returned v' ∧ InB w.heap.size w'.heap.size w' v' (agentT m) ∧ Below w.heap.size w w' := by
 have hR0 := hR
 obtain ⟨vc, vt, rfl, ⟨oc, cc, rfl, _⟩, ⟨ot, ct, rfl, _⟩⟩ := hR0
 unfold agentT
 cases hok : agentOkB m with
 | false =>
  refine (specAgentText_no m oc ot _ _ cc ct w hR hf hok).mono ?_
  rintro e w' ⟨rfl, hb⟩
  rw [if_neg (by decide)]
  exact ⟨_, rfl, InB.of (World.ownsRow_nil _ _ _ _), hb⟩
 | true =>
  refine (specAgentText_yes m oc ot _ _ cc ct w hR hf hok).mono ?_
  rintro e w' ⟨v', rfl, ho, hb⟩
  rw [if_pos rfl]
  exact ⟨v', rfl, (InB.of ho), hb⟩
set_option maxRecDepth 100000 in
set_option maxHeartbeats 4000000 in
theorem implAgentText_no (m : Am) (oc ot : Option Addr) (n1 n2 cc ct : Nat) (w : World) (hR : RdA w.heap.size w (agt m.id m.lim m.dr (.slice oc n1 cc) (.slice ot n2 ct)) m) (hf : m.c.length + m.t.length ≤ 1048576) (hok : agentOkB m = false) :
  Calls Tryd.prog 7 #[(agt m.id m.lim m.dr (.slice oc n1 cc) (.slice ot n2 ct))] w fun e w' => e = .returned (.slice none 0 0) ∧ Below w.heap.size w w' := by
 obtain ⟨W0, hW0⟩ : ∃ W, (w.alloc (.cells #[.int .i64 m.id, .int .i64 m.lim, .bool m.dr, .slice oc n1 cc, .slice ot n2 ct] 34)) = W := ⟨_, rfl⟩
 have bx : W0.heap[w.heap.size]? = some (.cells #[.int .i64 m.id, .int .i64 m.lim, .bool m.dr, .slice oc n1 cc, .slice ot n2 ct] 34 (0, 0)) := by rw [← hW0]; exact heap_alloc_new w _
 have hb0 : Below w.heap.size w W0 := by rw [← hW0]; exact (Below.refl _ _).alloc (Nat.le_refl _) _
 have HA := hide (implAgentOk_sh (agt m.id m.lim m.dr (.slice oc n1 cc) (.slice ot n2 ct)) m W0 ((hR.kept hb0 (Nat.le_refl _)).le hb0.size) hf)
 rw [hok] at HA
 have HB := hide hb0
 have e0 := cellT bx 0 _ rfl
 have e1 := cellT bx 1 _ rfl
 have e2 := cellT bx 2 _ rfl
 have e3 := cellT bx 3 _ rfl
 have e4 := cellT bx 4 _ rfl
 clear hR hok hf bx hb0
 go_enter Tryd.func7, Tryd.ntmps7
 go_wp2_with fail
 refine HA.out.mono ?_
 rintro e y0 ⟨rfl, hb⟩
 have HE := hide (HB.out.trans (hb.mono HB.out.size))
 clear HA HB hb hW0 e0 e1 e2 e3 e4
 go_wp2
 go_ret
 exact ⟨rfl, HE.out⟩
theorem implAgentText_sh (v : Value) (m : Am) (w : World) (hR : RdA w.heap.size w v m) (hf : m.c.length + m.t.length ≤ 1048576) (hT : PTab w.heap.size w) :
  Calls Tryd.prog 7 #[v] w fun e w' => ∃ v', e = .returned v' ∧ InB w.heap.size w'.heap.size w' v' (agentT m) ∧ Below w.heap.size w w' := by
 have hR0 := hR
 obtain ⟨vc, vt, rfl, ⟨oc, cc, rfl, _⟩, ⟨ot, ct, rfl, _⟩⟩ := hR0
 unfold agentT
 cases hok : agentOkB m with
 | false =>
  refine (implAgentText_no m oc ot _ _ cc ct w hR hf hok).mono ?_
  rintro e w' ⟨rfl, hb⟩
  rw [if_neg (by decide)]
  exact ⟨_, rfl, InB.of (World.ownsRow_nil _ _ _ _), hb⟩
 | true =>
  refine (implAgentText_yes m oc ot _ _ cc ct w hR hf hok hT).mono ?_
  rintro e w' ⟨v', rfl, ho, hb⟩
  rw [if_pos rfl]
  exact ⟨v', rfl, (InB.of ho), hb⟩

end Go.Proofs.YtljogkoaaidlcaaDoor

