/- For every input the law FnPackets answers true: a drawn packet comes back from its bytes, of which the sum is nought; whatever bytes are read as one are just its. The library's table of powers of ten reads as its text lays it, which the card ties. -/
import Derived.Test.YtdoijnmgnocjaaaDoorSDrawPR
import Derived.Test.YtdoijnmgnocjaaaDoorWires
import Derived.Test.YtdoijnmgnocjaaaDoorSText
import Derived.Test.YtdoijnmgnocjaaaDoorSOpens
import Derived.Test.YtdoijnmgnocjaaaDoorLifts
namespace Go.Proofs.YtdoijnmgnocjaaaDoor
open Go.ChangeShapes Go.WideShapes Go.ChangeAt Go.RowKit Go.Joins
set_option linter.unusedVariables false
set_option linter.unusedSimpArgs false

theorem lt_of_box {w : World} {k : Nat} {X : Obj} (h : w.heap[k]? = some X) : k < w.heap.size := (Array.getElem?_eq_some_iff.1 h).1
set_option maxHeartbeats 400000 in
theorem sameP_any (o1 o2 : Option Addr) (c1 c2 : Nat) (l1 l2 : List Int) (w : World) (h1 : Rd w o1 l1) (h2 : Rd w o2 l2) (b1 : isB l1) (b2 : isB l2) :
    Calls Tryd.prog 14 #[.slice o1 l1.length c1, .slice o2 l2.length c2] w fun e w' => e = .returned (.bool (decide (l1 = l2))) ∧ w = w' := by
  have k1 := run_conv c1 h1
  have k2 := run_conv c2 h2
  have HE := hide (str_inj b1 b2)
  go_enter Tryd.func14, Tryd.ntmps14
  go_wp2
  go_ret
  exact ⟨ret_bool HE.out, rfl⟩
set_option maxRecDepth 100000 in
set_option maxHeartbeats 8000000 in
theorem lawPackets (o : Option Addr) (cap : Nat) (l : List Int) (w : World) (hm : l.length ≤ maxLen) (hR : Rd w o l) (hB8 : isB l) (hT : Tab w.heap.size w) :
    Calls Tryd.prog 3 #[.slice o l.length cap] w fun e w' => e = .returned (.bool true) ∧ Below w.heap.size w w' := by
  have HB := hide (Below.refl w.heap.size w)
  go_enter Tryd.func3, Tryd.ntmps3
  go_wp2_with fail
  refine (drawPacketBytes_any o cap l w hR hB8 hm).mono ?_
  rintro e w1 ⟨a, b, f, s, v, L, rfl, hv, hL, hn, hb⟩
  replace hR := hR.kept hb
  replace hT := hT.on hb HB.out.size
  replace HB := hide (HB.out.trans (hb.mono HB.out.size))
  clear hb
  obtain ⟨ov, cv, hve, RL⟩ := hv.open
  subst hve
  have nv := own_nilP hv
  clear hv
  obtain ⟨nL, hnL⟩ : ∃ n, L.length = n := ⟨_, rfl⟩
  have HNL := hide hnL
  have HPB := hide (fun W (h : Rd W ov L) => implPacketBytes_any a b f s ov cv L W h nv hL (by unfold maxLen; omega))
  have HSO := hide (fun W => specPacketOk_any a b f s ov L.length cv W (by unfold maxLen; omega))
  have HIO := hide (fun W => implPacketOk_any a b f s ov L.length cv W (by unfold maxLen; omega))
  have HPT := hide (fun W (h : Tab W.heap.size W) => implPacketText_any W.heap.size a b f s ov L.length cv W (by unfold maxLen; omega) (Nat.le_refl _) h)
  have HOP := hide (fun W => implOpens_any a b f s ov L.length cv W (by unfold maxLen; omega))
  have HNO := hide (fun h : packetOkB a b f s L.length = false => pktT_no (n := L.length) h)
  have HYE := hide (fun h : packetOkB a b f s L.length = true => pktT_yes (n := L.length) h)
  have HBD := hide (fun h : packetOkB a b f s L.length = true => packetOk_bd h)
  have HBK := hide (fun h : packetOkB a b f s L.length = true => packet_back h)
  obtain ⟨B, hBe⟩ : ∃ B, packetOkB a b f s L.length = B := ⟨_, rfl⟩
  have HOB : Hid (B = false → opensB a b f s L.length = false) := fun e => by unfold opensB; rw [hBe, e]; rfl
  have HYL : Hid (bytesL a b f s L = if B = true then packetL a b f s L else []) := by unfold Hid bytesL; rw [hBe]
  rw [hBe] at HPB HSO HIO HNO HYE HBD HBK
  clear hBe
  rw [hnL] at HPB HSO HIO HPT HOP HNO HYE HOB ⊢
  clear hnL
  have bp : (w1.alloc (.cells #[.int .i64 a, .int .i64 b, .int .i64 f, .int .i64 s, .slice ov nL cv] 26)).heap[w1.heap.size]? = some (.cells #[.int .i64 a, .int .i64 b, .int .i64 f, .int .i64 s, .slice ov nL cv] 26 (0, 0)) := heap_alloc_new w1 _
  have hba : Below w1.heap.size w1 (w1.alloc (.cells #[.int .i64 a, .int .i64 b, .int .i64 f, .int .i64 s, .slice ov nL cv] 26)) := (Below.refl _ _).alloc (Nat.le_refl _) _
  have bpc0 : (w1.alloc (.cells #[.int .i64 a, .int .i64 b, .int .i64 f, .int .i64 s, .slice ov nL cv] 26)).cell? ⟨w1.heap.size, 0, none⟩ = some (.int .i64 a) := cellT bp 0 _ rfl
  have bpc1 : (w1.alloc (.cells #[.int .i64 a, .int .i64 b, .int .i64 f, .int .i64 s, .slice ov nL cv] 26)).cell? ⟨w1.heap.size, 1, none⟩ = some (.int .i64 b) := cellT bp 1 _ rfl
  have bpc2 : (w1.alloc (.cells #[.int .i64 a, .int .i64 b, .int .i64 f, .int .i64 s, .slice ov nL cv] 26)).cell? ⟨w1.heap.size, 2, none⟩ = some (.int .i64 f) := cellT bp 2 _ rfl
  have bpc3 : (w1.alloc (.cells #[.int .i64 a, .int .i64 b, .int .i64 f, .int .i64 s, .slice ov nL cv] 26)).cell? ⟨w1.heap.size, 3, none⟩ = some (.int .i64 s) := cellT bp 3 _ rfl
  have bpc4 : (w1.alloc (.cells #[.int .i64 a, .int .i64 b, .int .i64 f, .int .i64 s, .slice ov nL cv] 26)).cell? ⟨w1.heap.size, 4, none⟩ = some (.slice ov nL cv) := cellT bp 4 _ rfl
  have Hbx := hide bp
  have Hba := hide hba
  clear bp hba
  go_wp2_with fail
  clear bpc0 bpc1 bpc2 bpc3 bpc4
  have bp := Hbx.out
  have hba := Hba.out
  clear Hbx Hba
  generalize w1.alloc (.cells #[.int .i64 a, .int .i64 b, .int .i64 f, .int .i64 s, .slice ov nL cv] 26) = w2 at *
  replace hR := hR.kept hba
  replace RL := RL.kept hba
  replace hT := hT.on hba HB.out.size
  replace HB := hide (HB.out.trans (hba.mono HB.out.size))
  clear hba
  refine (HPB.out w2 RL).mono ?_
  rintro e w3 ⟨vb, rfl, hvb, hb⟩
  replace bp := (hb.block _ (lt_of_box bp)).trans bp
  replace hR := hR.kept hb
  replace RL := RL.kept hb
  replace hT := hT.on hb HB.out.size
  replace HB := hide (HB.out.trans (hb.mono HB.out.size))
  clear hb HPB
  rw [HYL.out] at hvb
  clear HYL
  cases B with
  | false =>
    rw [if_neg (by decide)] at hvb
    obtain ⟨ob, cb, hbe, Rb⟩ := hvb.open
    subst hbe
    obtain ⟨PL, hPL⟩ : ∃ q, ([] : List Int) = q := ⟨_, rfl⟩
    have EPL := hide hPL
    obtain ⟨nP, hnP⟩ : ∃ n, PL.length = n := ⟨_, rfl⟩
    have ENP := hide hnP
    have ncb := own_nilP hvb
    rw [hPL] at Rb ⊢
    rw [hnP]
    clear hPL hvb
    clear hnP
    have bpc0 : w3.cell? ⟨w1.heap.size, 0, none⟩ = some (.int .i64 a) := cellT bp 0 _ rfl
    have bpc1 : w3.cell? ⟨w1.heap.size, 1, none⟩ = some (.int .i64 b) := cellT bp 1 _ rfl
    have bpc2 : w3.cell? ⟨w1.heap.size, 2, none⟩ = some (.int .i64 f) := cellT bp 2 _ rfl
    have bpc3 : w3.cell? ⟨w1.heap.size, 3, none⟩ = some (.int .i64 s) := cellT bp 3 _ rfl
    have bpc4 : w3.cell? ⟨w1.heap.size, 4, none⟩ = some (.slice ov nL cv) := cellT bp 4 _ rfl
    go_wp2_with fail
    refine (HSO.out w3).mono ?_
    rintro e w4 ⟨rfl, hb⟩
    clear bpc0 bpc1 bpc2 bpc3 bpc4
    replace bp := (hb.block _ (lt_of_box bp)).trans bp
    replace hR := hR.kept hb
    replace RL := RL.kept hb
    replace Rb := Rb.kept hb
    replace hT := hT.on hb HB.out.size
    replace HB := hide (HB.out.trans (hb.mono HB.out.size))
    clear hb
    have bpc0 : w4.cell? ⟨w1.heap.size, 0, none⟩ = some (.int .i64 a) := cellT bp 0 _ rfl
    have bpc1 : w4.cell? ⟨w1.heap.size, 1, none⟩ = some (.int .i64 b) := cellT bp 1 _ rfl
    have bpc2 : w4.cell? ⟨w1.heap.size, 2, none⟩ = some (.int .i64 f) := cellT bp 2 _ rfl
    have bpc3 : w4.cell? ⟨w1.heap.size, 3, none⟩ = some (.int .i64 s) := cellT bp 3 _ rfl
    have bpc4 : w4.cell? ⟨w1.heap.size, 4, none⟩ = some (.slice ov nL cv) := cellT bp 4 _ rfl
    go_wp2_with fail
    refine (HIO.out w4).mono ?_
    rintro e w5 ⟨rfl, hb⟩
    clear bpc0 bpc1 bpc2 bpc3 bpc4
    replace bp := (hb.block _ (lt_of_box bp)).trans bp
    replace hR := hR.kept hb
    replace RL := RL.kept hb
    replace Rb := Rb.kept hb
    replace hT := hT.on hb HB.out.size
    replace HB := hide (HB.out.trans (hb.mono HB.out.size))
    clear hb
    have bpc0 : w5.cell? ⟨w1.heap.size, 0, none⟩ = some (.int .i64 a) := cellT bp 0 _ rfl
    have bpc1 : w5.cell? ⟨w1.heap.size, 1, none⟩ = some (.int .i64 b) := cellT bp 1 _ rfl
    have bpc2 : w5.cell? ⟨w1.heap.size, 2, none⟩ = some (.int .i64 f) := cellT bp 2 _ rfl
    have bpc3 : w5.cell? ⟨w1.heap.size, 3, none⟩ = some (.int .i64 s) := cellT bp 3 _ rfl
    have bpc4 : w5.cell? ⟨w1.heap.size, 4, none⟩ = some (.slice ov nL cv) := cellT bp 4 _ rfl
    have hT5 := hT.le HB.out.size
    go_wp2_with fail
    refine (HPT.out w5 hT5).mono ?_
    rintro e w6 ⟨vt, rfl, hvt, st⟩
    have hb := st.bel
    clear hT5
    obtain ⟨ot, ct, hte, _⟩ := hvt.open
    subst hte
    clear bpc0 bpc1 bpc2 bpc3 bpc4
    replace bp := (hb.block _ (lt_of_box bp)).trans bp
    replace hR := hR.kept hb
    replace RL := RL.kept hb
    replace Rb := Rb.kept hb
    replace hT := hT.on hb HB.out.size
    replace HB := hide (HB.out.trans (hb.mono HB.out.size))
    have hnT : (pktT a b f s nL).length = 0 := by rw [HNO.out (by trivial)]; rfl
    rw [hnT]
    clear hnT hvt st hb
    have bpc0 : w6.cell? ⟨w1.heap.size, 0, none⟩ = some (.int .i64 a) := cellT bp 0 _ rfl
    have bpc1 : w6.cell? ⟨w1.heap.size, 1, none⟩ = some (.int .i64 b) := cellT bp 1 _ rfl
    have bpc2 : w6.cell? ⟨w1.heap.size, 2, none⟩ = some (.int .i64 f) := cellT bp 2 _ rfl
    have bpc3 : w6.cell? ⟨w1.heap.size, 3, none⟩ = some (.int .i64 s) := cellT bp 3 _ rfl
    have bpc4 : w6.cell? ⟨w1.heap.size, 4, none⟩ = some (.slice ov nL cv) := cellT bp 4 _ rfl
    go_wp2_with fail
    refine (HOP.out w6).mono ?_
    rintro e w7 ⟨rfl, hb⟩
    clear bpc0 bpc1 bpc2 bpc3 bpc4
    replace bp := (hb.block _ (lt_of_box bp)).trans bp
    replace hR := hR.kept hb
    replace RL := RL.kept hb
    replace Rb := Rb.kept hb
    replace hT := hT.on hb HB.out.size
    replace HB := hide (HB.out.trans (hb.mono HB.out.size))
    clear hb
    rw [HOB.out (by trivial)]
    go_wp2_with fail
    refine (drawPacketRead_any o cap l w7 hR hB8 hm).mono ?_
    rintro e u1 ⟨o', c', L', rfl, R', B8', hl', hc1', hc2', hb⟩
    replace bp := (hb.block _ (lt_of_box bp)).trans bp
    replace hR := hR.kept hb
    replace RL := RL.kept hb
    replace Rb := Rb.kept hb
    replace hT := hT.on hb HB.out.size
    replace HB := hide (HB.out.trans (hb.mono HB.out.size))
    clear hb
    obtain ⟨n', hn'⟩ : ∃ n, L'.length = n := ⟨_, rfl⟩
    have EN' := hide hn'
    have HRD := hide (fun W (h : Rd W o' L') => implPacketRead_any o' c' L' W h B8' (by omega) hc1' hc2')
    have HSM := hide (fun W od cd D (h1 : Rd W od D) (h2 : Rd W o' L') (hD : isB D) => sameP_any od o' cd c' D L' W h1 h2 hD B8')
    rw [hn'] at HRD HSM ⊢
    clear hn' hc1' hc2'
    go_wp2_with fail
    refine (HRD.out u1 R').mono ?_
    rintro e u2 ⟨vy, rfl, hvy, hb⟩
    replace bp := (hb.block _ (lt_of_box bp)).trans bp
    replace hR := hR.kept hb
    replace RL := RL.kept hb
    replace Rb := Rb.kept hb
    replace R' := R'.kept hb
    replace hT := hT.on hb HB.out.size
    replace HB := hide (HB.out.trans (hb.mono HB.out.size))
    clear hb HRD
    obtain ⟨oy, cy, hye, Ry⟩ := hvy.open
    subst hye
    have ny := own_nilP hvy
    have HYF : Hid (isB (rdL L') ∧ (okR L' = true → packetOkB (rdN L' (pairLS L' 0)) (rdN L' (pairLS L' 2)) (rdN L' (L'.getD 6 0)) (rdN L' (pairLS L' 4)) (rdL L').length = true ∧ bytesL (rdN L' (pairLS L' 0)) (rdN L' (pairLS L' 2)) (rdN L' (L'.getD 6 0)) (rdN L' (pairLS L' 4)) (rdL L') = L')) := by
      refine ⟨?_, fun h => ?_⟩
      · unfold rdL; split
        · exact drop_isB B8' 10
        · intro z hz; cases hz
      · have q := okR_iff.1 h
        unfold rdN rdL
        rw [if_pos h, if_pos h, if_pos h, if_pos h, if_pos h]
        exact ⟨q.2.1, by unfold bytesL; rw [if_pos q.2.1]; exact q.2.2.1⟩
    have hly : (rdL L').length ≤ 100 := by unfold rdL; split <;> simp <;> omega
    generalize rdN L' (pairLS L' 0) = a2 at *
    generalize rdN L' (pairLS L' 2) = b2 at *
    generalize rdN L' (L'.getD 6 0) = f2 at *
    generalize rdN L' (pairLS L' 4) = s2 at *
    generalize rdL L' = Ly at *
    generalize okR L' = F at *
    obtain ⟨ny', hny⟩ : ∃ n, Ly.length = n := ⟨_, rfl⟩
    have HPB := hide (fun W (h : Rd W oy Ly) => implPacketBytes_any a2 b2 f2 s2 oy cy Ly W h ny HYF.out.1 (by unfold maxLen; omega))
    have HBI : Hid (isB (bytesL a2 b2 f2 s2 Ly)) := by
      unfold Hid bytesL; split
      · rename_i hq; obtain ⟨q1, q2, q3, q4, q5⟩ := packetOk_bd hq; exact packetL_isB HYF.out.1 q1 q2 q3 q4 q5
      · intro z hz; cases hz
    rw [hny] at HPB HYF ⊢
    clear hny hvy
    have by2 : (u2.alloc (.cells #[.int .i64 a2, .int .i64 b2, .int .i64 f2, .int .i64 s2, .slice oy ny' cy] 26)).heap[u2.heap.size]? = some (.cells #[.int .i64 a2, .int .i64 b2, .int .i64 f2, .int .i64 s2, .slice oy ny' cy] 26 (0, 0)) := heap_alloc_new u2 _
    have hba : Below u2.heap.size u2 (u2.alloc (.cells #[.int .i64 a2, .int .i64 b2, .int .i64 f2, .int .i64 s2, .slice oy ny' cy] 26)) := (Below.refl _ _).alloc (Nat.le_refl _) _
    have by2c0 : (u2.alloc (.cells #[.int .i64 a2, .int .i64 b2, .int .i64 f2, .int .i64 s2, .slice oy ny' cy] 26)).cell? ⟨u2.heap.size, 0, none⟩ = some (.int .i64 a2) := cellT by2 0 _ rfl
    have by2c1 : (u2.alloc (.cells #[.int .i64 a2, .int .i64 b2, .int .i64 f2, .int .i64 s2, .slice oy ny' cy] 26)).cell? ⟨u2.heap.size, 1, none⟩ = some (.int .i64 b2) := cellT by2 1 _ rfl
    have by2c2 : (u2.alloc (.cells #[.int .i64 a2, .int .i64 b2, .int .i64 f2, .int .i64 s2, .slice oy ny' cy] 26)).cell? ⟨u2.heap.size, 2, none⟩ = some (.int .i64 f2) := cellT by2 2 _ rfl
    have by2c3 : (u2.alloc (.cells #[.int .i64 a2, .int .i64 b2, .int .i64 f2, .int .i64 s2, .slice oy ny' cy] 26)).cell? ⟨u2.heap.size, 3, none⟩ = some (.int .i64 s2) := cellT by2 3 _ rfl
    have by2c4 : (u2.alloc (.cells #[.int .i64 a2, .int .i64 b2, .int .i64 f2, .int .i64 s2, .slice oy ny' cy] 26)).cell? ⟨u2.heap.size, 4, none⟩ = some (.slice oy ny' cy) := cellT by2 4 _ rfl
    have Hbx := hide by2
    have Hba := hide hba
    clear by2 hba
    go_wp2_with fail
    clear by2c0 by2c1 by2c2 by2c3 by2c4
    have by2 := Hbx.out
    have hba := Hba.out
    clear Hbx Hba
    generalize u2.alloc (.cells #[.int .i64 a2, .int .i64 b2, .int .i64 f2, .int .i64 s2, .slice oy ny' cy] 26) = u3 at *
    replace bp := (hba.block _ (lt_of_box bp)).trans bp
    replace hR := hR.kept hba
    replace RL := RL.kept hba
    replace Rb := Rb.kept hba
    replace R' := R'.kept hba
    replace Ry := Ry.kept hba
    replace hT := hT.on hba HB.out.size
    replace HB := hide (HB.out.trans (hba.mono HB.out.size))
    clear hba
    refine (HPB.out u3 Ry).mono ?_
    rintro e u4 ⟨vd, rfl, hvd, hb⟩
    replace bp := (hb.block _ (lt_of_box bp)).trans bp
    replace by2 := (hb.block _ (lt_of_box by2)).trans by2
    replace hR := hR.kept hb
    replace RL := RL.kept hb
    replace Rb := Rb.kept hb
    replace R' := R'.kept hb
    replace Ry := Ry.kept hb
    replace hT := hT.on hb HB.out.size
    replace HB := hide (HB.out.trans (hb.mono HB.out.size))
    clear hb HPB
    obtain ⟨od, cd, hde, Rdd⟩ := hvd.open
    subst hde
    obtain ⟨D, hD⟩ : ∃ D, bytesL a2 b2 f2 s2 Ly = D := ⟨_, rfl⟩
    rw [hD] at Rdd HBI HYF ⊢
    generalize packetOkB a2 b2 f2 s2 ny' = G at *
    clear hD hvd
    obtain ⟨nD, hnD⟩ : ∃ n, D.length = n := ⟨_, rfl⟩
    have HSM2 := hide (fun W (h1 : Rd W od D) (h2 : Rd W o' L') => HSM.out W od cd D h1 h2 HBI.out)
    rw [hnD] at HSM2 ⊢
    clear hnD HSM
    go_wp2_with fail
    refine (wires_any u4).mono ?_
    rintro e u5 ⟨rfl, hb⟩
    replace bp := (hb.block _ (lt_of_box bp)).trans bp
    replace by2 := (hb.block _ (lt_of_box by2)).trans by2
    replace hR := hR.kept hb
    replace RL := RL.kept hb
    replace Rb := Rb.kept hb
    replace R' := R'.kept hb
    replace Ry := Ry.kept hb
    replace Rdd := Rdd.kept hb
    replace hT := hT.on hb HB.out.size
    replace HB := hide (HB.out.trans (hb.mono HB.out.size))
    clear hb
    cases F with
    | false =>
      go_wp2
      go_ret
      exact ⟨rfl, HB.out⟩
    | true =>
      obtain ⟨hg, hd⟩ := HYF.out.2 rfl
      have HDL : Hid (decide (D = L') = true) := decide_eq_true hd
      subst hg
      clear hd
      go_wp2_with fail
      refine (HSM2.out u5 Rdd R').mono ?_
      rintro e _ ⟨rfl, rfl⟩
      rw [HDL.out]
      go_wp2
      go_ret
      exact ⟨rfl, HB.out⟩
  | true =>
    rw [if_pos rfl] at hvb
    obtain ⟨ob, cb, hbe, Rb⟩ := hvb.open
    subst hbe
    obtain ⟨PL, hPL⟩ : ∃ q, packetL a b f s L = q := ⟨_, rfl⟩
    have EPL := hide hPL
    obtain ⟨nP, hnP⟩ : ∃ n, PL.length = n := ⟨_, rfl⟩
    have ENP := hide hnP
    have ncb := own_nilP hvb
    have hcap : PL.length ≤ cb ∧ cb ≤ maxLen := by
      rw [hPL] at hvb
      obtain ⟨gb, cb', e9, _⟩ := hvb.pos (by rw [← hPL, packetL_length]; omega)
      injection e9 with e9 _ e10
      subst e9 e10
      exact own_cap hvb
    rw [hPL] at Rb ⊢
    rw [hnP]
    clear hPL hvb
    rw [hnP] at hcap
    clear hnP
    have bpc0 : w3.cell? ⟨w1.heap.size, 0, none⟩ = some (.int .i64 a) := cellT bp 0 _ rfl
    have bpc1 : w3.cell? ⟨w1.heap.size, 1, none⟩ = some (.int .i64 b) := cellT bp 1 _ rfl
    have bpc2 : w3.cell? ⟨w1.heap.size, 2, none⟩ = some (.int .i64 f) := cellT bp 2 _ rfl
    have bpc3 : w3.cell? ⟨w1.heap.size, 3, none⟩ = some (.int .i64 s) := cellT bp 3 _ rfl
    have bpc4 : w3.cell? ⟨w1.heap.size, 4, none⟩ = some (.slice ov nL cv) := cellT bp 4 _ rfl
    go_wp2_with fail
    refine (HSO.out w3).mono ?_
    rintro e w4 ⟨rfl, hb⟩
    clear bpc0 bpc1 bpc2 bpc3 bpc4
    replace bp := (hb.block _ (lt_of_box bp)).trans bp
    replace hR := hR.kept hb
    replace RL := RL.kept hb
    replace Rb := Rb.kept hb
    replace hT := hT.on hb HB.out.size
    replace HB := hide (HB.out.trans (hb.mono HB.out.size))
    clear hb
    have bpc0 : w4.cell? ⟨w1.heap.size, 0, none⟩ = some (.int .i64 a) := cellT bp 0 _ rfl
    have bpc1 : w4.cell? ⟨w1.heap.size, 1, none⟩ = some (.int .i64 b) := cellT bp 1 _ rfl
    have bpc2 : w4.cell? ⟨w1.heap.size, 2, none⟩ = some (.int .i64 f) := cellT bp 2 _ rfl
    have bpc3 : w4.cell? ⟨w1.heap.size, 3, none⟩ = some (.int .i64 s) := cellT bp 3 _ rfl
    have bpc4 : w4.cell? ⟨w1.heap.size, 4, none⟩ = some (.slice ov nL cv) := cellT bp 4 _ rfl
    go_wp2_with fail
    refine (HIO.out w4).mono ?_
    rintro e w5 ⟨rfl, hb⟩
    clear bpc0 bpc1 bpc2 bpc3 bpc4
    replace bp := (hb.block _ (lt_of_box bp)).trans bp
    replace hR := hR.kept hb
    replace RL := RL.kept hb
    replace Rb := Rb.kept hb
    replace hT := hT.on hb HB.out.size
    replace HB := hide (HB.out.trans (hb.mono HB.out.size))
    clear hb
    have bpc0 : w5.cell? ⟨w1.heap.size, 0, none⟩ = some (.int .i64 a) := cellT bp 0 _ rfl
    have bpc1 : w5.cell? ⟨w1.heap.size, 1, none⟩ = some (.int .i64 b) := cellT bp 1 _ rfl
    have bpc2 : w5.cell? ⟨w1.heap.size, 2, none⟩ = some (.int .i64 f) := cellT bp 2 _ rfl
    have bpc3 : w5.cell? ⟨w1.heap.size, 3, none⟩ = some (.int .i64 s) := cellT bp 3 _ rfl
    have bpc4 : w5.cell? ⟨w1.heap.size, 4, none⟩ = some (.slice ov nL cv) := cellT bp 4 _ rfl
    have hT5 := hT.le HB.out.size
    go_wp2_with fail
    refine (HPT.out w5 hT5).mono ?_
    rintro e w6 ⟨vt, rfl, hvt, st⟩
    have hb := st.bel
    clear hT5
    obtain ⟨ot, ct, hte, _⟩ := hvt.open
    subst hte
    clear bpc0 bpc1 bpc2 bpc3 bpc4
    replace bp := (hb.block _ (lt_of_box bp)).trans bp
    replace hR := hR.kept hb
    replace RL := RL.kept hb
    replace Rb := Rb.kept hb
    replace hT := hT.on hb HB.out.size
    replace HB := hide (HB.out.trans (hb.mono HB.out.size))
    obtain ⟨nT, hnT⟩ : ∃ n, (pktT a b f s nL).length = n := ⟨_, rfl⟩
    have hT0 : (0 : Int) < (nT : Int) := by
      obtain ⟨a', b', s', _, _, _, _, _, _, _, _, _, e9⟩ := HYE.out (by trivial)
      have := pktTL_pos a' b' f s' nL
      rw [← e9, hnT] at this
      omega
    rw [hnT]
    clear hnT hvt st hb
    have bpc0 : w6.cell? ⟨w1.heap.size, 0, none⟩ = some (.int .i64 a) := cellT bp 0 _ rfl
    have bpc1 : w6.cell? ⟨w1.heap.size, 1, none⟩ = some (.int .i64 b) := cellT bp 1 _ rfl
    have bpc2 : w6.cell? ⟨w1.heap.size, 2, none⟩ = some (.int .i64 f) := cellT bp 2 _ rfl
    have bpc3 : w6.cell? ⟨w1.heap.size, 3, none⟩ = some (.int .i64 s) := cellT bp 3 _ rfl
    have bpc4 : w6.cell? ⟨w1.heap.size, 4, none⟩ = some (.slice ov nL cv) := cellT bp 4 _ rfl
    go_wp2_with fail
    refine (HOP.out w6).mono ?_
    rintro e w7 ⟨rfl, hb⟩
    clear bpc0 bpc1 bpc2 bpc3 bpc4
    replace bp := (hb.block _ (lt_of_box bp)).trans bp
    replace hR := hR.kept hb
    replace RL := RL.kept hb
    replace Rb := Rb.kept hb
    replace hT := hT.on hb HB.out.size
    replace HB := hide (HB.out.trans (hb.mono HB.out.size))
    clear hb
    generalize opensB a b f s nL = OP at *
    have HRD := hide (fun W (h : Rd W ob PL) (hp : isB PL) => implPacketRead_any ob cb PL W h hp (by have := EPL.out; have := packetL_length a b f s L; have := HNL.out; rw [← EPL.out, packetL_length]; omega) (by rw [ENP.out]; exact hcap.1) hcap.2)
    have hPB : isB PL := by
      obtain ⟨q1, q2, q3, q4, q5⟩ := HBD.out (by trivial)
      rw [← EPL.out]; exact packetL_isB hL q1 q2 q3 q4 q5
    have HRF : Hid (okR PL = true ∧ rdN PL (pairLS PL 0) = a ∧ rdN PL (pairLS PL 2) = b ∧ rdN PL (PL.getD 6 0) = f ∧ rdN PL (pairLS PL 4) = s ∧ rdL PL = L ∧ sumL PL = 0) := by
      obtain ⟨q1, q2, q3, q4, q5⟩ := HBD.out (by trivial)
      have k := HBK.out (by trivial)
      have p := packet_parts a b f s L
      have z := packet_sum hL q1 q2 q3 q4 q5
      rw [EPL.out] at k p z
      unfold Hid rdN rdL
      rw [if_pos k, if_pos k, if_pos k, if_pos k, if_pos k]
      exact ⟨k, p.1, p.2.1, p.2.2.2.1, p.2.2.1, p.2.2.2.2.1, z⟩
    rw [ENP.out] at HRD
    have HBY := hide (fun W ox cx (h : Rd W ox L) (hn9 : ox = none → cx = 0) => implPacketBytes_any a b f s ox cx L W h hn9 hL (by have := HNL.out; unfold maxLen; omega))
    have HBY2 : Hid (packetOkB a b f s L.length = true ∧ bytesL a b f s L = PL) := by
      have k := HBK.out (by trivial)
      have q := okR_iff.1 (HRF.out.1)
      have p := packet_parts a b f s L
      rw [EPL.out] at p
      have h9 : packetOkB a b f s L.length = true := by have h8 := q.2.1; rw [p.1, p.2.1, p.2.2.1, p.2.2.2.1, p.2.2.2.2.1] at h8; exact h8
      exact ⟨h9, by unfold bytesL; rw [if_pos h9]; exact EPL.out⟩
    rw [HBY2.out.1, HBY2.out.2] at HBY
    rw [HNL.out] at HBY
    have HCK := hide (fun W (h : Rd W ob PL) => implCheckSum_any ob cb PL W h hPB (by rw [← EPL.out, packetL_length]; have := HNL.out; omega))
    rw [ENP.out] at HCK
    rw [HRF.out.2.2.2.2.2.2] at HCK
    have HSP := hide (fun W ox cx (h : Rd W ox PL) (k : Rd W ob PL) => sameP_any ob ox cb cx PL PL W k h hPB hPB)
    rw [ENP.out, decide_eq_true (rfl : PL = PL)] at HSP
    cases OP
    all_goals (
      go_wp2_with fail
      refine (HRD.out w7 Rb hPB).mono ?_
      rintro e w8 ⟨vx, rfl, hvx, hb⟩
      obtain ⟨f0, f1, f2, f3, f4, f5, _⟩ := HRF.out
      rw [f5] at hvx
      rw [f0, f1, f2, f3, f4]
      clear f0 f1 f2 f3 f4 f5
      replace bp := (hb.block _ (lt_of_box bp)).trans bp
      replace hR := hR.kept hb
      replace RL := RL.kept hb
      replace Rb := Rb.kept hb
      replace hT := hT.on hb HB.out.size
      replace HB := hide (HB.out.trans (hb.mono HB.out.size))
      clear hb HRD
      obtain ⟨ox, cx, hxe, Rx⟩ := hvx.open
      subst hxe
      have nx := own_nilP hvx
      rw [HNL.out]
      clear hvx
      have bx3 : (w8.alloc (.cells #[.int .i64 a, .int .i64 b, .int .i64 f, .int .i64 s, .slice ox nL cx] 26)).heap[w8.heap.size]? = some (.cells #[.int .i64 a, .int .i64 b, .int .i64 f, .int .i64 s, .slice ox nL cx] 26 (0, 0)) := heap_alloc_new w8 _
      have hba : Below w8.heap.size w8 (w8.alloc (.cells #[.int .i64 a, .int .i64 b, .int .i64 f, .int .i64 s, .slice ox nL cx] 26)) := (Below.refl _ _).alloc (Nat.le_refl _) _
      have bx3c0 : (w8.alloc (.cells #[.int .i64 a, .int .i64 b, .int .i64 f, .int .i64 s, .slice ox nL cx] 26)).cell? ⟨w8.heap.size, 0, none⟩ = some (.int .i64 a) := cellT bx3 0 _ rfl
      have bx3c1 : (w8.alloc (.cells #[.int .i64 a, .int .i64 b, .int .i64 f, .int .i64 s, .slice ox nL cx] 26)).cell? ⟨w8.heap.size, 1, none⟩ = some (.int .i64 b) := cellT bx3 1 _ rfl
      have bx3c2 : (w8.alloc (.cells #[.int .i64 a, .int .i64 b, .int .i64 f, .int .i64 s, .slice ox nL cx] 26)).cell? ⟨w8.heap.size, 2, none⟩ = some (.int .i64 f) := cellT bx3 2 _ rfl
      have bx3c3 : (w8.alloc (.cells #[.int .i64 a, .int .i64 b, .int .i64 f, .int .i64 s, .slice ox nL cx] 26)).cell? ⟨w8.heap.size, 3, none⟩ = some (.int .i64 s) := cellT bx3 3 _ rfl
      have bx3c4 : (w8.alloc (.cells #[.int .i64 a, .int .i64 b, .int .i64 f, .int .i64 s, .slice ox nL cx] 26)).cell? ⟨w8.heap.size, 4, none⟩ = some (.slice ox nL cx) := cellT bx3 4 _ rfl
      have Hbx := hide bx3
      have Hba := hide hba
      clear bx3 hba
      go_wp2_with fail
      clear bx3c0 bx3c1 bx3c2 bx3c3 bx3c4
      have bx3 := Hbx.out
      have hba := Hba.out
      clear Hbx Hba
      generalize w8.alloc (.cells #[.int .i64 a, .int .i64 b, .int .i64 f, .int .i64 s, .slice ox nL cx] 26) = w9 at *
      replace bp := (hba.block _ (lt_of_box bp)).trans bp
      replace hR := hR.kept hba
      replace RL := RL.kept hba
      replace Rb := Rb.kept hba
      replace Rx := Rx.kept hba
      replace hT := hT.on hba HB.out.size
      replace HB := hide (HB.out.trans (hba.mono HB.out.size))
      clear hba
      refine (HBY.out w9 ox cx Rx nx).mono ?_
      rintro e w10 ⟨vc, rfl, hvc, hb⟩
      replace bp := (hb.block _ (lt_of_box bp)).trans bp
      replace bx3 := (hb.block _ (lt_of_box bx3)).trans bx3
      replace hR := hR.kept hb
      replace RL := RL.kept hb
      replace Rb := Rb.kept hb
      replace Rx := Rx.kept hb
      replace hT := hT.on hb HB.out.size
      replace HB := hide (HB.out.trans (hb.mono HB.out.size))
      clear hb HBY
      obtain ⟨oc, cc, hce, Rc⟩ := hvc.open
      subst hce
      rw [ENP.out]
      clear hvc
      go_wp2_with fail
      refine (HSP.out w10 oc cc Rc Rb).mono ?_
      rintro e _ ⟨rfl, rfl⟩
      go_wp2_with fail
      refine (HCK.out w10 Rb).mono ?_
      rintro e _ ⟨rfl, rfl⟩
      go_wp2_with fail
      refine (drawPacketRead_any o cap l w10 hR hB8 hm).mono ?_
      rintro e u1 ⟨o', c', L', rfl, R', B8', hl', hc1', hc2', hb⟩
      replace bp := (hb.block _ (lt_of_box bp)).trans bp
      replace bx3 := (hb.block _ (lt_of_box bx3)).trans bx3
      replace hR := hR.kept hb
      replace RL := RL.kept hb
      replace Rb := Rb.kept hb
      replace Rx := Rx.kept hb
      replace Rc := Rc.kept hb
      replace hT := hT.on hb HB.out.size
      replace HB := hide (HB.out.trans (hb.mono HB.out.size))
      clear hb
      obtain ⟨n', hn'⟩ : ∃ n, L'.length = n := ⟨_, rfl⟩
      have EN' := hide hn'
      have HRD := hide (fun W (h : Rd W o' L') => implPacketRead_any o' c' L' W h B8' (by omega) hc1' hc2')
      have HSM := hide (fun W od cd D (h1 : Rd W od D) (h2 : Rd W o' L') (hD : isB D) => sameP_any od o' cd c' D L' W h1 h2 hD B8')
      rw [hn'] at HRD HSM ⊢
      clear hn' hc1' hc2'
      go_wp2_with fail
      refine (HRD.out u1 R').mono ?_
      rintro e u2 ⟨vy, rfl, hvy, hb⟩
      replace bp := (hb.block _ (lt_of_box bp)).trans bp
      replace bx3 := (hb.block _ (lt_of_box bx3)).trans bx3
      replace hR := hR.kept hb
      replace RL := RL.kept hb
      replace Rb := Rb.kept hb
      replace Rx := Rx.kept hb
      replace Rc := Rc.kept hb
      replace R' := R'.kept hb
      replace hT := hT.on hb HB.out.size
      replace HB := hide (HB.out.trans (hb.mono HB.out.size))
      clear hb HRD
      obtain ⟨oy, cy, hye, Ry⟩ := hvy.open
      subst hye
      have ny := own_nilP hvy
      have HYF : Hid (isB (rdL L') ∧ (okR L' = true → packetOkB (rdN L' (pairLS L' 0)) (rdN L' (pairLS L' 2)) (rdN L' (L'.getD 6 0)) (rdN L' (pairLS L' 4)) (rdL L').length = true ∧ bytesL (rdN L' (pairLS L' 0)) (rdN L' (pairLS L' 2)) (rdN L' (L'.getD 6 0)) (rdN L' (pairLS L' 4)) (rdL L') = L')) := by
        refine ⟨?_, fun h => ?_⟩
        · unfold rdL; split
          · exact drop_isB B8' 10
          · intro z hz; cases hz
        · have q := okR_iff.1 h
          unfold rdN rdL
          rw [if_pos h, if_pos h, if_pos h, if_pos h, if_pos h]
          exact ⟨q.2.1, by unfold bytesL; rw [if_pos q.2.1]; exact q.2.2.1⟩
      have hly : (rdL L').length ≤ 100 := by unfold rdL; split <;> simp <;> omega
      generalize rdN L' (pairLS L' 0) = a2 at *
      generalize rdN L' (pairLS L' 2) = b2 at *
      generalize rdN L' (L'.getD 6 0) = f2 at *
      generalize rdN L' (pairLS L' 4) = s2 at *
      generalize rdL L' = Ly at *
      generalize okR L' = F at *
      obtain ⟨ny', hny⟩ : ∃ n, Ly.length = n := ⟨_, rfl⟩
      have HPB := hide (fun W (h : Rd W oy Ly) => implPacketBytes_any a2 b2 f2 s2 oy cy Ly W h ny HYF.out.1 (by unfold maxLen; omega))
      have HBI : Hid (isB (bytesL a2 b2 f2 s2 Ly)) := by
        unfold Hid bytesL; split
        · rename_i hq; obtain ⟨q1, q2, q3, q4, q5⟩ := packetOk_bd hq; exact packetL_isB HYF.out.1 q1 q2 q3 q4 q5
        · intro z hz; cases hz
      rw [hny] at HPB HYF ⊢
      clear hny hvy
      have by2 : (u2.alloc (.cells #[.int .i64 a2, .int .i64 b2, .int .i64 f2, .int .i64 s2, .slice oy ny' cy] 26)).heap[u2.heap.size]? = some (.cells #[.int .i64 a2, .int .i64 b2, .int .i64 f2, .int .i64 s2, .slice oy ny' cy] 26 (0, 0)) := heap_alloc_new u2 _
      have hba : Below u2.heap.size u2 (u2.alloc (.cells #[.int .i64 a2, .int .i64 b2, .int .i64 f2, .int .i64 s2, .slice oy ny' cy] 26)) := (Below.refl _ _).alloc (Nat.le_refl _) _
      have by2c0 : (u2.alloc (.cells #[.int .i64 a2, .int .i64 b2, .int .i64 f2, .int .i64 s2, .slice oy ny' cy] 26)).cell? ⟨u2.heap.size, 0, none⟩ = some (.int .i64 a2) := cellT by2 0 _ rfl
      have by2c1 : (u2.alloc (.cells #[.int .i64 a2, .int .i64 b2, .int .i64 f2, .int .i64 s2, .slice oy ny' cy] 26)).cell? ⟨u2.heap.size, 1, none⟩ = some (.int .i64 b2) := cellT by2 1 _ rfl
      have by2c2 : (u2.alloc (.cells #[.int .i64 a2, .int .i64 b2, .int .i64 f2, .int .i64 s2, .slice oy ny' cy] 26)).cell? ⟨u2.heap.size, 2, none⟩ = some (.int .i64 f2) := cellT by2 2 _ rfl
      have by2c3 : (u2.alloc (.cells #[.int .i64 a2, .int .i64 b2, .int .i64 f2, .int .i64 s2, .slice oy ny' cy] 26)).cell? ⟨u2.heap.size, 3, none⟩ = some (.int .i64 s2) := cellT by2 3 _ rfl
      have by2c4 : (u2.alloc (.cells #[.int .i64 a2, .int .i64 b2, .int .i64 f2, .int .i64 s2, .slice oy ny' cy] 26)).cell? ⟨u2.heap.size, 4, none⟩ = some (.slice oy ny' cy) := cellT by2 4 _ rfl
      have Hbx := hide by2
      have Hba := hide hba
      clear by2 hba
      go_wp2_with fail
      clear by2c0 by2c1 by2c2 by2c3 by2c4
      have by2 := Hbx.out
      have hba := Hba.out
      clear Hbx Hba
      generalize u2.alloc (.cells #[.int .i64 a2, .int .i64 b2, .int .i64 f2, .int .i64 s2, .slice oy ny' cy] 26) = u3 at *
      replace bp := (hba.block _ (lt_of_box bp)).trans bp
      replace bx3 := (hba.block _ (lt_of_box bx3)).trans bx3
      replace hR := hR.kept hba
      replace RL := RL.kept hba
      replace Rb := Rb.kept hba
      replace Rx := Rx.kept hba
      replace Rc := Rc.kept hba
      replace R' := R'.kept hba
      replace Ry := Ry.kept hba
      replace hT := hT.on hba HB.out.size
      replace HB := hide (HB.out.trans (hba.mono HB.out.size))
      clear hba
      refine (HPB.out u3 Ry).mono ?_
      rintro e u4 ⟨vd, rfl, hvd, hb⟩
      replace bp := (hb.block _ (lt_of_box bp)).trans bp
      replace bx3 := (hb.block _ (lt_of_box bx3)).trans bx3
      replace by2 := (hb.block _ (lt_of_box by2)).trans by2
      replace hR := hR.kept hb
      replace RL := RL.kept hb
      replace Rb := Rb.kept hb
      replace Rx := Rx.kept hb
      replace Rc := Rc.kept hb
      replace R' := R'.kept hb
      replace Ry := Ry.kept hb
      replace hT := hT.on hb HB.out.size
      replace HB := hide (HB.out.trans (hb.mono HB.out.size))
      clear hb HPB
      obtain ⟨od, cd, hde, Rdd⟩ := hvd.open
      subst hde
      obtain ⟨D, hD⟩ : ∃ D, bytesL a2 b2 f2 s2 Ly = D := ⟨_, rfl⟩
      rw [hD] at Rdd HBI HYF ⊢
      generalize packetOkB a2 b2 f2 s2 ny' = G at *
      clear hD hvd
      obtain ⟨nD, hnD⟩ : ∃ n, D.length = n := ⟨_, rfl⟩
      have HSM2 := hide (fun W (h1 : Rd W od D) (h2 : Rd W o' L') => HSM.out W od cd D h1 h2 HBI.out)
      rw [hnD] at HSM2 ⊢
      clear hnD HSM
      go_wp2_with fail
      refine (wires_any u4).mono ?_
      rintro e u5 ⟨rfl, hb⟩
      replace bp := (hb.block _ (lt_of_box bp)).trans bp
      replace bx3 := (hb.block _ (lt_of_box bx3)).trans bx3
      replace by2 := (hb.block _ (lt_of_box by2)).trans by2
      replace hR := hR.kept hb
      replace RL := RL.kept hb
      replace Rb := Rb.kept hb
      replace Rx := Rx.kept hb
      replace Rc := Rc.kept hb
      replace R' := R'.kept hb
      replace Ry := Ry.kept hb
      replace Rdd := Rdd.kept hb
      replace hT := hT.on hb HB.out.size
      replace HB := hide (HB.out.trans (hb.mono HB.out.size))
      clear hb
      cases F with
      | false =>
        go_wp2
        go_ret
        exact ⟨rfl, HB.out⟩
      | true =>
        obtain ⟨hg, hd⟩ := HYF.out.2 rfl
        have HDL : Hid (decide (D = L') = true) := decide_eq_true hd
        subst hg
        clear hd
        go_wp2_with fail
        refine (HSM2.out u5 Rdd R').mono ?_
        rintro e _ ⟨rfl, rfl⟩
        rw [HDL.out]
        go_wp2
        go_ret
        exact ⟨rfl, HB.out⟩)

set_option maxRecDepth 100000 in
theorem fnPackets_lifted (os : Os) (started : os.Started) (H : Type) (enc : TypeId × Value → H) :
    ReturnsInHanded {} Tryd.checked os 3 .any (fun w args => (Rows.fnPacketsSpec.pre enc Tryd.prog Tryd.f3 [] false w args ∧ laidMetH Tryd.prog laidPow w) ∧ sizedMet enc Tryd.prog Tryd.f3 (OpenSpec.ofChange Rows.fnPacketsSpec) false w args) (Rows.fnPacketsSpec.post enc Tryd.prog Tryd.f3 false true false false) := by
  refine returnsInHanded_of_change_and (C := Tryd.checked) (X := fun w _ => laidMetH Tryd.prog laidPow w) (fun _ _ _ hh h => h.of_heap hh) own started (by kernel_rfl) Tryd.func3
    (ChangeSpec.witness_shaped (enc := enc) (C := Tryd.checked) (os := os) (X := fun w _ => laidMetH Tryd.prog laidPow w) false (World.doorLaid Tryd.prog 400 os) #[.slice none 0 0] 8 rfl (World.shaped_of_RefB (by kernel_rfl) (by kernel_rfl)) (by kernel_rfl) (by kernel_rfl) (by kernel_rfl) (door_met os _)) ?_
  intro W base args ds gs before hval0 hW _ _ hL _
  have hval : ∀ (j : Nat) t v, Tryd.f3.params[j]? = some t → args[j]? = some v → Value.okWide Tryd.prog W .any base t v := hval0
  have hW' := hW
  obtain ⟨p, q, hA0, hV, rfl, hfz, hnd⟩ := hW
  have hA : DataW.TrodAll enc Tryd.prog W 0 (fun _ => true) true Tryd.f3.params.toList args.toList ds p := hA0
  rw [Tryd.params3] at hA hval
  obtain ⟨v0, vs0, d0, ds0, p0, q0, hargs, rfl, rfl, h0, r0⟩ := trodAll_cons hA
  obtain ⟨rfl, rfl, rfl⟩ := trodAll_nil r0
  obtain rfl : args = #[v0] := by cases args; simp_all
  obtain ⟨rfl, rfl⟩ := trodVars_none hV
  have k0 := h0
  have lt0 : ∀ x ∈ p0, x.block < W.heap.size := by obtain ⟨m, hm⟩ := k0; exact DataW.trod_lt m _ _ _ hm
  obtain ⟨o0, cap0, l0, rfl, hm0, hR0, hB80⟩ := open_bytes (hval 0 22 v0 rfl rfl) h0
  have hT := tab_of_laid hL
  clear hA0 hval0
  refine (lawPackets o0 cap0 l0 W hm0 hR0 hB80 hT).mono fun e W' ⟨he, bel⟩ => ?_
  subst he
  exact ⟨_, rfl, _, _, _, [], _, [], hW', trodAll_mk1 (shut_bool Tryd.underlying4 _), (trodAll_cons_mk (Below.trod laidOut (by kernel_rfl) (of_decide_eq_true (by kernel_rfl)) k0 bel lt0) trodAll_mk0), rfl, bel.frame _, fun h => by cases h⟩

theorem fnPackets_over : Rows.fnPacketsRow.holds Tryd.pinned (OpenSpec.ofChange Rows.fnPacketsSpec) :=
  OpenClaim.holds_of_wide 3 Tryd.f3 rfl rfl rfl rfl rfl rfl rfl ⟨rfl, rfl, rfl, rfl, rfl⟩ rfl rfl rfl rfl rfl (by kernel_rfl) Tryd.func3 (by kernel_rfl)
    (of_decide_eq_true (by kernel_rfl)) (by unfold Func.isWrapper; first | (rw [if_pos (by decide +kernel)]; kernel_rfl) | (rw [if_neg (by decide +kernel)]; exact ⟨rfl, rfl⟩))
    (fun os started H enc _ => fnPackets_lifted os started H enc)

theorem fnPackets_card : Rows.FnPacketsCardSaid :=
  Claim7.holds_tied_plain_at .later [] [.data, .data, .data] true (true, "f8a5a4abf7a909b440178fdca20ed672e99be1a4c39324d0a3417155926fe827") false
    fnPackets_over (fun _ h => by cases h) (by kernel_rfl) (fun _ h => by cases h) fnPackets_row_tie rfl ⟨rfl, rfl⟩ (by kernel_rfl) rfl
    (fun f fn hf hfn => by
      obtain rfl : f = 3 := Option.some.inj ((show Tryd.prog.funcNamed Tryd.f3.name = some 3 by kernel_rfl).symm.trans hf) |>.symm
      obtain rfl : fn = Tryd.f3 := (Option.some.inj (Tryd.func3.symm.trans hfn)).symm
      exact ⟨by kernel_rfl, fun j t ht => by
        rw [Tryd.params3] at ht
        have hm : t ∈ [22] := by simpa using Array.mem_of_getElem? ht
        have hall : ([22].all fun u => !Tryd.prog.wantsStandIn u) = true := by kernel_rfl
        exact (show Tryd.prog.wantsStandIn t = false by simpa using List.all_eq_true.1 hall t hm)⟩)
    (by kernel_rfl)

end Go.Proofs.YtdoijnmgnocjaaaDoor
