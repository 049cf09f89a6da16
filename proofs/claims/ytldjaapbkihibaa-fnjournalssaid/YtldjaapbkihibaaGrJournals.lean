/- For every code the law FnJournals answers true: a journal comes back from its bytes; whatever bytes are read as one are just its; what is noted is replayed. No conditions. -/
import Derived.Test.YtldjaapbkihibaaGrSJL
import Derived.Test.YtldjaapbkihibaaGrSPools
import Derived.BigQuiet
import Derived.Deep.CutRange
namespace Go.Proofs.Ytldjaapbkihibaa
open Go.ChangeShapes Go.WideShapes Go.ChangeAt Go.RowKit Go.Joins
set_option linter.unusedVariables false
set_option linter.unusedSimpArgs false


theorem pnote_fit (m : Jm) : fitPm (replayM m) := replay_fit m
set_option maxRecDepth 100000 in
set_option maxHeartbeats 32000000 in
theorem lawJournals (o0 : Option Addr) (cap : Nat) (l : List Int) (w : World) (hm : l.length ≤ maxLen) (hR : Rd w o0 l) (hB8 : isB l) :
    Calls Try.prog 5 #[.slice o0 l.length cap] w fun e w' => e = .returned (.bool true) ∧ Below w.heap.size w w' := by
  have HD1 := hide (drawJB_any o0 cap l w hR hB8 hm)
  have HDR := hide (fun W (hb : Below w.heap.size w W) => drawJRead_any o0 cap l W (hR.kept hb) hB8 hm)
  have HDN := hide (fun W (hb : Below w.heap.size w W) => drawNote_any o0 cap l W (hR.kept hb) hB8 hm)
  clear hR hB8 hm
  have HB : Hid (Below w.heap.size w w) := Below.refl _ _
  go_enter Try.func5, Try.ntmps5
  go_wp2_with fail
  refine (HD1.out).mono ?_
  rintro e w1 ⟨v, m, rfl, hin, hl11, hb⟩
  have HIN := hide hin
  clear hin
  replace HB := hide (HB.out.trans (hb.mono HB.out.size))
  clear hb
  obtain ⟨o, c, hve⟩ := HIN.out.opn
  obtain ⟨key, hkey⟩ : ∃ q0, m.key = q0 := ⟨_, rfl⟩
  obtain ⟨n, hn⟩ : ∃ q0, m.l.length = q0 := ⟨_, rfl⟩
  obtain ⟨safe, hsafe⟩ : ∃ q0, m.safe = q0 := ⟨_, rfl⟩
  rw [hkey, hn, hsafe] at hve
  subst hve
  have HN := hide hn
  have HS := hide hsafe
  have HCP := hide HIN.out.cap
  have HFT : Hid (fitJm m) := by unfold Hid fitJm; rw [hn]; omega
  have HRD := hide HIN.out.rd
  clear hkey hn hsafe HIN HD1
  obtain ⟨W2, hW2⟩ : ∃ W, (w1.alloc (.cells #[.int .i64 key, .slice o n c, .int .i64 safe] 47)) = W := ⟨_, rfl⟩
  have hb : Below w1.heap.size w1 W2 := by rw [← hW2]; exact ((Below.refl _ _).alloc (Nat.le_refl _) _)
  have NXJ : Hid (W2.heap[w1.heap.size]? = some (.cells #[.int .i64 key, .slice o n c, .int .i64 safe] 47 (0, 0))) := by rw [← hW2]; exact World.alloc_heap_new w1 _
  have nzJ : w1.heap.size < W2.heap.size := by rw [← hW2]; simp
  replace HRD := hide ((HRD.out.kept hb (Nat.le_refl _)).le hb.size)
  replace HB := hide (HB.out.trans (hb.mono HB.out.size))
  clear hb
  have HXJ := NXJ
  have hzJ := nzJ
  clear NXJ nzJ
  have cJ0 : W2.cell? ⟨w1.heap.size, 0, none⟩ = some (.int .i64 key) := bx_cell HXJ.out 0 _ rfl
  have cJ1 : W2.cell? ⟨w1.heap.size, 1, none⟩ = some (.slice o n c) := bx_cell HXJ.out 1 _ rfl
  have cJ2 : W2.cell? ⟨w1.heap.size, 2, none⟩ = some (.int .i64 safe) := bx_cell HXJ.out 2 _ rfl
  go_wp2_with fail
  refine (implJBytes_sh _ m W2 HRD.out HCP.out HFT.out).mono ?_
  rintro e w3 ⟨vb, rfl, inb, hb⟩
  clear cJ0 cJ1 cJ2
  obtain ⟨ob, cb, hvb, hrb⟩ := ownB.open (ownB_lay.2 inb.1)
  subst hvb
  have HRB := hide hrb
  clear hrb inb
  replace HXJ := hide ((hb.block _ hzJ).trans HXJ.out)
  replace hzJ := Nat.lt_of_lt_of_le hzJ hb.size
  replace HRD := hide ((HRD.out.kept hb (Nat.le_refl _)).le hb.size)
  replace HB := hide (HB.out.trans (hb.mono HB.out.size))
  clear hb
  have HJB := hide (fun h : journalB m.key m.l m.safe = true => jrn_back h)
  obtain ⟨jb, hjb⟩ : ∃ b, journalB m.key m.l m.safe = b := ⟨_, rfl⟩
  rw [hjb]
  have HJC := hide hjb
  obtain ⟨L1, hL1⟩ : ∃ L, jrnL m = L := ⟨_, rfl⟩
  have HL1 : Hid (isB L1 ∧ L1.length ≤ 1048576) := by rw [← hL1]; exact ⟨jrnL_B m, jrnL_len m⟩
  rw [hL1] at HRB HJB ⊢
  clear hL1 hjb
  have cJ0 : w3.cell? ⟨w1.heap.size, 0, none⟩ = some (.int .i64 key) := bx_cell HXJ.out 0 _ rfl
  have cJ1 : w3.cell? ⟨w1.heap.size, 1, none⟩ = some (.slice o n c) := bx_cell HXJ.out 1 _ rfl
  have cJ2 : w3.cell? ⟨w1.heap.size, 2, none⟩ = some (.int .i64 safe) := bx_cell HXJ.out 2 _ rfl
  go_wp2_with fail
  refine (specJournalOk_sh _ m w3 HRD.out HFT.out).mono ?_
  rintro e w4 ⟨rfl, hb⟩
  clear cJ0 cJ1 cJ2
  rw [HJC.out]
  replace HRB := hide (HRB.out.kept hb)
  replace HXJ := hide ((hb.block _ hzJ).trans HXJ.out)
  replace hzJ := Nat.lt_of_lt_of_le hzJ hb.size
  replace HRD := hide ((HRD.out.kept hb (Nat.le_refl _)).le hb.size)
  replace HB := hide (HB.out.trans (hb.mono HB.out.size))
  clear hb
  cases jb with
  | true =>
    have cJ0 : w4.cell? ⟨w1.heap.size, 0, none⟩ = some (.int .i64 key) := bx_cell HXJ.out 0 _ rfl
    have cJ1 : w4.cell? ⟨w1.heap.size, 1, none⟩ = some (.slice o n c) := bx_cell HXJ.out 1 _ rfl
    have cJ2 : w4.cell? ⟨w1.heap.size, 2, none⟩ = some (.int .i64 safe) := bx_cell HXJ.out 2 _ rfl
    go_wp2_with fail
    refine (implJournalOk_sh _ m w4 HRD.out HFT.out).mono ?_
    rintro e w5 ⟨rfl, hb⟩
    clear cJ0 cJ1 cJ2
    rw [HJC.out]
    replace HRB := hide (HRB.out.kept hb)
    replace HXJ := hide ((hb.block _ hzJ).trans HXJ.out)
    replace hzJ := Nat.lt_of_lt_of_le hzJ hb.size
    replace HRD := hide ((HRD.out.kept hb (Nat.le_refl _)).le hb.size)
    replace HB := hide (HB.out.trans (hb.mono HB.out.size))
    clear hb
    obtain ⟨hok, hre⟩ := HJB.out HJC.out
    have cJ0 : w5.cell? ⟨w1.heap.size, 0, none⟩ = some (.int .i64 key) := bx_cell HXJ.out 0 _ rfl
    have cJ1 : w5.cell? ⟨w1.heap.size, 1, none⟩ = some (.slice o n c) := bx_cell HXJ.out 1 _ rfl
    have cJ2 : w5.cell? ⟨w1.heap.size, 2, none⟩ = some (.int .i64 safe) := bx_cell HXJ.out 2 _ rfl
    go_wp2_with fail
    refine (implJRead_any ob cb L1 w5 HRB.out HL1.out.1 HL1.out.2).mono ?_
    rintro e w6 ⟨vx, rfl, inx, hb⟩
    clear cJ0 cJ1 cJ2
    rw [hok]
    rw [hre] at inx
    have HIX := hide inx
    clear inx hok hre
    replace HRB := hide (HRB.out.kept hb)
    replace HXJ := hide ((hb.block _ hzJ).trans HXJ.out)
    replace hzJ := Nat.lt_of_lt_of_le hzJ hb.size
    replace HRD := hide ((HRD.out.kept hb (Nat.le_refl _)).le hb.size)
    replace HB := hide (HB.out.trans (hb.mono HB.out.size))
    clear hb
    clear HRB HJB HL1
    obtain ⟨ox, cx, hve⟩ := HIX.out.opn
    obtain ⟨keyx, hkey⟩ : ∃ q0, m.key = q0 := ⟨_, rfl⟩
    obtain ⟨nx, hn⟩ : ∃ q0, m.l.length = q0 := ⟨_, rfl⟩
    obtain ⟨safex, hsafe⟩ : ∃ q0, m.safe = q0 := ⟨_, rfl⟩
    rw [hkey, hn, hsafe] at hve
    subst hve
    have HNx := hide hn
    have HSx := hide hsafe
    have HRX := hide HIX.out.rd
    clear hkey hn hsafe HIX HNx HSx
    obtain ⟨W7, hW7⟩ : ∃ W, (w6.alloc (.cells #[.int .i64 keyx, .slice ox nx cx, .int .i64 safex] 47)) = W := ⟨_, rfl⟩
    have hb : Below w6.heap.size w6 W7 := by rw [← hW7]; exact ((Below.refl _ _).alloc (Nat.le_refl _) _)
    have NXX : Hid (W7.heap[w6.heap.size]? = some (.cells #[.int .i64 keyx, .slice ox nx cx, .int .i64 safex] 47 (0, 0))) := by rw [← hW7]; exact World.alloc_heap_new w6 _
    have nzX : w6.heap.size < W7.heap.size := by rw [← hW7]; simp
    replace HXJ := hide ((hb.block _ hzJ).trans HXJ.out)
    replace hzJ := Nat.lt_of_lt_of_le hzJ hb.size
    replace HRD := hide ((HRD.out.kept hb (Nat.le_refl _)).le hb.size)
    replace HRX := hide ((HRX.out.kept hb (Nat.le_refl _)).le hb.size)
    replace HB := hide (HB.out.trans (hb.mono HB.out.size))
    clear hb
    have HXX := NXX
    have hzX := nzX
    clear NXX nzX
    have cJ0 : W7.cell? ⟨w1.heap.size, 0, none⟩ = some (.int .i64 key) := bx_cell HXJ.out 0 _ rfl
    have cJ1 : W7.cell? ⟨w1.heap.size, 1, none⟩ = some (.slice o n c) := bx_cell HXJ.out 1 _ rfl
    have cJ2 : W7.cell? ⟨w1.heap.size, 2, none⟩ = some (.int .i64 safe) := bx_cell HXJ.out 2 _ rfl
    have cX0 : W7.cell? ⟨w6.heap.size, 0, none⟩ = some (.int .i64 keyx) := bx_cell HXX.out 0 _ rfl
    have cX1 : W7.cell? ⟨w6.heap.size, 1, none⟩ = some (.slice ox nx cx) := bx_cell HXX.out 1 _ rfl
    have cX2 : W7.cell? ⟨w6.heap.size, 2, none⟩ = some (.int .i64 safex) := bx_cell HXX.out 2 _ rfl
    go_wp2_with fail
    refine (sameJournal_sh _ _ m W7 HRX.out HRD.out HFT.out).mono ?_
    rintro e w8 ⟨rfl, hb⟩
    clear cJ0 cJ1 cJ2
    clear cX0 cX1 cX2
    replace HXJ := hide ((hb.block _ hzJ).trans HXJ.out)
    replace hzJ := Nat.lt_of_lt_of_le hzJ hb.size
    replace HXX := hide ((hb.block _ hzX).trans HXX.out)
    replace hzX := Nat.lt_of_lt_of_le hzX hb.size
    replace HRD := hide ((HRD.out.kept hb (Nat.le_refl _)).le hb.size)
    replace HRX := hide ((HRX.out.kept hb (Nat.le_refl _)).le hb.size)
    replace HB := hide (HB.out.trans (hb.mono HB.out.size))
    clear hb
    clear HXJ hzJ
    clear HXX hzX
    clear HRX HRD HCP HFT HJC HN HS
    go_wp2_with fail
    refine (HDR.out w8 HB.out).mono ?_
    rintro e w9 ⟨o9, c9, L, rfl, hrL, hbL, hl9, hb⟩
    have HRL := hide hrL
    have HBL := hide hbL
    clear hrL hbL
    replace HB := hide (HB.out.trans (hb.mono HB.out.size))
    clear hb
    obtain ⟨nL, hnL⟩ : ∃ n, L.length = n := ⟨_, rfl⟩
    have HNL := hide hnL
    rw [hnL] at hl9 ⊢
    clear hnL
    go_wp2_with fail
    refine ((show Calls Try.prog 25 #[.slice o9 nL c9] w9 (fun e w' => readJ L w9 e w') by have h := implJRead_any o9 c9 L w9 HRL.out HBL.out (by have := HNL.out; omega); rw [HNL.out] at h; exact h)).mono ?_
    rintro e wa ⟨vy, rfl, iny, hb⟩
    have HIY := hide iny
    clear iny
    replace HRL := hide (HRL.out.kept hb)
    replace HB := hide (HB.out.trans (hb.mono HB.out.size))
    clear hb
    have HJT := hide (fun h : okJ L = true => jrn_there HBL.out h)
    obtain ⟨fk, hfk⟩ : ∃ b, okJ L = b := ⟨_, rfl⟩
    rw [hfk] at HJT ⊢
    clear hfk
    obtain ⟨y, hy⟩ : ∃ y, jrR L = y := ⟨_, rfl⟩
    have HFY : Hid (fitJm y) := by rw [← hy]; exact jrR_fit L
    rw [hy] at HIY HJT
    clear hy
    obtain ⟨oy, cy, hve⟩ := HIY.out.opn
    obtain ⟨keyy, hkey⟩ : ∃ q0, y.key = q0 := ⟨_, rfl⟩
    obtain ⟨ny, hn⟩ : ∃ q0, y.l.length = q0 := ⟨_, rfl⟩
    obtain ⟨safey, hsafe⟩ : ∃ q0, y.safe = q0 := ⟨_, rfl⟩
    rw [hkey, hn, hsafe] at hve
    subst hve
    have HNy := hide hn
    have HSy := hide hsafe
    have HCY := hide HIY.out.cap
    have HRY := hide HIY.out.rd
    clear hkey hn hsafe HIY HNy HSy
    obtain ⟨Wb, hWb⟩ : ∃ W, (wa.alloc (.cells #[.int .i64 keyy, .slice oy ny cy, .int .i64 safey] 47)) = W := ⟨_, rfl⟩
    have hb : Below wa.heap.size wa Wb := by rw [← hWb]; exact ((Below.refl _ _).alloc (Nat.le_refl _) _)
    have NXY : Hid (Wb.heap[wa.heap.size]? = some (.cells #[.int .i64 keyy, .slice oy ny cy, .int .i64 safey] 47 (0, 0))) := by rw [← hWb]; exact World.alloc_heap_new wa _
    have nzY : wa.heap.size < Wb.heap.size := by rw [← hWb]; simp
    replace HRL := hide (HRL.out.kept hb)
    replace HRY := hide ((HRY.out.kept hb (Nat.le_refl _)).le hb.size)
    replace HB := hide (HB.out.trans (hb.mono HB.out.size))
    clear hb
    have HXY := NXY
    have hzY := nzY
    clear NXY nzY
    have cY0 : Wb.cell? ⟨wa.heap.size, 0, none⟩ = some (.int .i64 keyy) := bx_cell HXY.out 0 _ rfl
    have cY1 : Wb.cell? ⟨wa.heap.size, 1, none⟩ = some (.slice oy ny cy) := bx_cell HXY.out 1 _ rfl
    have cY2 : Wb.cell? ⟨wa.heap.size, 2, none⟩ = some (.int .i64 safey) := bx_cell HXY.out 2 _ rfl
    go_wp2_with fail
    refine (implJBytes_sh _ y Wb HRY.out HCY.out HFY.out).mono ?_
    rintro e wc ⟨vz, rfl, inz, hb⟩
    clear cY0 cY1 cY2
    obtain ⟨oz, cz, hvz, hrz⟩ := ownB.open (ownB_lay.2 inz.1)
    subst hvz
    have HRZ := hide hrz
    clear hrz inz
    replace HRL := hide (HRL.out.kept hb)
    replace HXY := hide ((hb.block _ hzY).trans HXY.out)
    replace hzY := Nat.lt_of_lt_of_le hzY hb.size
    replace HRY := hide ((HRY.out.kept hb (Nat.le_refl _)).le hb.size)
    replace HB := hide (HB.out.trans (hb.mono HB.out.size))
    clear hb
    clear HXY hzY
    clear HRY HCY HFY
    obtain ⟨Lz, hLz⟩ : ∃ z, jrnL y = z := ⟨_, rfl⟩
    rw [hLz] at HRZ HJT ⊢
    clear hLz
    obtain ⟨jz, hjz⟩ : ∃ b, journalB y.key y.l y.safe = b := ⟨_, rfl⟩
    rw [hjz] at HJT ⊢
    clear hjz
    obtain ⟨nz, hnz⟩ : ∃ n, Lz.length = n := ⟨_, rfl⟩
    have HNZ := hide hnz
    rw [hnz]
    clear hnz
    go_upto_region 12 with fail
    go_cut [76] from 66 to 76 (fun s wx => s = .bool false ∧ Hid (Below wc.heap.size wc wx))
    case first =>
      cases fk with
      | false =>
        clear HJT
        go_wp2_with fail
        go_meet
        exact ⟨rfl, Below.refl _ _⟩
      | true =>
        obtain ⟨hj, he⟩ := HJT.out rfl
        subst hj
        have hnn : nz = nL := by rw [← HNZ.out, he, HNL.out]
        subst hnn
        have HSM : Hid (Calls Try.prog 28 #[.slice oz nz cz, .slice o9 nz c9] wc fun e w' => e = .returned (.bool true) ∧ wc = w') := by
          have h := same_any oz o9 cz c9 L L wc (by have h := HRZ.out; rw [he] at h; exact h) HRL.out HBL.out HBL.out
          rw [HNL.out, decide_eq_true rfl] at h
          exact h
        clear HJT he
        go_wp2_with fail
        refine HSM.out.mono ?_
        rintro e wx ⟨rfl, rfl⟩
        go_wp2_with fail
        go_meet
        exact ⟨rfl, Below.refl _ _⟩
    case rest =>
      rename World => wd
      obtain ⟨rfl, Hbd⟩ := hcut
      have hb := Hbd.out
      replace HB := hide (HB.out.trans (hb.mono HB.out.size))
      clear hb
      clear HRL HBL HRZ HJT Hbd HNL HNZ
      go_wp2_with fail
      refine (HDN.out wd HB.out).mono ?_
      rintro e we ⟨v, m2, a, i, g, rfl, hin, hl11, hb⟩
      have HIN := hide hin
      clear hin
      replace HB := hide (HB.out.trans (hb.mono HB.out.size))
      clear hb
      obtain ⟨o2, c2, hve⟩ := HIN.out.opn
      obtain ⟨key2, hkey⟩ : ∃ q0, m2.key = q0 := ⟨_, rfl⟩
      obtain ⟨n2, hn⟩ : ∃ q0, m2.l.length = q0 := ⟨_, rfl⟩
      obtain ⟨safe2, hsafe⟩ : ∃ q0, m2.safe = q0 := ⟨_, rfl⟩
      rw [hkey, hn, hsafe] at hve
      subst hve
      have HN2 := hide hn
      have HS2 := hide hsafe
      have HCP := hide HIN.out.cap
      have HFT : Hid (fitJm m2) := by unfold Hid fitJm; rw [hn]; omega
      have HRD := hide HIN.out.rd
      clear hkey hn hsafe HIN HDR HDN
      obtain ⟨Wf, hWf⟩ : ∃ W, ((we.alloc (.cells #[.int .i64 key2, .slice o2 n2 c2, .int .i64 safe2] 47)).alloc (.cells #[.int .i64 a, .int .i64 i, .int .i64 g] 28)) = W := ⟨_, rfl⟩
      have hb : Below we.heap.size we Wf := by rw [← hWf]; exact (((Below.refl _ _).alloc (Nat.le_refl _) _).alloc (by simp <;> omega) _)
      have NXA : Hid (Wf.heap[we.heap.size]? = some (.cells #[.int .i64 key2, .slice o2 n2 c2, .int .i64 safe2] 47 (0, 0))) := by rw [← hWf]; exact box_old2 we _ _ _
      have nzA : we.heap.size < Wf.heap.size := by rw [← hWf]; simp <;> omega
      have NXC : Hid (Wf.heap[we.heap.size + 1]? = some (.cells #[.int .i64 a, .int .i64 i, .int .i64 g] 28 (0, 0))) := by rw [← hWf]; exact box_new2 we _ _ _
      have nzC : we.heap.size + 1 < Wf.heap.size := by rw [← hWf]; simp
      replace HRD := hide ((HRD.out.kept hb (Nat.le_refl _)).le hb.size)
      replace HB := hide (HB.out.trans (hb.mono HB.out.size))
      clear hb
      have HXA := NXA
      have hzA := nzA
      clear NXA nzA
      have HXC := NXC
      have hzC := nzC
      clear NXC nzC
      have cA0 : Wf.cell? ⟨we.heap.size, 0, none⟩ = some (.int .i64 key2) := bx_cell HXA.out 0 _ rfl
      have cA1 : Wf.cell? ⟨we.heap.size, 1, none⟩ = some (.slice o2 n2 c2) := bx_cell HXA.out 1 _ rfl
      have cA2 : Wf.cell? ⟨we.heap.size, 2, none⟩ = some (.int .i64 safe2) := bx_cell HXA.out 2 _ rfl
      have cC0 : Wf.cell? ⟨we.heap.size + 1, 0, none⟩ = some (.int .i64 a) := bx_cell HXC.out 0 _ rfl
      have cC1 : Wf.cell? ⟨we.heap.size + 1, 1, none⟩ = some (.int .i64 i) := bx_cell HXC.out 1 _ rfl
      have cC2 : Wf.cell? ⟨we.heap.size + 1, 2, none⟩ = some (.int .i64 g) := bx_cell HXC.out 2 _ rfl
      go_wp2_with fail
      refine (implNote_sh _ m2 a i g Wf HRD.out HCP.out HFT.out).mono ?_
      rintro e wg ⟨vn, rfl, inn, hb⟩
      clear cA0 cA1 cA2
      clear cC0 cC1 cC2
      have HIM := hide inn
      clear inn
      replace HXA := hide ((hb.block _ hzA).trans HXA.out)
      replace hzA := Nat.lt_of_lt_of_le hzA hb.size
      replace HXC := hide ((hb.block _ hzC).trans HXC.out)
      replace hzC := Nat.lt_of_lt_of_le hzC hb.size
      replace HRD := hide ((HRD.out.kept hb (Nat.le_refl _)).le hb.size)
      replace HB := hide (HB.out.trans (hb.mono HB.out.size))
      clear hb
      have HNO := hide (fun h => note_no (m := m2) (a := a) (i := i) (g := g) h)
      have HYE := hide (fun h => note_yes (m := m2) (a := a) (i := i) (g := g) h)
      have HFM : Hid (fitJm (noteM m2 a i g)) := noteM_fit a i g HFT.out
      obtain ⟨x, hx⟩ : ∃ x, noteM m2 a i g = x := ⟨_, rfl⟩
      rw [hx] at HIM HNO HYE HFM
      clear hx
      obtain ⟨ox, cx, hve⟩ := HIM.out.opn
      obtain ⟨keyx, hkey⟩ : ∃ q0, x.key = q0 := ⟨_, rfl⟩
      obtain ⟨nx, hn⟩ : ∃ q0, x.l.length = q0 := ⟨_, rfl⟩
      obtain ⟨safex, hsafe⟩ : ∃ q0, x.safe = q0 := ⟨_, rfl⟩
      rw [hkey, hn, hsafe] at hve
      subst hve
      have HNx := hide hn
      have HSx := hide hsafe
      have HCM := hide HIM.out.cap
      have HRM := hide HIM.out.rd
      clear hkey hn hsafe HIM
      obtain ⟨Wh, hWh⟩ : ∃ W, (wg.alloc (.cells #[.int .i64 keyx, .slice ox nx cx, .int .i64 safex] 47)) = W := ⟨_, rfl⟩
      have hb : Below wg.heap.size wg Wh := by rw [← hWh]; exact ((Below.refl _ _).alloc (Nat.le_refl _) _)
      have NXM : Hid (Wh.heap[wg.heap.size]? = some (.cells #[.int .i64 keyx, .slice ox nx cx, .int .i64 safex] 47 (0, 0))) := by rw [← hWh]; exact World.alloc_heap_new wg _
      have nzM : wg.heap.size < Wh.heap.size := by rw [← hWh]; simp
      replace HXA := hide ((hb.block _ hzA).trans HXA.out)
      replace hzA := Nat.lt_of_lt_of_le hzA hb.size
      replace HXC := hide ((hb.block _ hzC).trans HXC.out)
      replace hzC := Nat.lt_of_lt_of_le hzC hb.size
      replace HRD := hide ((HRD.out.kept hb (Nat.le_refl _)).le hb.size)
      replace HRM := hide ((HRM.out.kept hb (Nat.le_refl _)).le hb.size)
      replace HB := hide (HB.out.trans (hb.mono HB.out.size))
      clear hb
      have HXM := NXM
      have hzM := nzM
      clear NXM nzM
      cases hfl : noteF m2 a i g with
      | false =>
        have hno := HNO.out hfl
        clear HNO HYE hfl
        by_cases h0 : nx = 0
        · subst h0
          clear hno
          have cM0 : Wh.cell? ⟨wg.heap.size, 0, none⟩ = some (.int .i64 keyx) := bx_cell HXM.out 0 _ rfl
          have cM1 : Wh.cell? ⟨wg.heap.size, 1, none⟩ = some (.slice ox 0 cx) := bx_cell HXM.out 1 _ rfl
          have cM2 : Wh.cell? ⟨wg.heap.size, 2, none⟩ = some (.int .i64 safex) := bx_cell HXM.out 2 _ rfl
          have HPL := hide (pools_any Wh)
          go_wp2_with fail
          refine HPL.out.mono ?_
          rintro e w6 ⟨rfl, hb6⟩
          have HB6 := hide (HB.out.trans (hb6.mono HB.out.size))
          clear hb6
          go_wp2
          go_ret
          exact ⟨rfl, HB6.out⟩
        · have hxm : x = m2 := by
            rcases hno with h | h
            · exact absurd (HNx.out.symm.trans h) h0
            · exact h
          have hn1 : ¬ ((nx : Int) = 0) := by omega
          have HSJ := hide (sameJournal_sh _ _ m2 Wh (by have h := HRM.out; rw [hxm] at h; exact h) HRD.out HFT.out)
          clear hno hxm
          have cM0 : Wh.cell? ⟨wg.heap.size, 0, none⟩ = some (.int .i64 keyx) := bx_cell HXM.out 0 _ rfl
          have cM1 : Wh.cell? ⟨wg.heap.size, 1, none⟩ = some (.slice ox nx cx) := bx_cell HXM.out 1 _ rfl
          have cM2 : Wh.cell? ⟨wg.heap.size, 2, none⟩ = some (.int .i64 safex) := bx_cell HXM.out 2 _ rfl
          have cA0 : Wh.cell? ⟨we.heap.size, 0, none⟩ = some (.int .i64 key2) := bx_cell HXA.out 0 _ rfl
          have cA1 : Wh.cell? ⟨we.heap.size, 1, none⟩ = some (.slice o2 n2 c2) := bx_cell HXA.out 1 _ rfl
          have cA2 : Wh.cell? ⟨we.heap.size, 2, none⟩ = some (.int .i64 safe2) := bx_cell HXA.out 2 _ rfl
          go_wp2_with fail
          refine HSJ.out.mono ?_
          rintro e w5 ⟨rfl, hb5⟩
          have HB5 := hide (HB.out.trans (hb5.mono HB.out.size))
          have HPL := hide (pools_any w5)
          clear hb5
          clear cM0 cM1 cM2
          clear cA0 cA1 cA2
          go_wp2_with fail
          refine HPL.out.mono ?_
          rintro e w6 ⟨rfl, hb6⟩
          have HB6 := hide (HB5.out.trans (hb6.mono HB5.out.size))
          clear hb6
          go_wp2
          go_ret
          exact ⟨rfl, HB6.out⟩
      | true =>
        obtain ⟨hj1, hj2, hpf, hpe, hsl, hq1, hq8⟩ := HYE.out hfl
        have HSX := hide (show safex = (nx : Int) by rw [← HSx.out, hsl, HNx.out])
        have HJ1 := hide hj1
        have HJ2 := hide hj2
        have HPE := hide hpe
        have HQ8 := hide hq8
        clear HNO HYE hfl hj1 hj2 hsl hpe hq8 hq1
        have HPF := hide hpf
        clear hpf
        have cA0 : Wh.cell? ⟨we.heap.size, 0, none⟩ = some (.int .i64 key2) := bx_cell HXA.out 0 _ rfl
        have cA1 : Wh.cell? ⟨we.heap.size, 1, none⟩ = some (.slice o2 n2 c2) := bx_cell HXA.out 1 _ rfl
        have cA2 : Wh.cell? ⟨we.heap.size, 2, none⟩ = some (.int .i64 safe2) := bx_cell HXA.out 2 _ rfl
        go_wp2_with fail
        refine (implReplay_sh _ m2 Wh HRD.out HCP.out HFT.out).mono ?_
        rintro e wi ⟨vp, rfl, inp, hb⟩
        clear cA0 cA1 cA2
        rw [HJ1.out]
        have HIP := hide inp
        clear inp
        replace HXA := hide ((hb.block _ hzA).trans HXA.out)
        replace hzA := Nat.lt_of_lt_of_le hzA hb.size
        replace HXC := hide ((hb.block _ hzC).trans HXC.out)
        replace hzC := Nat.lt_of_lt_of_le hzC hb.size
        replace HXM := hide ((hb.block _ hzM).trans HXM.out)
        replace hzM := Nat.lt_of_lt_of_le hzM hb.size
        replace HRD := hide ((HRD.out.kept hb (Nat.le_refl _)).le hb.size)
        replace HRM := hide ((HRM.out.kept hb (Nat.le_refl _)).le hb.size)
        replace HB := hide (HB.out.trans (hb.mono HB.out.size))
        clear hb
        have HFP := hide (replay_fit m2)
        obtain ⟨pm, hpm⟩ : ∃ p, replayM m2 = p := ⟨_, rfl⟩
        rw [hpm] at HIP HFP HPE HPF
        clear hpm
        obtain ⟨pop, pcp, qop, qcp, hve⟩ := HIP.out.opn
        obtain ⟨pkp, hkey⟩ : ∃ q0, pm.key = q0 := ⟨_, rfl⟩
        obtain ⟨pnp, hn⟩ : ∃ q0, pm.l.length = q0 := ⟨_, rfl⟩
        obtain ⟨qnp, hq⟩ : ∃ q0, pm.ring.length = q0 := ⟨_, rfl⟩
        rw [hkey, hn, hq] at hve
        subst hve
        clear hkey hn hq
        have HRP := hide HIP.out.rc
        clear HIP
        obtain ⟨Wj, hWj⟩ : ∃ W, (wi.alloc (.cells #[.int .i64 pkp, .slice pop pnp pcp, .slice qop qnp qcp] 26)) = W := ⟨_, rfl⟩
        have hb : Below wi.heap.size wi Wj := by rw [← hWj]; exact ((Below.refl _ _).alloc (Nat.le_refl _) _)
        have NXP : Hid (Wj.heap[wi.heap.size]? = some (.cells #[.int .i64 pkp, .slice pop pnp pcp, .slice qop qnp qcp] 26 (0, 0))) := by rw [← hWj]; exact World.alloc_heap_new wi _
        have nzP : wi.heap.size < Wj.heap.size := by rw [← hWj]; simp
        replace HXA := hide ((hb.block _ hzA).trans HXA.out)
        replace hzA := Nat.lt_of_lt_of_le hzA hb.size
        replace HXC := hide ((hb.block _ hzC).trans HXC.out)
        replace hzC := Nat.lt_of_lt_of_le hzC hb.size
        replace HXM := hide ((hb.block _ hzM).trans HXM.out)
        replace hzM := Nat.lt_of_lt_of_le hzM hb.size
        replace HRD := hide ((HRD.out.kept hb (Nat.le_refl _)).le hb.size)
        replace HRM := hide ((HRM.out.kept hb (Nat.le_refl _)).le hb.size)
        replace HRP := hide ((HRP.out.kept hb (Nat.le_refl _)).le hb.size)
        replace HB := hide (HB.out.trans (hb.mono HB.out.size))
        clear hb
        have HXP := NXP
        have hzP := nzP
        clear NXP nzP
        have cM0 : Wj.cell? ⟨wg.heap.size, 0, none⟩ = some (.int .i64 keyx) := bx_cell HXM.out 0 _ rfl
        have cM1 : Wj.cell? ⟨wg.heap.size, 1, none⟩ = some (.slice ox nx cx) := bx_cell HXM.out 1 _ rfl
        have cM2 : Wj.cell? ⟨wg.heap.size, 2, none⟩ = some (.int .i64 safex) := bx_cell HXM.out 2 _ rfl
        go_wp2_with fail
        refine (implReplay_sh _ x Wj HRM.out HCM.out HFM.out).mono ?_
        rintro e wk ⟨vq, rfl, inq, hb⟩
        clear cM0 cM1 cM2
        rw [HJ2.out]
        have HIQ := hide inq
        clear inq
        replace HXA := hide ((hb.block _ hzA).trans HXA.out)
        replace hzA := Nat.lt_of_lt_of_le hzA hb.size
        replace HXC := hide ((hb.block _ hzC).trans HXC.out)
        replace hzC := Nat.lt_of_lt_of_le hzC hb.size
        replace HXM := hide ((hb.block _ hzM).trans HXM.out)
        replace hzM := Nat.lt_of_lt_of_le hzM hb.size
        replace HXP := hide ((hb.block _ hzP).trans HXP.out)
        replace hzP := Nat.lt_of_lt_of_le hzP hb.size
        replace HRD := hide ((HRD.out.kept hb (Nat.le_refl _)).le hb.size)
        replace HRM := hide ((HRM.out.kept hb (Nat.le_refl _)).le hb.size)
        replace HRP := hide ((HRP.out.kept hb (Nat.le_refl _)).le hb.size)
        replace HB := hide (HB.out.trans (hb.mono HB.out.size))
        clear hb
        have HFQ := hide (replay_fit x)
        obtain ⟨qm, hqm⟩ : ∃ p, replayM x = p := ⟨_, rfl⟩
        rw [hqm] at HIQ HFQ HPE HQ8
        clear hqm
        obtain ⟨poq, pcq, qoq, qcq, hve⟩ := HIQ.out.opn
        obtain ⟨pkq, hkey⟩ : ∃ q0, qm.key = q0 := ⟨_, rfl⟩
        obtain ⟨pnq, hn⟩ : ∃ q0, qm.l.length = q0 := ⟨_, rfl⟩
        obtain ⟨qnq, hq⟩ : ∃ q0, qm.ring.length = q0 := ⟨_, rfl⟩
        rw [hkey, hn, hq] at hve
        subst hve
        clear hkey hn hq
        have HRQ := hide HIQ.out.rd
        clear HIQ
        obtain ⟨Wl, hWl⟩ : ∃ W, (wk.alloc (.cells #[.int .i64 pkq, .slice poq pnq pcq, .slice qoq qnq qcq] 26)) = W := ⟨_, rfl⟩
        have hb : Below wk.heap.size wk Wl := by rw [← hWl]; exact ((Below.refl _ _).alloc (Nat.le_refl _) _)
        have NXQ : Hid (Wl.heap[wk.heap.size]? = some (.cells #[.int .i64 pkq, .slice poq pnq pcq, .slice qoq qnq qcq] 26 (0, 0))) := by rw [← hWl]; exact World.alloc_heap_new wk _
        have nzQ : wk.heap.size < Wl.heap.size := by rw [← hWl]; simp
        replace HXA := hide ((hb.block _ hzA).trans HXA.out)
        replace hzA := Nat.lt_of_lt_of_le hzA hb.size
        replace HXC := hide ((hb.block _ hzC).trans HXC.out)
        replace hzC := Nat.lt_of_lt_of_le hzC hb.size
        replace HXM := hide ((hb.block _ hzM).trans HXM.out)
        replace hzM := Nat.lt_of_lt_of_le hzM hb.size
        replace HXP := hide ((hb.block _ hzP).trans HXP.out)
        replace hzP := Nat.lt_of_lt_of_le hzP hb.size
        replace HRD := hide ((HRD.out.kept hb (Nat.le_refl _)).le hb.size)
        replace HRM := hide ((HRM.out.kept hb (Nat.le_refl _)).le hb.size)
        replace HRP := hide ((HRP.out.kept hb (Nat.le_refl _)).le hb.size)
        replace HRQ := hide ((HRQ.out.kept hb (Nat.le_refl _)).le hb.size)
        replace HB := hide (HB.out.trans (hb.mono HB.out.size))
        clear hb
        have HXQ := NXQ
        have hzQ := nzQ
        clear NXQ nzQ
        have cP0 : Wl.cell? ⟨wi.heap.size, 0, none⟩ = some (.int .i64 pkp) := bx_cell HXP.out 0 _ rfl
        have cP1 : Wl.cell? ⟨wi.heap.size, 1, none⟩ = some (.slice pop pnp pcp) := bx_cell HXP.out 1 _ rfl
        have cP2 : Wl.cell? ⟨wi.heap.size, 2, none⟩ = some (.slice qop qnp qcp) := bx_cell HXP.out 2 _ rfl
        have cC0 : Wl.cell? ⟨we.heap.size + 1, 0, none⟩ = some (.int .i64 a) := bx_cell HXC.out 0 _ rfl
        have cC1 : Wl.cell? ⟨we.heap.size + 1, 1, none⟩ = some (.int .i64 i) := bx_cell HXC.out 1 _ rfl
        have cC2 : Wl.cell? ⟨we.heap.size + 1, 2, none⟩ = some (.int .i64 g) := bx_cell HXC.out 2 _ rfl
        go_wp2_with fail
        refine (implPoolDo_sh _ pm a i g Wl HRP.out HFP.out).mono ?_
        rintro e wm ⟨vr, rfl, inr, hb⟩
        clear cP0 cP1 cP2
        clear cC0 cC1 cC2
        rw [HPF.out]
        rw [HPE.out] at inr
        have HIR := hide inr
        clear inr
        replace HXA := hide ((hb.block _ hzA).trans HXA.out)
        replace hzA := Nat.lt_of_lt_of_le hzA hb.size
        replace HXC := hide ((hb.block _ hzC).trans HXC.out)
        replace hzC := Nat.lt_of_lt_of_le hzC hb.size
        replace HXM := hide ((hb.block _ hzM).trans HXM.out)
        replace hzM := Nat.lt_of_lt_of_le hzM hb.size
        replace HXP := hide ((hb.block _ hzP).trans HXP.out)
        replace hzP := Nat.lt_of_lt_of_le hzP hb.size
        replace HXQ := hide ((hb.block _ hzQ).trans HXQ.out)
        replace hzQ := Nat.lt_of_lt_of_le hzQ hb.size
        replace HRD := hide ((HRD.out.kept hb (Nat.le_refl _)).le hb.size)
        replace HRM := hide ((HRM.out.kept hb (Nat.le_refl _)).le hb.size)
        replace HRP := hide ((HRP.out.kept hb (Nat.le_refl _)).le hb.size)
        replace HRQ := hide ((HRQ.out.kept hb (Nat.le_refl _)).le hb.size)
        replace HB := hide (HB.out.trans (hb.mono HB.out.size))
        clear hb
        obtain ⟨por, pcr, qor, qcr, hve⟩ := HIR.out.opn
        obtain ⟨pkr, hkey⟩ : ∃ q0, qm.key = q0 := ⟨_, rfl⟩
        obtain ⟨pnr, hn⟩ : ∃ q0, qm.l.length = q0 := ⟨_, rfl⟩
        obtain ⟨qnr, hq⟩ : ∃ q0, qm.ring.length = q0 := ⟨_, rfl⟩
        rw [hkey, hn, hq] at hve
        subst hve
        clear hkey hn hq
        have HRR := hide HIR.out.rd
        clear HIR
        obtain ⟨Wn, hWn⟩ : ∃ W, (wm.alloc (.cells #[.int .i64 pkr, .slice por pnr pcr, .slice qor qnr qcr] 26)) = W := ⟨_, rfl⟩
        have hb : Below wm.heap.size wm Wn := by rw [← hWn]; exact ((Below.refl _ _).alloc (Nat.le_refl _) _)
        have NXR : Hid (Wn.heap[wm.heap.size]? = some (.cells #[.int .i64 pkr, .slice por pnr pcr, .slice qor qnr qcr] 26 (0, 0))) := by rw [← hWn]; exact World.alloc_heap_new wm _
        have nzR : wm.heap.size < Wn.heap.size := by rw [← hWn]; simp
        replace HXA := hide ((hb.block _ hzA).trans HXA.out)
        replace hzA := Nat.lt_of_lt_of_le hzA hb.size
        replace HXC := hide ((hb.block _ hzC).trans HXC.out)
        replace hzC := Nat.lt_of_lt_of_le hzC hb.size
        replace HXM := hide ((hb.block _ hzM).trans HXM.out)
        replace hzM := Nat.lt_of_lt_of_le hzM hb.size
        replace HXP := hide ((hb.block _ hzP).trans HXP.out)
        replace hzP := Nat.lt_of_lt_of_le hzP hb.size
        replace HXQ := hide ((hb.block _ hzQ).trans HXQ.out)
        replace hzQ := Nat.lt_of_lt_of_le hzQ hb.size
        replace HRD := hide ((HRD.out.kept hb (Nat.le_refl _)).le hb.size)
        replace HRM := hide ((HRM.out.kept hb (Nat.le_refl _)).le hb.size)
        replace HRP := hide ((HRP.out.kept hb (Nat.le_refl _)).le hb.size)
        replace HRQ := hide ((HRQ.out.kept hb (Nat.le_refl _)).le hb.size)
        replace HRR := hide ((HRR.out.kept hb (Nat.le_refl _)).le hb.size)
        replace HB := hide (HB.out.trans (hb.mono HB.out.size))
        clear hb
        have HXR := NXR
        have hzR := nzR
        clear NXR nzR
        have HSP := hide (samePool_sh _ _ qm Wn HRQ.out HRR.out HFQ.out HQ8.out)
        have hsx := HSX.out
        subst hsx
        have cQ0 : Wn.cell? ⟨wk.heap.size, 0, none⟩ = some (.int .i64 pkq) := bx_cell HXQ.out 0 _ rfl
        have cQ1 : Wn.cell? ⟨wk.heap.size, 1, none⟩ = some (.slice poq pnq pcq) := bx_cell HXQ.out 1 _ rfl
        have cQ2 : Wn.cell? ⟨wk.heap.size, 2, none⟩ = some (.slice qoq qnq qcq) := bx_cell HXQ.out 2 _ rfl
        have cR0 : Wn.cell? ⟨wm.heap.size, 0, none⟩ = some (.int .i64 pkr) := bx_cell HXR.out 0 _ rfl
        have cR1 : Wn.cell? ⟨wm.heap.size, 1, none⟩ = some (.slice por pnr pcr) := bx_cell HXR.out 1 _ rfl
        have cR2 : Wn.cell? ⟨wm.heap.size, 2, none⟩ = some (.slice qor qnr qcr) := bx_cell HXR.out 2 _ rfl
        go_wp2_with fail
        refine HSP.out.mono ?_
        rintro e wo ⟨rfl, hb⟩
        clear cQ0 cQ1 cQ2
        clear cR0 cR1 cR2
        clear HSP HRQ HRR HRP HRM HRD
        replace HXA := hide ((hb.block _ hzA).trans HXA.out)
        replace hzA := Nat.lt_of_lt_of_le hzA hb.size
        replace HXC := hide ((hb.block _ hzC).trans HXC.out)
        replace hzC := Nat.lt_of_lt_of_le hzC hb.size
        replace HXM := hide ((hb.block _ hzM).trans HXM.out)
        replace hzM := Nat.lt_of_lt_of_le hzM hb.size
        replace HXP := hide ((hb.block _ hzP).trans HXP.out)
        replace hzP := Nat.lt_of_lt_of_le hzP hb.size
        replace HXQ := hide ((hb.block _ hzQ).trans HXQ.out)
        replace hzQ := Nat.lt_of_lt_of_le hzQ hb.size
        replace HXR := hide ((hb.block _ hzR).trans HXR.out)
        replace hzR := Nat.lt_of_lt_of_le hzR hb.size
        replace HB := hide (HB.out.trans (hb.mono HB.out.size))
        clear hb
        have cM0 : wo.cell? ⟨wg.heap.size, 0, none⟩ = some (.int .i64 keyx) := bx_cell HXM.out 0 _ rfl
        have cM1 : wo.cell? ⟨wg.heap.size, 1, none⟩ = some (.slice ox nx cx) := bx_cell HXM.out 1 _ rfl
        have cM2 : wo.cell? ⟨wg.heap.size, 2, none⟩ = some (.int .i64 (nx : Int)) := bx_cell HXM.out 2 _ rfl
        have HPL := hide (pools_any wo)
        go_wp2_with fail
        refine HPL.out.mono ?_
        rintro e w6 ⟨rfl, hb6⟩
        have HB6 := hide (HB.out.trans (hb6.mono HB.out.size))
        clear hb6
        go_wp2
        go_ret
        exact ⟨rfl, HB6.out⟩
  | false =>
    have cJ0 : w4.cell? ⟨w1.heap.size, 0, none⟩ = some (.int .i64 key) := bx_cell HXJ.out 0 _ rfl
    have cJ1 : w4.cell? ⟨w1.heap.size, 1, none⟩ = some (.slice o n c) := bx_cell HXJ.out 1 _ rfl
    have cJ2 : w4.cell? ⟨w1.heap.size, 2, none⟩ = some (.int .i64 safe) := bx_cell HXJ.out 2 _ rfl
    go_wp2_with fail
    refine (implJournalOk_sh _ m w4 HRD.out HFT.out).mono ?_
    rintro e w8 ⟨rfl, hb⟩
    clear cJ0 cJ1 cJ2
    rw [HJC.out]
    replace HRB := hide (HRB.out.kept hb)
    replace HXJ := hide ((hb.block _ hzJ).trans HXJ.out)
    replace hzJ := Nat.lt_of_lt_of_le hzJ hb.size
    replace HRD := hide ((HRD.out.kept hb (Nat.le_refl _)).le hb.size)
    replace HB := hide (HB.out.trans (hb.mono HB.out.size))
    clear hb
    clear HXJ hzJ
    clear HRB HJB HL1 HRD HCP HFT HJC HN HS
    go_wp2_with fail
    refine (HDR.out w8 HB.out).mono ?_
    rintro e w9 ⟨o9, c9, L, rfl, hrL, hbL, hl9, hb⟩
    have HRL := hide hrL
    have HBL := hide hbL
    clear hrL hbL
    replace HB := hide (HB.out.trans (hb.mono HB.out.size))
    clear hb
    obtain ⟨nL, hnL⟩ : ∃ n, L.length = n := ⟨_, rfl⟩
    have HNL := hide hnL
    rw [hnL] at hl9 ⊢
    clear hnL
    go_wp2_with fail
    refine ((show Calls Try.prog 25 #[.slice o9 nL c9] w9 (fun e w' => readJ L w9 e w') by have h := implJRead_any o9 c9 L w9 HRL.out HBL.out (by have := HNL.out; omega); rw [HNL.out] at h; exact h)).mono ?_
    rintro e wa ⟨vy, rfl, iny, hb⟩
    have HIY := hide iny
    clear iny
    replace HRL := hide (HRL.out.kept hb)
    replace HB := hide (HB.out.trans (hb.mono HB.out.size))
    clear hb
    have HJT := hide (fun h : okJ L = true => jrn_there HBL.out h)
    obtain ⟨fk, hfk⟩ : ∃ b, okJ L = b := ⟨_, rfl⟩
    rw [hfk] at HJT ⊢
    clear hfk
    obtain ⟨y, hy⟩ : ∃ y, jrR L = y := ⟨_, rfl⟩
    have HFY : Hid (fitJm y) := by rw [← hy]; exact jrR_fit L
    rw [hy] at HIY HJT
    clear hy
    obtain ⟨oy, cy, hve⟩ := HIY.out.opn
    obtain ⟨keyy, hkey⟩ : ∃ q0, y.key = q0 := ⟨_, rfl⟩
    obtain ⟨ny, hn⟩ : ∃ q0, y.l.length = q0 := ⟨_, rfl⟩
    obtain ⟨safey, hsafe⟩ : ∃ q0, y.safe = q0 := ⟨_, rfl⟩
    rw [hkey, hn, hsafe] at hve
    subst hve
    have HNy := hide hn
    have HSy := hide hsafe
    have HCY := hide HIY.out.cap
    have HRY := hide HIY.out.rd
    clear hkey hn hsafe HIY HNy HSy
    obtain ⟨Wb, hWb⟩ : ∃ W, (wa.alloc (.cells #[.int .i64 keyy, .slice oy ny cy, .int .i64 safey] 47)) = W := ⟨_, rfl⟩
    have hb : Below wa.heap.size wa Wb := by rw [← hWb]; exact ((Below.refl _ _).alloc (Nat.le_refl _) _)
    have NXY : Hid (Wb.heap[wa.heap.size]? = some (.cells #[.int .i64 keyy, .slice oy ny cy, .int .i64 safey] 47 (0, 0))) := by rw [← hWb]; exact World.alloc_heap_new wa _
    have nzY : wa.heap.size < Wb.heap.size := by rw [← hWb]; simp
    replace HRL := hide (HRL.out.kept hb)
    replace HRY := hide ((HRY.out.kept hb (Nat.le_refl _)).le hb.size)
    replace HB := hide (HB.out.trans (hb.mono HB.out.size))
    clear hb
    have HXY := NXY
    have hzY := nzY
    clear NXY nzY
    have cY0 : Wb.cell? ⟨wa.heap.size, 0, none⟩ = some (.int .i64 keyy) := bx_cell HXY.out 0 _ rfl
    have cY1 : Wb.cell? ⟨wa.heap.size, 1, none⟩ = some (.slice oy ny cy) := bx_cell HXY.out 1 _ rfl
    have cY2 : Wb.cell? ⟨wa.heap.size, 2, none⟩ = some (.int .i64 safey) := bx_cell HXY.out 2 _ rfl
    go_wp2_with fail
    refine (implJBytes_sh _ y Wb HRY.out HCY.out HFY.out).mono ?_
    rintro e wc ⟨vz, rfl, inz, hb⟩
    clear cY0 cY1 cY2
    obtain ⟨oz, cz, hvz, hrz⟩ := ownB.open (ownB_lay.2 inz.1)
    subst hvz
    have HRZ := hide hrz
    clear hrz inz
    replace HRL := hide (HRL.out.kept hb)
    replace HXY := hide ((hb.block _ hzY).trans HXY.out)
    replace hzY := Nat.lt_of_lt_of_le hzY hb.size
    replace HRY := hide ((HRY.out.kept hb (Nat.le_refl _)).le hb.size)
    replace HB := hide (HB.out.trans (hb.mono HB.out.size))
    clear hb
    clear HXY hzY
    clear HRY HCY HFY
    obtain ⟨Lz, hLz⟩ : ∃ z, jrnL y = z := ⟨_, rfl⟩
    rw [hLz] at HRZ HJT ⊢
    clear hLz
    obtain ⟨jz, hjz⟩ : ∃ b, journalB y.key y.l y.safe = b := ⟨_, rfl⟩
    rw [hjz] at HJT ⊢
    clear hjz
    obtain ⟨nz, hnz⟩ : ∃ n, Lz.length = n := ⟨_, rfl⟩
    have HNZ := hide hnz
    rw [hnz]
    clear hnz
    go_upto_region 12 with fail
    go_cut [76] from 66 to 76 (fun s wx => s = .bool false ∧ Hid (Below wc.heap.size wc wx))
    case first =>
      cases fk with
      | false =>
        clear HJT
        go_wp2_with fail
        go_meet
        exact ⟨rfl, Below.refl _ _⟩
      | true =>
        obtain ⟨hj, he⟩ := HJT.out rfl
        subst hj
        have hnn : nz = nL := by rw [← HNZ.out, he, HNL.out]
        subst hnn
        have HSM : Hid (Calls Try.prog 28 #[.slice oz nz cz, .slice o9 nz c9] wc fun e w' => e = .returned (.bool true) ∧ wc = w') := by
          have h := same_any oz o9 cz c9 L L wc (by have h := HRZ.out; rw [he] at h; exact h) HRL.out HBL.out HBL.out
          rw [HNL.out, decide_eq_true rfl] at h
          exact h
        clear HJT he
        go_wp2_with fail
        refine HSM.out.mono ?_
        rintro e wx ⟨rfl, rfl⟩
        go_wp2_with fail
        go_meet
        exact ⟨rfl, Below.refl _ _⟩
    case rest =>
      rename World => wd
      obtain ⟨rfl, Hbd⟩ := hcut
      have hb := Hbd.out
      replace HB := hide (HB.out.trans (hb.mono HB.out.size))
      clear hb
      clear HRL HBL HRZ HJT Hbd HNL HNZ
      go_wp2_with fail
      refine (HDN.out wd HB.out).mono ?_
      rintro e we ⟨v, m2, a, i, g, rfl, hin, hl11, hb⟩
      have HIN := hide hin
      clear hin
      replace HB := hide (HB.out.trans (hb.mono HB.out.size))
      clear hb
      obtain ⟨o2, c2, hve⟩ := HIN.out.opn
      obtain ⟨key2, hkey⟩ : ∃ q0, m2.key = q0 := ⟨_, rfl⟩
      obtain ⟨n2, hn⟩ : ∃ q0, m2.l.length = q0 := ⟨_, rfl⟩
      obtain ⟨safe2, hsafe⟩ : ∃ q0, m2.safe = q0 := ⟨_, rfl⟩
      rw [hkey, hn, hsafe] at hve
      subst hve
      have HN2 := hide hn
      have HS2 := hide hsafe
      have HCP := hide HIN.out.cap
      have HFT : Hid (fitJm m2) := by unfold Hid fitJm; rw [hn]; omega
      have HRD := hide HIN.out.rd
      clear hkey hn hsafe HIN HDR HDN
      obtain ⟨Wf, hWf⟩ : ∃ W, ((we.alloc (.cells #[.int .i64 key2, .slice o2 n2 c2, .int .i64 safe2] 47)).alloc (.cells #[.int .i64 a, .int .i64 i, .int .i64 g] 28)) = W := ⟨_, rfl⟩
      have hb : Below we.heap.size we Wf := by rw [← hWf]; exact (((Below.refl _ _).alloc (Nat.le_refl _) _).alloc (by simp <;> omega) _)
      have NXA : Hid (Wf.heap[we.heap.size]? = some (.cells #[.int .i64 key2, .slice o2 n2 c2, .int .i64 safe2] 47 (0, 0))) := by rw [← hWf]; exact box_old2 we _ _ _
      have nzA : we.heap.size < Wf.heap.size := by rw [← hWf]; simp <;> omega
      have NXC : Hid (Wf.heap[we.heap.size + 1]? = some (.cells #[.int .i64 a, .int .i64 i, .int .i64 g] 28 (0, 0))) := by rw [← hWf]; exact box_new2 we _ _ _
      have nzC : we.heap.size + 1 < Wf.heap.size := by rw [← hWf]; simp
      replace HRD := hide ((HRD.out.kept hb (Nat.le_refl _)).le hb.size)
      replace HB := hide (HB.out.trans (hb.mono HB.out.size))
      clear hb
      have HXA := NXA
      have hzA := nzA
      clear NXA nzA
      have HXC := NXC
      have hzC := nzC
      clear NXC nzC
      have cA0 : Wf.cell? ⟨we.heap.size, 0, none⟩ = some (.int .i64 key2) := bx_cell HXA.out 0 _ rfl
      have cA1 : Wf.cell? ⟨we.heap.size, 1, none⟩ = some (.slice o2 n2 c2) := bx_cell HXA.out 1 _ rfl
      have cA2 : Wf.cell? ⟨we.heap.size, 2, none⟩ = some (.int .i64 safe2) := bx_cell HXA.out 2 _ rfl
      have cC0 : Wf.cell? ⟨we.heap.size + 1, 0, none⟩ = some (.int .i64 a) := bx_cell HXC.out 0 _ rfl
      have cC1 : Wf.cell? ⟨we.heap.size + 1, 1, none⟩ = some (.int .i64 i) := bx_cell HXC.out 1 _ rfl
      have cC2 : Wf.cell? ⟨we.heap.size + 1, 2, none⟩ = some (.int .i64 g) := bx_cell HXC.out 2 _ rfl
      go_wp2_with fail
      refine (implNote_sh _ m2 a i g Wf HRD.out HCP.out HFT.out).mono ?_
      rintro e wg ⟨vn, rfl, inn, hb⟩
      clear cA0 cA1 cA2
      clear cC0 cC1 cC2
      have HIM := hide inn
      clear inn
      replace HXA := hide ((hb.block _ hzA).trans HXA.out)
      replace hzA := Nat.lt_of_lt_of_le hzA hb.size
      replace HXC := hide ((hb.block _ hzC).trans HXC.out)
      replace hzC := Nat.lt_of_lt_of_le hzC hb.size
      replace HRD := hide ((HRD.out.kept hb (Nat.le_refl _)).le hb.size)
      replace HB := hide (HB.out.trans (hb.mono HB.out.size))
      clear hb
      have HNO := hide (fun h => note_no (m := m2) (a := a) (i := i) (g := g) h)
      have HYE := hide (fun h => note_yes (m := m2) (a := a) (i := i) (g := g) h)
      have HFM : Hid (fitJm (noteM m2 a i g)) := noteM_fit a i g HFT.out
      obtain ⟨x, hx⟩ : ∃ x, noteM m2 a i g = x := ⟨_, rfl⟩
      rw [hx] at HIM HNO HYE HFM
      clear hx
      obtain ⟨ox, cx, hve⟩ := HIM.out.opn
      obtain ⟨keyx, hkey⟩ : ∃ q0, x.key = q0 := ⟨_, rfl⟩
      obtain ⟨nx, hn⟩ : ∃ q0, x.l.length = q0 := ⟨_, rfl⟩
      obtain ⟨safex, hsafe⟩ : ∃ q0, x.safe = q0 := ⟨_, rfl⟩
      rw [hkey, hn, hsafe] at hve
      subst hve
      have HNx := hide hn
      have HSx := hide hsafe
      have HCM := hide HIM.out.cap
      have HRM := hide HIM.out.rd
      clear hkey hn hsafe HIM
      obtain ⟨Wh, hWh⟩ : ∃ W, (wg.alloc (.cells #[.int .i64 keyx, .slice ox nx cx, .int .i64 safex] 47)) = W := ⟨_, rfl⟩
      have hb : Below wg.heap.size wg Wh := by rw [← hWh]; exact ((Below.refl _ _).alloc (Nat.le_refl _) _)
      have NXM : Hid (Wh.heap[wg.heap.size]? = some (.cells #[.int .i64 keyx, .slice ox nx cx, .int .i64 safex] 47 (0, 0))) := by rw [← hWh]; exact World.alloc_heap_new wg _
      have nzM : wg.heap.size < Wh.heap.size := by rw [← hWh]; simp
      replace HXA := hide ((hb.block _ hzA).trans HXA.out)
      replace hzA := Nat.lt_of_lt_of_le hzA hb.size
      replace HXC := hide ((hb.block _ hzC).trans HXC.out)
      replace hzC := Nat.lt_of_lt_of_le hzC hb.size
      replace HRD := hide ((HRD.out.kept hb (Nat.le_refl _)).le hb.size)
      replace HRM := hide ((HRM.out.kept hb (Nat.le_refl _)).le hb.size)
      replace HB := hide (HB.out.trans (hb.mono HB.out.size))
      clear hb
      have HXM := NXM
      have hzM := nzM
      clear NXM nzM
      cases hfl : noteF m2 a i g with
      | false =>
        have hno := HNO.out hfl
        clear HNO HYE hfl
        by_cases h0 : nx = 0
        · subst h0
          clear hno
          have cM0 : Wh.cell? ⟨wg.heap.size, 0, none⟩ = some (.int .i64 keyx) := bx_cell HXM.out 0 _ rfl
          have cM1 : Wh.cell? ⟨wg.heap.size, 1, none⟩ = some (.slice ox 0 cx) := bx_cell HXM.out 1 _ rfl
          have cM2 : Wh.cell? ⟨wg.heap.size, 2, none⟩ = some (.int .i64 safex) := bx_cell HXM.out 2 _ rfl
          have HPL := hide (pools_any Wh)
          go_wp2_with fail
          refine HPL.out.mono ?_
          rintro e w6 ⟨rfl, hb6⟩
          have HB6 := hide (HB.out.trans (hb6.mono HB.out.size))
          clear hb6
          go_wp2
          go_ret
          exact ⟨rfl, HB6.out⟩
        · have hxm : x = m2 := by
            rcases hno with h | h
            · exact absurd (HNx.out.symm.trans h) h0
            · exact h
          have hn1 : ¬ ((nx : Int) = 0) := by omega
          have HSJ := hide (sameJournal_sh _ _ m2 Wh (by have h := HRM.out; rw [hxm] at h; exact h) HRD.out HFT.out)
          clear hno hxm
          have cM0 : Wh.cell? ⟨wg.heap.size, 0, none⟩ = some (.int .i64 keyx) := bx_cell HXM.out 0 _ rfl
          have cM1 : Wh.cell? ⟨wg.heap.size, 1, none⟩ = some (.slice ox nx cx) := bx_cell HXM.out 1 _ rfl
          have cM2 : Wh.cell? ⟨wg.heap.size, 2, none⟩ = some (.int .i64 safex) := bx_cell HXM.out 2 _ rfl
          have cA0 : Wh.cell? ⟨we.heap.size, 0, none⟩ = some (.int .i64 key2) := bx_cell HXA.out 0 _ rfl
          have cA1 : Wh.cell? ⟨we.heap.size, 1, none⟩ = some (.slice o2 n2 c2) := bx_cell HXA.out 1 _ rfl
          have cA2 : Wh.cell? ⟨we.heap.size, 2, none⟩ = some (.int .i64 safe2) := bx_cell HXA.out 2 _ rfl
          go_wp2_with fail
          refine HSJ.out.mono ?_
          rintro e w5 ⟨rfl, hb5⟩
          have HB5 := hide (HB.out.trans (hb5.mono HB.out.size))
          have HPL := hide (pools_any w5)
          clear hb5
          clear cM0 cM1 cM2
          clear cA0 cA1 cA2
          go_wp2_with fail
          refine HPL.out.mono ?_
          rintro e w6 ⟨rfl, hb6⟩
          have HB6 := hide (HB5.out.trans (hb6.mono HB5.out.size))
          clear hb6
          go_wp2
          go_ret
          exact ⟨rfl, HB6.out⟩
      | true =>
        obtain ⟨hj1, hj2, hpf, hpe, hsl, hq1, hq8⟩ := HYE.out hfl
        have HSX := hide (show safex = (nx : Int) by rw [← HSx.out, hsl, HNx.out])
        have HJ1 := hide hj1
        have HJ2 := hide hj2
        have HPE := hide hpe
        have HQ8 := hide hq8
        clear HNO HYE hfl hj1 hj2 hsl hpe hq8 hq1
        have HPF := hide hpf
        clear hpf
        have cA0 : Wh.cell? ⟨we.heap.size, 0, none⟩ = some (.int .i64 key2) := bx_cell HXA.out 0 _ rfl
        have cA1 : Wh.cell? ⟨we.heap.size, 1, none⟩ = some (.slice o2 n2 c2) := bx_cell HXA.out 1 _ rfl
        have cA2 : Wh.cell? ⟨we.heap.size, 2, none⟩ = some (.int .i64 safe2) := bx_cell HXA.out 2 _ rfl
        go_wp2_with fail
        refine (implReplay_sh _ m2 Wh HRD.out HCP.out HFT.out).mono ?_
        rintro e wi ⟨vp, rfl, inp, hb⟩
        clear cA0 cA1 cA2
        rw [HJ1.out]
        have HIP := hide inp
        clear inp
        replace HXA := hide ((hb.block _ hzA).trans HXA.out)
        replace hzA := Nat.lt_of_lt_of_le hzA hb.size
        replace HXC := hide ((hb.block _ hzC).trans HXC.out)
        replace hzC := Nat.lt_of_lt_of_le hzC hb.size
        replace HXM := hide ((hb.block _ hzM).trans HXM.out)
        replace hzM := Nat.lt_of_lt_of_le hzM hb.size
        replace HRD := hide ((HRD.out.kept hb (Nat.le_refl _)).le hb.size)
        replace HRM := hide ((HRM.out.kept hb (Nat.le_refl _)).le hb.size)
        replace HB := hide (HB.out.trans (hb.mono HB.out.size))
        clear hb
        have HFP := hide (replay_fit m2)
        obtain ⟨pm, hpm⟩ : ∃ p, replayM m2 = p := ⟨_, rfl⟩
        rw [hpm] at HIP HFP HPE HPF
        clear hpm
        obtain ⟨pop, pcp, qop, qcp, hve⟩ := HIP.out.opn
        obtain ⟨pkp, hkey⟩ : ∃ q0, pm.key = q0 := ⟨_, rfl⟩
        obtain ⟨pnp, hn⟩ : ∃ q0, pm.l.length = q0 := ⟨_, rfl⟩
        obtain ⟨qnp, hq⟩ : ∃ q0, pm.ring.length = q0 := ⟨_, rfl⟩
        rw [hkey, hn, hq] at hve
        subst hve
        clear hkey hn hq
        have HRP := hide HIP.out.rc
        clear HIP
        obtain ⟨Wj, hWj⟩ : ∃ W, (wi.alloc (.cells #[.int .i64 pkp, .slice pop pnp pcp, .slice qop qnp qcp] 26)) = W := ⟨_, rfl⟩
        have hb : Below wi.heap.size wi Wj := by rw [← hWj]; exact ((Below.refl _ _).alloc (Nat.le_refl _) _)
        have NXP : Hid (Wj.heap[wi.heap.size]? = some (.cells #[.int .i64 pkp, .slice pop pnp pcp, .slice qop qnp qcp] 26 (0, 0))) := by rw [← hWj]; exact World.alloc_heap_new wi _
        have nzP : wi.heap.size < Wj.heap.size := by rw [← hWj]; simp
        replace HXA := hide ((hb.block _ hzA).trans HXA.out)
        replace hzA := Nat.lt_of_lt_of_le hzA hb.size
        replace HXC := hide ((hb.block _ hzC).trans HXC.out)
        replace hzC := Nat.lt_of_lt_of_le hzC hb.size
        replace HXM := hide ((hb.block _ hzM).trans HXM.out)
        replace hzM := Nat.lt_of_lt_of_le hzM hb.size
        replace HRD := hide ((HRD.out.kept hb (Nat.le_refl _)).le hb.size)
        replace HRM := hide ((HRM.out.kept hb (Nat.le_refl _)).le hb.size)
        replace HRP := hide ((HRP.out.kept hb (Nat.le_refl _)).le hb.size)
        replace HB := hide (HB.out.trans (hb.mono HB.out.size))
        clear hb
        have HXP := NXP
        have hzP := nzP
        clear NXP nzP
        have cM0 : Wj.cell? ⟨wg.heap.size, 0, none⟩ = some (.int .i64 keyx) := bx_cell HXM.out 0 _ rfl
        have cM1 : Wj.cell? ⟨wg.heap.size, 1, none⟩ = some (.slice ox nx cx) := bx_cell HXM.out 1 _ rfl
        have cM2 : Wj.cell? ⟨wg.heap.size, 2, none⟩ = some (.int .i64 safex) := bx_cell HXM.out 2 _ rfl
        go_wp2_with fail
        refine (implReplay_sh _ x Wj HRM.out HCM.out HFM.out).mono ?_
        rintro e wk ⟨vq, rfl, inq, hb⟩
        clear cM0 cM1 cM2
        rw [HJ2.out]
        have HIQ := hide inq
        clear inq
        replace HXA := hide ((hb.block _ hzA).trans HXA.out)
        replace hzA := Nat.lt_of_lt_of_le hzA hb.size
        replace HXC := hide ((hb.block _ hzC).trans HXC.out)
        replace hzC := Nat.lt_of_lt_of_le hzC hb.size
        replace HXM := hide ((hb.block _ hzM).trans HXM.out)
        replace hzM := Nat.lt_of_lt_of_le hzM hb.size
        replace HXP := hide ((hb.block _ hzP).trans HXP.out)
        replace hzP := Nat.lt_of_lt_of_le hzP hb.size
        replace HRD := hide ((HRD.out.kept hb (Nat.le_refl _)).le hb.size)
        replace HRM := hide ((HRM.out.kept hb (Nat.le_refl _)).le hb.size)
        replace HRP := hide ((HRP.out.kept hb (Nat.le_refl _)).le hb.size)
        replace HB := hide (HB.out.trans (hb.mono HB.out.size))
        clear hb
        have HFQ := hide (replay_fit x)
        obtain ⟨qm, hqm⟩ : ∃ p, replayM x = p := ⟨_, rfl⟩
        rw [hqm] at HIQ HFQ HPE HQ8
        clear hqm
        obtain ⟨poq, pcq, qoq, qcq, hve⟩ := HIQ.out.opn
        obtain ⟨pkq, hkey⟩ : ∃ q0, qm.key = q0 := ⟨_, rfl⟩
        obtain ⟨pnq, hn⟩ : ∃ q0, qm.l.length = q0 := ⟨_, rfl⟩
        obtain ⟨qnq, hq⟩ : ∃ q0, qm.ring.length = q0 := ⟨_, rfl⟩
        rw [hkey, hn, hq] at hve
        subst hve
        clear hkey hn hq
        have HRQ := hide HIQ.out.rd
        clear HIQ
        obtain ⟨Wl, hWl⟩ : ∃ W, (wk.alloc (.cells #[.int .i64 pkq, .slice poq pnq pcq, .slice qoq qnq qcq] 26)) = W := ⟨_, rfl⟩
        have hb : Below wk.heap.size wk Wl := by rw [← hWl]; exact ((Below.refl _ _).alloc (Nat.le_refl _) _)
        have NXQ : Hid (Wl.heap[wk.heap.size]? = some (.cells #[.int .i64 pkq, .slice poq pnq pcq, .slice qoq qnq qcq] 26 (0, 0))) := by rw [← hWl]; exact World.alloc_heap_new wk _
        have nzQ : wk.heap.size < Wl.heap.size := by rw [← hWl]; simp
        replace HXA := hide ((hb.block _ hzA).trans HXA.out)
        replace hzA := Nat.lt_of_lt_of_le hzA hb.size
        replace HXC := hide ((hb.block _ hzC).trans HXC.out)
        replace hzC := Nat.lt_of_lt_of_le hzC hb.size
        replace HXM := hide ((hb.block _ hzM).trans HXM.out)
        replace hzM := Nat.lt_of_lt_of_le hzM hb.size
        replace HXP := hide ((hb.block _ hzP).trans HXP.out)
        replace hzP := Nat.lt_of_lt_of_le hzP hb.size
        replace HRD := hide ((HRD.out.kept hb (Nat.le_refl _)).le hb.size)
        replace HRM := hide ((HRM.out.kept hb (Nat.le_refl _)).le hb.size)
        replace HRP := hide ((HRP.out.kept hb (Nat.le_refl _)).le hb.size)
        replace HRQ := hide ((HRQ.out.kept hb (Nat.le_refl _)).le hb.size)
        replace HB := hide (HB.out.trans (hb.mono HB.out.size))
        clear hb
        have HXQ := NXQ
        have hzQ := nzQ
        clear NXQ nzQ
        have cP0 : Wl.cell? ⟨wi.heap.size, 0, none⟩ = some (.int .i64 pkp) := bx_cell HXP.out 0 _ rfl
        have cP1 : Wl.cell? ⟨wi.heap.size, 1, none⟩ = some (.slice pop pnp pcp) := bx_cell HXP.out 1 _ rfl
        have cP2 : Wl.cell? ⟨wi.heap.size, 2, none⟩ = some (.slice qop qnp qcp) := bx_cell HXP.out 2 _ rfl
        have cC0 : Wl.cell? ⟨we.heap.size + 1, 0, none⟩ = some (.int .i64 a) := bx_cell HXC.out 0 _ rfl
        have cC1 : Wl.cell? ⟨we.heap.size + 1, 1, none⟩ = some (.int .i64 i) := bx_cell HXC.out 1 _ rfl
        have cC2 : Wl.cell? ⟨we.heap.size + 1, 2, none⟩ = some (.int .i64 g) := bx_cell HXC.out 2 _ rfl
        go_wp2_with fail
        refine (implPoolDo_sh _ pm a i g Wl HRP.out HFP.out).mono ?_
        rintro e wm ⟨vr, rfl, inr, hb⟩
        clear cP0 cP1 cP2
        clear cC0 cC1 cC2
        rw [HPF.out]
        rw [HPE.out] at inr
        have HIR := hide inr
        clear inr
        replace HXA := hide ((hb.block _ hzA).trans HXA.out)
        replace hzA := Nat.lt_of_lt_of_le hzA hb.size
        replace HXC := hide ((hb.block _ hzC).trans HXC.out)
        replace hzC := Nat.lt_of_lt_of_le hzC hb.size
        replace HXM := hide ((hb.block _ hzM).trans HXM.out)
        replace hzM := Nat.lt_of_lt_of_le hzM hb.size
        replace HXP := hide ((hb.block _ hzP).trans HXP.out)
        replace hzP := Nat.lt_of_lt_of_le hzP hb.size
        replace HXQ := hide ((hb.block _ hzQ).trans HXQ.out)
        replace hzQ := Nat.lt_of_lt_of_le hzQ hb.size
        replace HRD := hide ((HRD.out.kept hb (Nat.le_refl _)).le hb.size)
        replace HRM := hide ((HRM.out.kept hb (Nat.le_refl _)).le hb.size)
        replace HRP := hide ((HRP.out.kept hb (Nat.le_refl _)).le hb.size)
        replace HRQ := hide ((HRQ.out.kept hb (Nat.le_refl _)).le hb.size)
        replace HB := hide (HB.out.trans (hb.mono HB.out.size))
        clear hb
        obtain ⟨por, pcr, qor, qcr, hve⟩ := HIR.out.opn
        obtain ⟨pkr, hkey⟩ : ∃ q0, qm.key = q0 := ⟨_, rfl⟩
        obtain ⟨pnr, hn⟩ : ∃ q0, qm.l.length = q0 := ⟨_, rfl⟩
        obtain ⟨qnr, hq⟩ : ∃ q0, qm.ring.length = q0 := ⟨_, rfl⟩
        rw [hkey, hn, hq] at hve
        subst hve
        clear hkey hn hq
        have HRR := hide HIR.out.rd
        clear HIR
        obtain ⟨Wn, hWn⟩ : ∃ W, (wm.alloc (.cells #[.int .i64 pkr, .slice por pnr pcr, .slice qor qnr qcr] 26)) = W := ⟨_, rfl⟩
        have hb : Below wm.heap.size wm Wn := by rw [← hWn]; exact ((Below.refl _ _).alloc (Nat.le_refl _) _)
        have NXR : Hid (Wn.heap[wm.heap.size]? = some (.cells #[.int .i64 pkr, .slice por pnr pcr, .slice qor qnr qcr] 26 (0, 0))) := by rw [← hWn]; exact World.alloc_heap_new wm _
        have nzR : wm.heap.size < Wn.heap.size := by rw [← hWn]; simp
        replace HXA := hide ((hb.block _ hzA).trans HXA.out)
        replace hzA := Nat.lt_of_lt_of_le hzA hb.size
        replace HXC := hide ((hb.block _ hzC).trans HXC.out)
        replace hzC := Nat.lt_of_lt_of_le hzC hb.size
        replace HXM := hide ((hb.block _ hzM).trans HXM.out)
        replace hzM := Nat.lt_of_lt_of_le hzM hb.size
        replace HXP := hide ((hb.block _ hzP).trans HXP.out)
        replace hzP := Nat.lt_of_lt_of_le hzP hb.size
        replace HXQ := hide ((hb.block _ hzQ).trans HXQ.out)
        replace hzQ := Nat.lt_of_lt_of_le hzQ hb.size
        replace HRD := hide ((HRD.out.kept hb (Nat.le_refl _)).le hb.size)
        replace HRM := hide ((HRM.out.kept hb (Nat.le_refl _)).le hb.size)
        replace HRP := hide ((HRP.out.kept hb (Nat.le_refl _)).le hb.size)
        replace HRQ := hide ((HRQ.out.kept hb (Nat.le_refl _)).le hb.size)
        replace HRR := hide ((HRR.out.kept hb (Nat.le_refl _)).le hb.size)
        replace HB := hide (HB.out.trans (hb.mono HB.out.size))
        clear hb
        have HXR := NXR
        have hzR := nzR
        clear NXR nzR
        have HSP := hide (samePool_sh _ _ qm Wn HRQ.out HRR.out HFQ.out HQ8.out)
        have hsx := HSX.out
        subst hsx
        have cQ0 : Wn.cell? ⟨wk.heap.size, 0, none⟩ = some (.int .i64 pkq) := bx_cell HXQ.out 0 _ rfl
        have cQ1 : Wn.cell? ⟨wk.heap.size, 1, none⟩ = some (.slice poq pnq pcq) := bx_cell HXQ.out 1 _ rfl
        have cQ2 : Wn.cell? ⟨wk.heap.size, 2, none⟩ = some (.slice qoq qnq qcq) := bx_cell HXQ.out 2 _ rfl
        have cR0 : Wn.cell? ⟨wm.heap.size, 0, none⟩ = some (.int .i64 pkr) := bx_cell HXR.out 0 _ rfl
        have cR1 : Wn.cell? ⟨wm.heap.size, 1, none⟩ = some (.slice por pnr pcr) := bx_cell HXR.out 1 _ rfl
        have cR2 : Wn.cell? ⟨wm.heap.size, 2, none⟩ = some (.slice qor qnr qcr) := bx_cell HXR.out 2 _ rfl
        go_wp2_with fail
        refine HSP.out.mono ?_
        rintro e wo ⟨rfl, hb⟩
        clear cQ0 cQ1 cQ2
        clear cR0 cR1 cR2
        clear HSP HRQ HRR HRP HRM HRD
        replace HXA := hide ((hb.block _ hzA).trans HXA.out)
        replace hzA := Nat.lt_of_lt_of_le hzA hb.size
        replace HXC := hide ((hb.block _ hzC).trans HXC.out)
        replace hzC := Nat.lt_of_lt_of_le hzC hb.size
        replace HXM := hide ((hb.block _ hzM).trans HXM.out)
        replace hzM := Nat.lt_of_lt_of_le hzM hb.size
        replace HXP := hide ((hb.block _ hzP).trans HXP.out)
        replace hzP := Nat.lt_of_lt_of_le hzP hb.size
        replace HXQ := hide ((hb.block _ hzQ).trans HXQ.out)
        replace hzQ := Nat.lt_of_lt_of_le hzQ hb.size
        replace HXR := hide ((hb.block _ hzR).trans HXR.out)
        replace hzR := Nat.lt_of_lt_of_le hzR hb.size
        replace HB := hide (HB.out.trans (hb.mono HB.out.size))
        clear hb
        have cM0 : wo.cell? ⟨wg.heap.size, 0, none⟩ = some (.int .i64 keyx) := bx_cell HXM.out 0 _ rfl
        have cM1 : wo.cell? ⟨wg.heap.size, 1, none⟩ = some (.slice ox nx cx) := bx_cell HXM.out 1 _ rfl
        have cM2 : wo.cell? ⟨wg.heap.size, 2, none⟩ = some (.int .i64 (nx : Int)) := bx_cell HXM.out 2 _ rfl
        have HPL := hide (pools_any wo)
        go_wp2_with fail
        refine HPL.out.mono ?_
        rintro e w6 ⟨rfl, hb6⟩
        have HB6 := hide (HB.out.trans (hb6.mono HB.out.size))
        clear hb6
        go_wp2
        go_ret
        exact ⟨rfl, HB6.out⟩

set_option maxRecDepth 100000 in
theorem fnJournals_lifted (os : Os) (started : os.Started) (H : Type) (enc : TypeId × Value → H) :
    ReturnsInHanded {} Try.checked os 5 .any (Rows.fnJournalsSpec.pre6 enc Try.prog Try.f5 Rows.fnJournalsRow.domain false) (Rows.fnJournalsSpec.post enc Try.prog Try.f5 false true false false) := by
  refine returnsInHanded_of_change (C := Try.checked) own started (by kernel_rfl) Try.func5
    (ChangeSpec.witness6 (enc := enc) (C := Try.checked) false ⟨#[], #[.slice none 0 0], []⟩ 8 (by kernel_rfl) (by kernel_rfl) (by kernel_rfl) (by kernel_rfl)) ?_
  intro W base args ds gs before hval0 hW hcnd _
  have hval : ∀ (j : Nat) t v, Try.f5.params[j]? = some t → args[j]? = some v → Value.okWide Try.prog W .any base t v := hval0
  have hW' := hW
  obtain ⟨p, q, hA0, hV, rfl, hfz, hnd⟩ := hW
  have hA : DataW.TrodAll enc Try.prog W 0 (fun _ => true) true Try.f5.params.toList args.toList ds p := hA0
  rw [Try.params5] at hA hval
  obtain ⟨v0, vs0, d0, ds0, p0, q0, hargs, rfl, rfl, h0, r0⟩ := trodAll_cons hA
  obtain ⟨rfl, rfl, rfl⟩ := trodAll_nil r0
  obtain rfl : args = #[v0] := by cases args; simp_all
  obtain ⟨rfl, rfl⟩ := trodVars_none hV
  have k0 := h0
  have lt0 : ∀ x ∈ p0, x.block < W.heap.size := by obtain ⟨m, hm⟩ := k0; exact DataW.trod_lt m _ _ _ hm
  obtain ⟨o0, cap0, l0, rfl, hm0, hR0, hB80⟩ := open_bytes (hval 0 22 v0 rfl rfl) h0
  clear hA0 hval0
  refine (lawJournals o0 cap0 l0 W hm0 hR0 hB80 ).mono fun e W' ⟨he, bel⟩ => ?_
  subst he
  exact ⟨_, rfl, _, _, _, [], _, [], hW', trodAll_mk1 (shut_bool Try.underlying4 _), (trodAll_cons_mk (Below.trod laidOut (by kernel_rfl) (of_decide_eq_true (by kernel_rfl)) k0 bel lt0) trodAll_mk0), rfl, bel.frame _, fun h => by cases h⟩

theorem fnJournals_over : Rows.fnJournalsRow.holds Try.pinned (OpenSpec.ofChange Rows.fnJournalsSpec) :=
  OpenClaim.holds_of_wide 5 Try.f5 rfl rfl rfl rfl rfl rfl rfl ⟨rfl, rfl, rfl, rfl, rfl⟩ rfl rfl rfl rfl rfl (by kernel_rfl) Try.func5 (by kernel_rfl)
    (of_decide_eq_true (by kernel_rfl)) (by unfold Func.isWrapper; first | (rw [if_pos (by decide +kernel)]; kernel_rfl) | (rw [if_neg (by decide +kernel)]; exact ⟨rfl, rfl⟩))
    (fun os started H enc _ => fnJournals_lifted os started H enc)

theorem fnJournals_holds : Rows.FnJournalsSaid := fnJournals_over


end Go.Proofs.Ytldjaapbkihibaa
