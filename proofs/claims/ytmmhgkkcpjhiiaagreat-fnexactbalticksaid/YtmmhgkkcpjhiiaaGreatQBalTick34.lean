/- The model's BalOk. -/
import Derived.BigQuiet
import Derived.Deep.RegionHeld3
import Derived.Test.YtmmhgkkcpjhiiaaGreatQBalTick32
import Derived.Test.YtmmhgkkcpjhiiaaGreatQBalTick33
namespace Go.Proofs.YtmmhgkkcpjhiiaaGreat
open Go.ChangeShapes Go.WideShapes Go.ChangeAt Go.RowKit Go.Joins
set_option linter.unusedVariables false
set_option linter.unusedSimpArgs false


set_option maxRecDepth 100000 in
set_option maxHeartbeats 8000000 in
theorem specBalOk_any (kj : Int) (o : Option Addr) (nj c : Nat) (sj kp : Int) (ob : Option Addr) (np cb : Nat) (oR : Option Addr) (nr cR : Nat) (ot : Option Addr) (nt ct : Nat) (lj : List Cd) (lb : List Bk) (lr : List (List (List Int))) (lt : List Sl) (w : World)
  (hnj : nj = lj.length) (hnt : nt = lt.length) (h1 : RdC w.heap.size w o lj) (h1c : o = none → c = 0) (h2 : RdPm w.heap.size w (plv kp (.slice ob np cb) (.slice oR nr cR)) ⟨kp, lb, lr⟩) (h4 : RdS w.heap.size w ot lt) (hf : fitB0 ⟨⟨kj, lj, sj⟩, ⟨kp, lb, lr⟩, lt⟩) :
  Calls Tryz.prog 21 #[balv kj (.slice o nj c) sj kp (.slice ob np cb) (.slice oR nr cR) (.slice ot nt ct)] w fun e w' => e = .returned (.bool (balB ⟨⟨kj, lj, sj⟩, ⟨kp, lb, lr⟩, lt⟩)) ∧ Below w.heap.size w w' := by
 obtain ⟨f1, f2, f7⟩ := hf
 dsimp only at f1 f2 f7
 have hfj : lj.length ≤ 1048576 := by omega
 have HJ := hide (fun W (hb : Below w.heap.size w W) => specJournalOk_any kj sj o c lj W ((h1.kept hb (Nat.le_refl _)).le hb.size) hfj)
 have HT := hide (fun W (hb : Below w.heap.size w W) => specTableOk_any ot ct lt W ((h4.kept hb (Nat.le_refl _)).le hb.size) f7)
 rw [← hnj] at HJ
 rw [← hnt] at HT
 have HRP := hide (fun (hj : journalB kj lj sj = true) W (hb : Below w.heap.size w W) => l4replay_pm kj sj o nj c lj W hnj ((h1.kept hb (Nat.le_refl _)).le hb.size) hj)
 have HSM := hide (fun W (hb : Below w.heap.size w W) v (h : RdPm W.heap.size W v (replayM ⟨kj, lj, sj⟩)) => l7same_any (plv kp (.slice ob np cb) (.slice oR nr cR)) v ⟨kp, lb, lr⟩ (replayM ⟨kj, lj, sj⟩) W ((h2.kept hb (Nat.le_refl _)).le hb.size) h f2 (replay_fit _))
 have HBB := hide (balB_spec ⟨⟨kj, lj, sj⟩, ⟨kp, lb, lr⟩, lt⟩)
 dsimp only at HBB
 have HRT := hide h4
 have HNT := hide hnt
 clear h1 h2 h4 f2 hnj hnt
 generalize samePB ⟨kp, lb, lr⟩ (replayM ⟨kj, lj, sj⟩) = sb at *
 obtain ⟨rp, hrp⟩ : ∃ r, replayM ⟨kj, lj, sj⟩ = r := ⟨_, rfl⟩
 rw [hrp] at HRP HSM
 clear hrp
 obtain ⟨W0, hW0⟩ : ∃ W, (w.alloc (.cells #[.int .i64 kj, .slice o nj c, .int .i64 sj, .int .i64 kp, .slice ob np cb, .slice oR nr cR, .slice ot nt ct] 34)) = W := ⟨_, rfl⟩
 have hb_W0 : Below w.heap.size w W0 := by rw [← hW0]; exact ((Below.refl _ _).alloc (Nat.le_refl _) _)
 have HB := hide hb_W0
 clear hb_W0
 have zz : w.heap.size < W0.heap.size := by rw [← hW0]; simp
 have z0 : W0.cell? ⟨w.heap.size, 0, none⟩ = some (.int .i64 kj) := by rw [← hW0]; simp [go_sem]
 have z1 : W0.cell? ⟨w.heap.size, 1, none⟩ = some (.slice o nj c) := by rw [← hW0]; simp [go_sem]
 have z2 : W0.cell? ⟨w.heap.size, 2, none⟩ = some (.int .i64 sj) := by rw [← hW0]; simp [go_sem]
 have z3 : W0.cell? ⟨w.heap.size, 3, none⟩ = some (.int .i64 kp) := by rw [← hW0]; simp [go_sem]
 have z4 : W0.cell? ⟨w.heap.size, 4, none⟩ = some (.slice ob np cb) := by rw [← hW0]; simp [go_sem]
 have z5 : W0.cell? ⟨w.heap.size, 5, none⟩ = some (.slice oR nr cR) := by rw [← hW0]; simp [go_sem]
 have z6 : W0.cell? ⟨w.heap.size, 6, none⟩ = some (.slice ot nt ct) := by rw [← hW0]; simp [go_sem]
 have hbw := HB.out.size
 obtain ⟨jb, hjb⟩ : ∃ b, journalB kj lj sj = b := ⟨_, rfl⟩
 rw [hjb] at HJ HBB HRP
 clear hjb
 cases jb with
 | false =>
  have HJg := hide (fun p : Grown W0 => HJ.out p.v (HB.out.trans (p.b.mono HB.out.size)))
  have G0 := Grown.cell z0 zz
  have G1 := Grown.cell z1 zz
  have G2 := Grown.cell z2 zz
  have G3 := Grown.cell z3 zz
  have G4 := Grown.cell z4 zz
  have G5 := Grown.cell z5 zz
  have G6 := Grown.cell z6 zz
  clear HJ HT HRP HSM
  go_enter Tryz.func21, Tryz.ntmps21
  go_wp2
  (refine wp_region_grown (by kernel_rfl) (by kernel_rfl) ?_; intro hne9; (repeat (go_big_quiet_step ((go_at_call 93; exact grown_of _ (HJg.out _))))); (with_reducible refine wpQuiet_nil ?_); intro _ hw9; obtain ⟨pq, hw8⟩ := hw9; subst hw8)
  have HB9 := hide (HB.out.trans (pq.b.mono HB.out.size))
  go_wp2
  go_ret
  exact ⟨ret_bool (by rw [HBB.out]; rfl), HB9.out⟩
 | true =>
  replace HRP := hide (HRP.out (by first | rfl | trivial))
  obtain ⟨tb, htb⟩ : ∃ b, tableOkB lt = b := ⟨_, rfl⟩
  rw [htb] at HT HBB
  have HTB := hide htb
  clear htb
  cases tb with
  | false =>
   have HJg := hide (fun p : Grown W0 => HJ.out p.v (HB.out.trans (p.b.mono HB.out.size)))
   have HTg := hide (fun p : Grown W0 => HT.out p.v (HB.out.trans (p.b.mono HB.out.size)))
   have G0 := Grown.cell z0 zz
   have G1 := Grown.cell z1 zz
   have G2 := Grown.cell z2 zz
   have G3 := Grown.cell z3 zz
   have G4 := Grown.cell z4 zz
   have G5 := Grown.cell z5 zz
   have G6 := Grown.cell z6 zz
   clear HJ HT HRP HSM
   go_enter Tryz.func21, Tryz.ntmps21
   go_wp2
   (refine wp_region_grown (by kernel_rfl) (by kernel_rfl) ?_; intro hne9; (repeat (go_big_quiet_step ((first | (go_at_call 93; exact grown_of _ (HJg.out _)) | (go_at_call 94; exact grown_of _ (HTg.out _)))))); (with_reducible refine wpQuiet_nil ?_); intro _ hw9; obtain ⟨pq, hw8⟩ := hw9; subst hw8)
   have HB9 := hide (HB.out.trans (pq.b.mono HB.out.size))
   go_wp2
   go_ret
   exact ⟨ret_bool (by rw [HBB.out]; rfl), HB9.out⟩
  | true =>
   cases sb with
   | false =>
    go_enter Tryz.func21, Tryz.ntmps21
    go_wp2
    go_region_held3 (fun w' => w'.cell? ⟨w.heap.size, 0, none⟩ = some (.int .i64 kj) ∧ w'.cell? ⟨w.heap.size, 1, none⟩ = some (.slice o nj c) ∧ w'.cell? ⟨w.heap.size, 2, none⟩ = some (.int .i64 sj) ∧ w'.cell? ⟨w.heap.size, 3, none⟩ = some (.int .i64 kp) ∧ w'.cell? ⟨w.heap.size, 4, none⟩ = some (.slice ob np cb) ∧ w'.cell? ⟨w.heap.size, 5, none⟩ = some (.slice oR nr cR) ∧ w'.cell? ⟨w.heap.size, 6, none⟩ = some (.slice ot nt ct)) (first | with_reducible exact ⟨z0, z1, z2, z3, z4, z5, z6⟩ | with_reducible exact ⟨ka0, ka1, ka2, ka3, ka4, ka5, ka6⟩ | with_reducible exact ⟨kb0, kb1, kb2, kb3, kb4, kb5, kb6⟩ | with_reducible exact ⟨kc0, kc1, kc2, kc3, kc4, kc5, kc6⟩ | with_reducible exact ⟨kd0, kd1, kd2, kd3, kd4, kd5, kd6⟩ | go_keep) (first | (go_at_call 93; (with_reducible refine (HJ.out W0.drew (Below.drew HB.out)).mono ?_); rintro e x0 ⟨rfl, hq0⟩; have hx0 : Below W0.heap.size W0 x0 := (Below.drew (Below.refl _ _)).trans hq0; have ka0 := bC hx0 z0 zz; have ka1 := bC hx0 z1 zz; have ka2 := bC hx0 z2 zz; have ka3 := bC hx0 z3 zz; have ka4 := bC hx0 z4 zz; have ka5 := bC hx0 z5 zz; have ka6 := bC hx0 z6 zz; have HBa := HB.out.trans (hx0.mono hbw); clear hq0) | (go_at_call 94; (with_reducible refine (HT.out x0 HBa).mono ?_); rintro e x1 ⟨rfl, hq1⟩; have hx1 : Below W0.heap.size W0 x1 := hx0.trans (hq1.mono hx0.size); have kb0 := bC hx1 z0 zz; have kb1 := bC hx1 z1 zz; have kb2 := bC hx1 z2 zz; have kb3 := bC hx1 z3 zz; have kb4 := bC hx1 z4 zz; have kb5 := bC hx1 z5 zz; have kb6 := bC hx1 z6 zz; have HBb := HB.out.trans (hx1.mono hbw)) | (go_at_call 96; (with_reducible refine (HRP.out x1 HBb).mono ?_); rintro e x2 ⟨v8, rfl, rd8, hq2⟩; have hx2 : Below W0.heap.size W0 x2 := hx1.trans (hq2.mono hx1.size); have kc0 := bC hx2 z0 zz; have kc1 := bC hx2 z1 zz; have kc2 := bC hx2 z2 zz; have kc3 := bC hx2 z3 zz; have kc4 := bC hx2 z4 zz; have kc5 := bC hx2 z5 zz; have kc6 := bC hx2 z6 zz; have HBc := HB.out.trans (hx2.mono hbw)) | (go_at_call 95; (with_reducible refine (HSM.out x2 HBc v8 rd8).mono ?_); rintro e x3 ⟨rfl, hq3⟩; have hx3 : Below W0.heap.size W0 x3 := hx2.trans (hq3.mono hx2.size); have kd0 := bC hx3 z0 zz; have kd1 := bC hx3 z1 zz; have kd2 := bC hx3 z2 zz; have kd3 := bC hx3 z3 zz; have kd4 := bC hx3 z4 zz; have kd5 := bC hx3 z5 zz; have kd6 := bC hx3 z6 zz; have HBd := HB.out.trans (hx3.mono hbw)))
    have HB9 := hide HBd
    clear hx0 hx1 hx2 hx3 hq1 hq2 hq3 rd8 HBa HBb HBc ka0 kb0 kc0 ka1 kb1 kc1 ka2 kb2 kc2 ka3 kb3 kc3 ka4 kb4 kc4 ka5 kb5 kc5 ka6 kb6 kc6
    go_wp2
    go_ret
    exact ⟨ret_bool (by rw [HBB.out]; rfl), HB9.out⟩
   | true =>
    have hne : lt ≠ [] := by intro h; subst h; exact absurd HTB.out (by decide)
    rcases HRT.out with h | ⟨bt, ft, rfl, hbt, hcell⟩
    ·exact absurd h hne
    have HCE := hide hcell
    clear hcell hne HRT
    go_enter Tryz.func21, Tryz.ntmps21
    go_wp2
    go_region_held3 (fun w' => w'.cell? ⟨w.heap.size, 0, none⟩ = some (.int .i64 kj) ∧ w'.cell? ⟨w.heap.size, 1, none⟩ = some (.slice o nj c) ∧ w'.cell? ⟨w.heap.size, 2, none⟩ = some (.int .i64 sj) ∧ w'.cell? ⟨w.heap.size, 3, none⟩ = some (.int .i64 kp) ∧ w'.cell? ⟨w.heap.size, 4, none⟩ = some (.slice ob np cb) ∧ w'.cell? ⟨w.heap.size, 5, none⟩ = some (.slice oR nr cR) ∧ w'.cell? ⟨w.heap.size, 6, none⟩ = some (.slice (some ⟨bt, ft, none⟩) nt ct)) (first | with_reducible exact ⟨z0, z1, z2, z3, z4, z5, z6⟩ | with_reducible exact ⟨ka0, ka1, ka2, ka3, ka4, ka5, ka6⟩ | with_reducible exact ⟨kb0, kb1, kb2, kb3, kb4, kb5, kb6⟩ | with_reducible exact ⟨kc0, kc1, kc2, kc3, kc4, kc5, kc6⟩ | with_reducible exact ⟨kd0, kd1, kd2, kd3, kd4, kd5, kd6⟩ | go_keep) (first | (go_at_call 93; (with_reducible refine (HJ.out W0.drew (Below.drew HB.out)).mono ?_); rintro e x0 ⟨rfl, hq0⟩; have hx0 : Below W0.heap.size W0 x0 := (Below.drew (Below.refl _ _)).trans hq0; have ka0 := bC hx0 z0 zz; have ka1 := bC hx0 z1 zz; have ka2 := bC hx0 z2 zz; have ka3 := bC hx0 z3 zz; have ka4 := bC hx0 z4 zz; have ka5 := bC hx0 z5 zz; have ka6 := bC hx0 z6 zz; have HBa := HB.out.trans (hx0.mono hbw); clear hq0) | (go_at_call 94; (with_reducible refine (HT.out x0 HBa).mono ?_); rintro e x1 ⟨rfl, hq1⟩; have hx1 : Below W0.heap.size W0 x1 := hx0.trans (hq1.mono hx0.size); have kb0 := bC hx1 z0 zz; have kb1 := bC hx1 z1 zz; have kb2 := bC hx1 z2 zz; have kb3 := bC hx1 z3 zz; have kb4 := bC hx1 z4 zz; have kb5 := bC hx1 z5 zz; have kb6 := bC hx1 z6 zz; have HBb := HB.out.trans (hx1.mono hbw)) | (go_at_call 96; (with_reducible refine (HRP.out x1 HBb).mono ?_); rintro e x2 ⟨v8, rfl, rd8, hq2⟩; have hx2 : Below W0.heap.size W0 x2 := hx1.trans (hq2.mono hx1.size); have kc0 := bC hx2 z0 zz; have kc1 := bC hx2 z1 zz; have kc2 := bC hx2 z2 zz; have kc3 := bC hx2 z3 zz; have kc4 := bC hx2 z4 zz; have kc5 := bC hx2 z5 zz; have kc6 := bC hx2 z6 zz; have HBc := HB.out.trans (hx2.mono hbw)) | (go_at_call 95; (with_reducible refine (HSM.out x2 HBc v8 rd8).mono ?_); rintro e x3 ⟨rfl, hq3⟩; have hx3 : Below W0.heap.size W0 x3 := hx2.trans (hq3.mono hx2.size); have kd0 := bC hx3 z0 zz; have kd1 := bC hx3 z1 zz; have kd2 := bC hx3 z2 zz; have kd3 := bC hx3 z3 zz; have kd4 := bC hx3 z4 zz; have kd5 := bC hx3 z5 zz; have kd6 := bC hx3 z6 zz; have HBd := HB.out.trans (hx3.mono hbw)))
    have HB9 := hide HBd
    have hwx := hx3.size
    clear hx0 hx1 hx2 hx3 hq1 hq2 hq3 rd8 HBa HBb HBc ka0 kb0 kc0 ka1 kb1 kc1 ka2 kb2 kc2 ka3 kb3 kc3 ka4 kb4 kc4 ka5 kb5 kc5 ka6 kb6 kc6
    clear HBd HJ HT HRP HSM
    go_wp2
    go_loopw [2, 3] (fun rv iv wr => ∃ k : Nat, k ≤ nt ∧ iv = .int .i64 (k : Int) ∧ rv = .bool false ∧ Hid ((lt.take k).all isL = true) ∧ Hid (Below x3.heap.size x3 wr))
     (fun _ iv _ => nt - (intOf iv).toNat)
    case atStart => exact ⟨0, Nat.zero_le _, rfl, rfl, (by unfold Hid; rfl), Below.refl _ _⟩
    case round =>
     rename World => wr
     obtain ⟨k, hk', rfl, rfl, HTA, HBr⟩ := hrel
     have zzx : w.heap.size < x3.heap.size := Nat.lt_of_lt_of_le zz hwx
     have y6 := (HBr.out.cell (p := ⟨w.heap.size, 6, none⟩) zzx).trans kd6
     have HBw := hide (HB9.out.trans (HBr.out.mono HB9.out.size))
     by_cases hlt : k < nt
     ·have hlt' : (k : Int) < (nt : Int) := by omega
      have hkl : k < lt.length := by rw [← HNT.out]; exact hlt
      have a3 : wr.cell? ⟨bt, ft + k * 5 + 3, none⟩ = some (.int .i64 (lt.getD k sl0).v) := (HBw.out.cell (p := ⟨bt, ft + k * layS.k + 3, none⟩) hbt).trans (HCE.out k hkl 3 (by decide))
      have HTS := hide (take_allL lt k hkl)
      have HNO := hide (fun h => all_noL (l := lt) hkl h)
      generalize lt.getD k sl0 = s at *
      have HIL := hide (show isL s = decide (s.v < 6) from rfl)
      obtain ⟨sv, hsv⟩ : ∃ x, s.v = x := ⟨_, rfl⟩
      rw [hsv] at a3 HIL
      clear hsv
      by_cases h6 : sv < 6
      ·have h6' : ¬ (6 ≤ sv) := by omega
       go_wp2
       go_roundw
       case rel => exact ⟨k + 1, by omega, by go_num, rfl, (by unfold Hid; rw [HTS.out, HTA.out, HIL.out, decide_eq_true h6]; rfl), HBr.out⟩
       case measure => simp [intOf]; omega
      ·have h6' : 6 ≤ sv := by omega
       have HE := hide (HNO.out (by rw [HIL.out]; exact decide_eq_false h6))
       go_wp2
       go_ret
       exact ⟨ret_bool (by rw [HBB.out, HE.out]; rfl), HBw.out⟩
     ·have e : k = nt := by omega
      subst e
      have HE : Hid (lt.all isL = true) := by have h := HTA.out; rw [HNT.out, List.take_length] at h; exact h
      go_wp2
      go_ret
      exact ⟨ret_bool (by rw [HBB.out, HE.out]; rfl), HBw.out⟩

end Go.Proofs.YtmmhgkkcpjhiiaaGreat

