/- Several texts in one: SBOkS, ShP2, OpenP, ShBal2, ShBal3, BalIn, OpenB. -/
import Derived.Test.YtajfkcpifnpkeaaGreatGrSBOk
import Derived.Test.YtajfkcpifnpkeaaGreatGrSTabS2
import Derived.Test.YtajfkcpifnpkeaaGreatGrSJCut
import Derived.BigQuiet
import Derived.Deep.RegionHeld3
import Derived.Test.YtajfkcpifnpkeaaGreatGrShBal
import Derived.Test.YtajfkcpifnpkeaaGreatGrInts
import Derived.Test.YtajfkcpifnpkeaaGreatGrSPw
/- The model's BalOk. -/
namespace Go.Proofs.YtajfkcpifnpkeaaGreat
open Go.ChangeShapes Go.WideShapes Go.ChangeAt Go.RowKit Go.Joins
set_option linter.unusedVariables false
set_option linter.unusedSimpArgs false


set_option maxRecDepth 100000 in
set_option maxHeartbeats 8000000 in
theorem specBalOk_any (kj : Int) (o : Option Addr) (nj c : Nat) (sj kp : Int) (ob : Option Addr) (np cb : Nat) (oR : Option Addr) (nr cR : Nat) (ot : Option Addr) (nt ct : Nat) (lj : List Cd) (lb : List Bk) (lr : List (List (List Int))) (lt : List Sl) (w : World)
    (hnj : nj = lj.length) (hnt : nt = lt.length) (h1 : RdC w.heap.size w o lj) (h1c : o = none → c = 0) (h2 : RdPm w.heap.size w (plv kp (.slice ob np cb) (.slice oR nr cR)) ⟨kp, lb, lr⟩) (h4 : RdS w.heap.size w ot lt) (hf : fitB0 ⟨⟨kj, lj, sj⟩, ⟨kp, lb, lr⟩, lt⟩) :
    Calls Tryz.prog 12 #[balv kj (.slice o nj c) sj kp (.slice ob np cb) (.slice oR nr cR) (.slice ot nt ct)] w fun e w' => e = .returned (.bool (balB ⟨⟨kj, lj, sj⟩, ⟨kp, lb, lr⟩, lt⟩)) ∧ Below w.heap.size w w' := by
  obtain ⟨f1, f2, f7⟩ := hf
  dsimp only at f1 f2 f7
  have hfj : lj.length ≤ 1048576 := by omega
  have HJ := hide (fun W (hb : Below w.heap.size w W) => specJournalOk_any kj sj o c lj W ((h1.kept hb (Nat.le_refl _)).le hb.size) hfj)
  have HT := hide (fun W (hb : Below w.heap.size w W) => specTableOk_any ot ct lt W ((h4.kept hb (Nat.le_refl _)).le hb.size) f7)
  rw [← hnj] at HJ
  rw [← hnt] at HT
  have HRP := hide (fun (hj : journalB kj lj sj = true) W (hb : Below w.heap.size w W) => l4replay_pm kj sj o nj c lj W hnj ((h1.kept hb (Nat.le_refl _)).le hb.size) hj)
  have HSM := hide (fun W (hb : Below w.heap.size w W) v (h : RdPm W.heap.size W v (replayM ⟨kj, lj, sj⟩)) => l7same_any (plv kp (.slice ob np cb) (.slice oR nr cR)) v ⟨kp, lb, lr⟩ (replayM ⟨kj, lj, sj⟩) W ((h2.kept hb (Nat.le_refl _)).le hb.size) h f2 (replay_fit _))
  have HBB := hide (balB_spec ⟨⟨kj, lj, sj⟩, ⟨kp, lb, lr⟩, lt⟩)
  dsimp only at HBB
  have HRT := hide h4
  have HNT := hide hnt
  clear h1 h2 h4 f2 hnj hnt
  generalize samePB ⟨kp, lb, lr⟩ (replayM ⟨kj, lj, sj⟩) = sb at *
  obtain ⟨rp, hrp⟩ : ∃ r, replayM ⟨kj, lj, sj⟩ = r := ⟨_, rfl⟩
  rw [hrp] at HRP HSM
  clear hrp
  obtain ⟨W0, hW0⟩ : ∃ W, (w.alloc (.cells #[.int .i64 kj, .slice o nj c, .int .i64 sj, .int .i64 kp, .slice ob np cb, .slice oR nr cR, .slice ot nt ct] 46)) = W := ⟨_, rfl⟩
  have hb_W0 : Below w.heap.size w W0 := by rw [← hW0]; exact ((Below.refl _ _).alloc (Nat.le_refl _) _)
  have HB := hide hb_W0
  clear hb_W0
  have zz : w.heap.size < W0.heap.size := by rw [← hW0]; simp
  have z0 : W0.cell? ⟨w.heap.size, 0, none⟩ = some (.int .i64 kj) := by rw [← hW0]; simp [go_sem]
  have z1 : W0.cell? ⟨w.heap.size, 1, none⟩ = some (.slice o nj c) := by rw [← hW0]; simp [go_sem]
  have z2 : W0.cell? ⟨w.heap.size, 2, none⟩ = some (.int .i64 sj) := by rw [← hW0]; simp [go_sem]
  have z3 : W0.cell? ⟨w.heap.size, 3, none⟩ = some (.int .i64 kp) := by rw [← hW0]; simp [go_sem]
  have z4 : W0.cell? ⟨w.heap.size, 4, none⟩ = some (.slice ob np cb) := by rw [← hW0]; simp [go_sem]
  have z5 : W0.cell? ⟨w.heap.size, 5, none⟩ = some (.slice oR nr cR) := by rw [← hW0]; simp [go_sem]
  have z6 : W0.cell? ⟨w.heap.size, 6, none⟩ = some (.slice ot nt ct) := by rw [← hW0]; simp [go_sem]
  have hbw := HB.out.size
  obtain ⟨jb, hjb⟩ : ∃ b, journalB kj lj sj = b := ⟨_, rfl⟩
  rw [hjb] at HJ HBB HRP
  clear hjb
  cases jb with
  | false =>
    have HJg := hide (fun p : Grown W0 => HJ.out p.v (HB.out.trans (p.b.mono HB.out.size)))
    have G0 := Grown.cell z0 zz
    have G1 := Grown.cell z1 zz
    have G2 := Grown.cell z2 zz
    have G3 := Grown.cell z3 zz
    have G4 := Grown.cell z4 zz
    have G5 := Grown.cell z5 zz
    have G6 := Grown.cell z6 zz
    clear HJ HT HRP HSM
    go_enter Tryz.func12, Tryz.ntmps12
    go_wp2
    (refine wp_region_grown (by kernel_rfl) (by kernel_rfl) ?_; intro hne9; (repeat (go_big_quiet_step ((go_at_call 47; exact grown_of _ (HJg.out _))))); (with_reducible refine wpQuiet_nil ?_); intro _ hw9; obtain ⟨pq, hw8⟩ := hw9; subst hw8)
    have HB9 := hide (HB.out.trans (pq.b.mono HB.out.size))
    go_wp2
    go_ret
    exact ⟨ret_bool (by rw [HBB.out]; rfl), HB9.out⟩
  | true =>
    replace HRP := hide (HRP.out (by first | rfl | trivial))
    obtain ⟨tb, htb⟩ : ∃ b, tableOkB lt = b := ⟨_, rfl⟩
    rw [htb] at HT HBB
    have HTB := hide htb
    clear htb
    cases tb with
    | false =>
      have HJg := hide (fun p : Grown W0 => HJ.out p.v (HB.out.trans (p.b.mono HB.out.size)))
      have HTg := hide (fun p : Grown W0 => HT.out p.v (HB.out.trans (p.b.mono HB.out.size)))
      have G0 := Grown.cell z0 zz
      have G1 := Grown.cell z1 zz
      have G2 := Grown.cell z2 zz
      have G3 := Grown.cell z3 zz
      have G4 := Grown.cell z4 zz
      have G5 := Grown.cell z5 zz
      have G6 := Grown.cell z6 zz
      clear HJ HT HRP HSM
      go_enter Tryz.func12, Tryz.ntmps12
      go_wp2
      (refine wp_region_grown (by kernel_rfl) (by kernel_rfl) ?_; intro hne9; (repeat (go_big_quiet_step ((first | (go_at_call 47; exact grown_of _ (HJg.out _)) | (go_at_call 48; exact grown_of _ (HTg.out _)))))); (with_reducible refine wpQuiet_nil ?_); intro _ hw9; obtain ⟨pq, hw8⟩ := hw9; subst hw8)
      have HB9 := hide (HB.out.trans (pq.b.mono HB.out.size))
      go_wp2
      go_ret
      exact ⟨ret_bool (by rw [HBB.out]; rfl), HB9.out⟩
    | true =>
      cases sb with
      | false =>
        go_enter Tryz.func12, Tryz.ntmps12
        go_wp2
        go_region_held3 (fun w' => w'.cell? ⟨w.heap.size, 0, none⟩ = some (.int .i64 kj) ∧ w'.cell? ⟨w.heap.size, 1, none⟩ = some (.slice o nj c) ∧ w'.cell? ⟨w.heap.size, 2, none⟩ = some (.int .i64 sj) ∧ w'.cell? ⟨w.heap.size, 3, none⟩ = some (.int .i64 kp) ∧ w'.cell? ⟨w.heap.size, 4, none⟩ = some (.slice ob np cb) ∧ w'.cell? ⟨w.heap.size, 5, none⟩ = some (.slice oR nr cR) ∧ w'.cell? ⟨w.heap.size, 6, none⟩ = some (.slice ot nt ct)) (first | with_reducible exact ⟨z0, z1, z2, z3, z4, z5, z6⟩ | with_reducible exact ⟨ka0, ka1, ka2, ka3, ka4, ka5, ka6⟩ | with_reducible exact ⟨kb0, kb1, kb2, kb3, kb4, kb5, kb6⟩ | with_reducible exact ⟨kc0, kc1, kc2, kc3, kc4, kc5, kc6⟩ | with_reducible exact ⟨kd0, kd1, kd2, kd3, kd4, kd5, kd6⟩ | go_keep) (first | (go_at_call 47; (with_reducible refine (HJ.out W0.drew (Below.drew HB.out)).mono ?_); rintro e x0 ⟨rfl, hq0⟩; have hx0 : Below W0.heap.size W0 x0 := (Below.drew (Below.refl _ _)).trans hq0; have ka0 := bC hx0 z0 zz; have ka1 := bC hx0 z1 zz; have ka2 := bC hx0 z2 zz; have ka3 := bC hx0 z3 zz; have ka4 := bC hx0 z4 zz; have ka5 := bC hx0 z5 zz; have ka6 := bC hx0 z6 zz; have HBa := HB.out.trans (hx0.mono hbw); clear hq0) | (go_at_call 48; (with_reducible refine (HT.out x0 HBa).mono ?_); rintro e x1 ⟨rfl, hq1⟩; have hx1 : Below W0.heap.size W0 x1 := hx0.trans (hq1.mono hx0.size); have kb0 := bC hx1 z0 zz; have kb1 := bC hx1 z1 zz; have kb2 := bC hx1 z2 zz; have kb3 := bC hx1 z3 zz; have kb4 := bC hx1 z4 zz; have kb5 := bC hx1 z5 zz; have kb6 := bC hx1 z6 zz; have HBb := HB.out.trans (hx1.mono hbw)) | (go_at_call 50; (with_reducible refine (HRP.out x1 HBb).mono ?_); rintro e x2 ⟨v8, rfl, rd8, hq2⟩; have hx2 : Below W0.heap.size W0 x2 := hx1.trans (hq2.mono hx1.size); have kc0 := bC hx2 z0 zz; have kc1 := bC hx2 z1 zz; have kc2 := bC hx2 z2 zz; have kc3 := bC hx2 z3 zz; have kc4 := bC hx2 z4 zz; have kc5 := bC hx2 z5 zz; have kc6 := bC hx2 z6 zz; have HBc := HB.out.trans (hx2.mono hbw)) | (go_at_call 49; (with_reducible refine (HSM.out x2 HBc v8 rd8).mono ?_); rintro e x3 ⟨rfl, hq3⟩; have hx3 : Below W0.heap.size W0 x3 := hx2.trans (hq3.mono hx2.size); have kd0 := bC hx3 z0 zz; have kd1 := bC hx3 z1 zz; have kd2 := bC hx3 z2 zz; have kd3 := bC hx3 z3 zz; have kd4 := bC hx3 z4 zz; have kd5 := bC hx3 z5 zz; have kd6 := bC hx3 z6 zz; have HBd := HB.out.trans (hx3.mono hbw)))
        have HB9 := hide HBd
        clear hx0 hx1 hx2 hx3 hq1 hq2 hq3 rd8 HBa HBb HBc ka0 kb0 kc0 ka1 kb1 kc1 ka2 kb2 kc2 ka3 kb3 kc3 ka4 kb4 kc4 ka5 kb5 kc5 ka6 kb6 kc6
        go_wp2
        go_ret
        exact ⟨ret_bool (by rw [HBB.out]; rfl), HB9.out⟩
      | true =>
        have hne : lt ≠ [] := by intro h; subst h; exact absurd HTB.out (by decide)
        rcases HRT.out with h | ⟨bt, ft, rfl, hbt, hcell⟩
        · exact absurd h hne
        have HCE := hide hcell
        clear hcell hne HRT
        go_enter Tryz.func12, Tryz.ntmps12
        go_wp2
        go_region_held3 (fun w' => w'.cell? ⟨w.heap.size, 0, none⟩ = some (.int .i64 kj) ∧ w'.cell? ⟨w.heap.size, 1, none⟩ = some (.slice o nj c) ∧ w'.cell? ⟨w.heap.size, 2, none⟩ = some (.int .i64 sj) ∧ w'.cell? ⟨w.heap.size, 3, none⟩ = some (.int .i64 kp) ∧ w'.cell? ⟨w.heap.size, 4, none⟩ = some (.slice ob np cb) ∧ w'.cell? ⟨w.heap.size, 5, none⟩ = some (.slice oR nr cR) ∧ w'.cell? ⟨w.heap.size, 6, none⟩ = some (.slice (some ⟨bt, ft, none⟩) nt ct)) (first | with_reducible exact ⟨z0, z1, z2, z3, z4, z5, z6⟩ | with_reducible exact ⟨ka0, ka1, ka2, ka3, ka4, ka5, ka6⟩ | with_reducible exact ⟨kb0, kb1, kb2, kb3, kb4, kb5, kb6⟩ | with_reducible exact ⟨kc0, kc1, kc2, kc3, kc4, kc5, kc6⟩ | with_reducible exact ⟨kd0, kd1, kd2, kd3, kd4, kd5, kd6⟩ | go_keep) (first | (go_at_call 47; (with_reducible refine (HJ.out W0.drew (Below.drew HB.out)).mono ?_); rintro e x0 ⟨rfl, hq0⟩; have hx0 : Below W0.heap.size W0 x0 := (Below.drew (Below.refl _ _)).trans hq0; have ka0 := bC hx0 z0 zz; have ka1 := bC hx0 z1 zz; have ka2 := bC hx0 z2 zz; have ka3 := bC hx0 z3 zz; have ka4 := bC hx0 z4 zz; have ka5 := bC hx0 z5 zz; have ka6 := bC hx0 z6 zz; have HBa := HB.out.trans (hx0.mono hbw); clear hq0) | (go_at_call 48; (with_reducible refine (HT.out x0 HBa).mono ?_); rintro e x1 ⟨rfl, hq1⟩; have hx1 : Below W0.heap.size W0 x1 := hx0.trans (hq1.mono hx0.size); have kb0 := bC hx1 z0 zz; have kb1 := bC hx1 z1 zz; have kb2 := bC hx1 z2 zz; have kb3 := bC hx1 z3 zz; have kb4 := bC hx1 z4 zz; have kb5 := bC hx1 z5 zz; have kb6 := bC hx1 z6 zz; have HBb := HB.out.trans (hx1.mono hbw)) | (go_at_call 50; (with_reducible refine (HRP.out x1 HBb).mono ?_); rintro e x2 ⟨v8, rfl, rd8, hq2⟩; have hx2 : Below W0.heap.size W0 x2 := hx1.trans (hq2.mono hx1.size); have kc0 := bC hx2 z0 zz; have kc1 := bC hx2 z1 zz; have kc2 := bC hx2 z2 zz; have kc3 := bC hx2 z3 zz; have kc4 := bC hx2 z4 zz; have kc5 := bC hx2 z5 zz; have kc6 := bC hx2 z6 zz; have HBc := HB.out.trans (hx2.mono hbw)) | (go_at_call 49; (with_reducible refine (HSM.out x2 HBc v8 rd8).mono ?_); rintro e x3 ⟨rfl, hq3⟩; have hx3 : Below W0.heap.size W0 x3 := hx2.trans (hq3.mono hx2.size); have kd0 := bC hx3 z0 zz; have kd1 := bC hx3 z1 zz; have kd2 := bC hx3 z2 zz; have kd3 := bC hx3 z3 zz; have kd4 := bC hx3 z4 zz; have kd5 := bC hx3 z5 zz; have kd6 := bC hx3 z6 zz; have HBd := HB.out.trans (hx3.mono hbw)))
        have HB9 := hide HBd
        have hwx := hx3.size
        clear hx0 hx1 hx2 hx3 hq1 hq2 hq3 rd8 HBa HBb HBc ka0 kb0 kc0 ka1 kb1 kc1 ka2 kb2 kc2 ka3 kb3 kc3 ka4 kb4 kc4 ka5 kb5 kc5 ka6 kb6 kc6
        clear HBd HJ HT HRP HSM
        go_wp2
        go_loopw [2, 3] (fun rv iv wr => ∃ k : Nat, k ≤ nt ∧ iv = .int .i64 (k : Int) ∧ rv = .bool false ∧ Hid ((lt.take k).all isL = true) ∧ Hid (Below x3.heap.size x3 wr))
          (fun _ iv _ => nt - (intOf iv).toNat)
        case atStart => exact ⟨0, Nat.zero_le _, rfl, rfl, (by unfold Hid; rfl), Below.refl _ _⟩
        case round =>
          rename World => wr
          obtain ⟨k, hk', rfl, rfl, HTA, HBr⟩ := hrel
          have zzx : w.heap.size < x3.heap.size := Nat.lt_of_lt_of_le zz hwx
          have y6 := (HBr.out.cell (p := ⟨w.heap.size, 6, none⟩) zzx).trans kd6
          have HBw := hide (HB9.out.trans (HBr.out.mono HB9.out.size))
          by_cases hlt : k < nt
          · have hlt' : (k : Int) < (nt : Int) := by omega
            have hkl : k < lt.length := by rw [← HNT.out]; exact hlt
            have a3 : wr.cell? ⟨bt, ft + k * 5 + 3, none⟩ = some (.int .i64 (lt.getD k sl0).v) := (HBw.out.cell (p := ⟨bt, ft + k * layS.k + 3, none⟩) hbt).trans (HCE.out k hkl 3 (by decide))
            have HTS := hide (take_allL lt k hkl)
            have HNO := hide (fun h => all_noL (l := lt) hkl h)
            generalize lt.getD k sl0 = s at *
            have HIL := hide (show isL s = decide (s.v < 6) from rfl)
            obtain ⟨sv, hsv⟩ : ∃ x, s.v = x := ⟨_, rfl⟩
            rw [hsv] at a3 HIL
            clear hsv
            by_cases h6 : sv < 6
            · have h6' : ¬ (6 ≤ sv) := by omega
              go_wp2
              go_roundw
              case rel => exact ⟨k + 1, by omega, by go_num, rfl, (by unfold Hid; rw [HTS.out, HTA.out, HIL.out, decide_eq_true h6]; rfl), HBr.out⟩
              case measure => simp [intOf]; omega
            · have h6' : 6 ≤ sv := by omega
              have HE := hide (HNO.out (by rw [HIL.out]; exact decide_eq_false h6))
              go_wp2
              go_ret
              exact ⟨ret_bool (by rw [HBB.out, HE.out]; rfl), HBw.out⟩
          · have e : k = nt := by omega
            subst e
            have HE : Hid (lt.all isL = true) := by have h := HTA.out; rw [HNT.out, List.take_length] at h; exact h
            go_wp2
            go_ret
            exact ⟨ret_bool (by rw [HBB.out, HE.out]; rfl), HBw.out⟩

end Go.Proofs.YtajfkcpifnpkeaaGreat

/- Pools as an argument of the laws: how they are opened, counted and copied. -/
namespace Go.Proofs.YtajfkcpifnpkeaaGreat
open Go.ChangeShapes Go.WideShapes Go.ChangeAt Go.RowKit Go.Joins
set_option linter.unusedVariables false
set_option linter.unusedSimpArgs false

theorem fitsRow {n : Nat} : True := trivial
theorem bx_allP {W : World} {B : Nat} {x y z : Value} {T : TypeId} (h : W.heap[B]? = some (.cells #[x, y, z] T (0, 0))) : W.cell? ⟨B, 0, none⟩ = some x ∧ W.cell? ⟨B, 1, none⟩ = some y ∧ W.cell? ⟨B, 2, none⟩ = some z ∧ W.frozen? ⟨B, 0, none⟩ = false ∧ W.frozen? ⟨B, 1, none⟩ = false ∧ W.frozen? ⟨B, 2, none⟩ = false :=
  ⟨bx_cell h 0 _ rfl, bx_cell h 1 _ rfl, bx_cell h 2 _ rfl, bx_frozen h 0, bx_frozen h 1, bx_frozen h 2⟩
theorem setP_belowT {C : Nat} {w W : World} {B : Nat} (h : Below C w W) (hB : C ≤ B) (x y z : Value) : Below C w (setP W B x y z) := ((h.setCell (p := ⟨B, 0, none⟩) hB _).setCell (p := ⟨B, 1, none⟩) hB _).setCell (p := ⟨B, 2, none⟩) hB _
theorem setP_sizeT (W : World) (B : Nat) (x y z : Value) : (setP W B x y z).heap.size = W.heap.size := by simp [World.setCell]
theorem stp_setT (W : World) (B : Nat) (x y z : Value) : Stp B (B + 1) W (setP W B x y z) := ((stp_set W B 0 x).trans (stp_set _ B 1 y)).trans (stp_set _ B 2 z)
theorem in_monoT {lo lo' hi : Nat} {w : World} {v : Value} {m : Pm} (h : InPm lo hi w v m) (hl : lo' ≤ lo) : InPm lo' hi w v m := by
  obtain ⟨vb, vr, mid, e, k1, k2, h1, h2⟩ := h
  exact ⟨vb, vr, mid, e, by omega, k2, InRow.mono h1 hl (Nat.le_refl _), h2⟩
theorem box_new3 (w : World) (c : Array Value) (T : TypeId) (o1 o2 : Obj) : (((w.alloc o1).alloc o2).alloc (.cells c T)).heap[w.heap.size + 1 + 1]? = some (.cells c T (0, 0)) := by
  have h := World.alloc_heap_new ((w.alloc o1).alloc o2) (.cells c T)
  rw [World.size_alloc, World.size_alloc] at h
  exact h
theorem box_mid3 (w : World) (c : Array Value) (T : TypeId) (o1 o2 : Obj) : (((w.alloc o1).alloc (.cells c T)).alloc o2).heap[w.heap.size + 1]? = some (.cells c T (0, 0)) := by
  have h := box_new2 w c T o1
  exact (Below.heap_alloc _ _ _ (by simp)).trans h
theorem fillU_step {T : TypeId} {wr : World} {base g : Nat} {hs : List Hd} {k n : Nat} {o : Option Addr} {m c : Nat} (hk : k < n) (hl : hs.length = k) (h : wr.ownsRow base T 1 (.slice (some ⟨g, 0, none⟩) n n) n ((hs ++ List.replicate (n - k) layH.d).flatMap layH.cs)) :
    (wr.setCell ⟨g, k, none⟩ (.slice o m c)).ownsRow base T 1 (.slice (some ⟨g, 0, none⟩) n n) n (((hs ++ [(o, m, c)]) ++ List.replicate (n - (k + 1)) layH.d).flatMap layH.cs) := by
  have h1 := (h.stored k (.slice o m c)).1
  rw [flat_set1 layH rfl (a := (o, m, c)) rfl] at h1
  have e1 : n - k = (n - (k + 1)) + 1 := by omega
  rw [e1, List.replicate_succ, List.set_append_right _ _ (by omega), hl, Nat.sub_self, List.set_cons_zero] at h1
  rw [List.append_assoc]
  exact h1
theorem RiT.at {a C : Nat} {w : World} {o : Option Addr} {n c : Nat} {ll : List (List Int)} (h : RiT a C w (.slice o n c) ll) (hC : C ≤ w.heap.size) (i : Nat) (hi : i < ll.length) : ∃ b off o' c', o = some ⟨b, off, none⟩ ∧ b < C ∧ w.cell? ⟨b, off + i, none⟩ = some (.slice o' (ll.getD i []).length c') ∧ RdI C w o' (ll.getD i []) := by
  obtain ⟨hs, h0, h1, h2⟩ := h
  obtain ⟨o1, c1, e, r⟩ := h1.open
  injection e with e1 e2 e3
  subst e1
  rcases r with r | ⟨b, off, ho, hb, r⟩
  · subst r; simp at h0; omega
  · obtain ⟨o', c', e', r'⟩ := (h2 i hi).open
    have hc := RdL.head r i (by omega)
    unfold hv at e'
    rw [e'] at hc
    exact ⟨b, off, o', c', ho, hb, hc, r'⟩

set_option maxRecDepth 100000 in
set_option maxHeartbeats 2000000 in
theorem toIntSS_in (v : Value) (xs : List (List Int)) (w : World) (hR : RiT 0 w.heap.size w v xs) (hlen : xs.length ≤ 1048576) (hx : ∀ i, i < xs.length → (xs.getD i []).length ≤ 1048576) :
    Calls Tryz.prog 161 #[v] w fun e w' => ∃ v', e = .returned v' ∧ InT w.heap.size w'.heap.size w' v' xs ∧ Below w.heap.size w w' := by
  obtain ⟨o, cap, ev⟩ : ∃ o c, v = .slice o xs.length c := by
    obtain ⟨hs, h0, ⟨o, c, e, _⟩, _⟩ := hR
    exact ⟨o, c, by rw [e, h0]⟩
  subst ev
  obtain ⟨i0, hi, hz0, hz1, hz2⟩ := info_parts infoIntS
  have HR0 := hide hR
  clear hR
  go_enter Tryz.func161, Tryz.ntmps161
  go_wp2_with (at_make; refine wpList_make_full _ rfl _ _ 152 rfl w.heap.size 175 i0 (.slice none 0 0) 1 Tryz.underlying152 hi hz0 hz1 _ _ _ _ xs.length rfl rfl rfl rfl ?b2 ?b3 ?b4 ?_)
  case b2 => rw [hz2]; omega
  case b3 => unfold maxLen; omega
  case b4 => simp
  intro w3 hown hgrow
  have HB3 := hide (show Below w.heap.size w w3 from (Below.refl _ _).grown hgrow (Nat.le_refl _) (fun k h => by cases h))
  have HO3 : Hid (w3.ownsRow w.heap.size 175 1 (.slice (some ⟨w.heap.size, 0, none⟩) xs.length xs.length) xs.length ((([] : List Hd) ++ List.replicate (xs.length - 0) layH.d).flatMap layH.cs)) := by
    rw [List.nil_append, Nat.sub_zero, ← made_flat layH (.slice none 0 0) rfl, show layH.k = 1 from rfl, Nat.mul_one]; exact hown
  have hs3 : w.heap.size + 1 ≤ w3.heap.size := (hown.lt w.heap.size rfl).2
  clear hown hgrow
  go_wp2
  go_loopw [4] (fun iv wr => ∃ (k : Nat) (hs : List Hd) (L H : Nat → Nat), k ≤ xs.length ∧ iv = .int .i64 (k : Int) ∧ Hid (wr.ownsRow w.heap.size 175 1 (.slice (some ⟨w.heap.size, 0, none⟩) xs.length xs.length) xs.length ((hs ++ List.replicate (xs.length - k) layH.d).flatMap layH.cs)) ∧ Hid (Rw InI [] (xs.take k) (w.heap.size + 1) wr.heap.size wr hs L H) ∧ Hid (Below w.heap.size w wr) ∧ w.heap.size + 1 ≤ wr.heap.size)
    (fun iv _ => xs.length - (intOf iv).toNat)
  case atStart => exact ⟨0, [], fun _ => 0, fun _ => 0, Nat.zero_le _, rfl, HO3.out, by rw [List.take_zero]; exact Rw.nil _ _ _ _ _ _ _, HB3.out, hs3⟩
  case round =>
    obtain ⟨k, hs, L, H, hk8, rfl, HO, HR, HBr, hsr⟩ := hrel
    clear HO3 HB3 hs3
    have hhl : hs.length = k := by have h1 := HR.out.len; rw [List.length_take] at h1; omega
    by_cases hlt : k < xs.length
    · have z1 : (k : Int) < (xs.length : Int) := by omega
      have HS := hide (show xs.take (k + 1) = xs.take k ++ [xs.getD k []] by rw [List.take_succ_eq_append_getElem hlt]; simp [hlt])
      obtain ⟨b, off, o', c', rfl, hbl, hc0, hr0⟩ := HR0.out.at (Nat.le_refl _) k hlt
      have hc := bC HBr.out hc0 hbl
      have hbw : b < wr.heap.size := by omega
      have HL := hide (toIntS_any o' c' (xs.getD k []) wr ((hr0.kept HBr.out (Nat.le_refl _)).le HBr.out.size) (hx k hlt))
      have HXL := hide hlen
      clear hc0 hr0
      have HHL := hide hhl
      have hxs := HXL.out
      clear hxs
      obtain ⟨row, hrow⟩ : ∃ r, xs.getD k [] = r := ⟨_, rfl⟩
      rw [hrow] at HL hc HS
      clear hrow
      obtain ⟨q, hq⟩ : ∃ q, row.length = q := ⟨_, rfl⟩
      rw [hq] at HL hc
      have HQ := hide hq
      clear hq
      go_wp2_with fail
      refine HL.out.mono ?_
      rintro e v1 ⟨g4, rfl, ow4, hb4⟩
      obtain ⟨o4, ho4⟩ : ∃ o : Option Addr, some ⟨g4, 0, none⟩ = o := ⟨_, rfl⟩
      rw [ho4] at ow4 ⊢
      have HIN : Hid (InI wr.heap.size v1.heap.size v1 (.slice o4 q q) row) := InRow.of ow4
      clear ow4
      have HO4 := hide (own_kept HO.out hb4)
      have hln : ((hs ++ List.replicate (xs.length - k) layH.d).flatMap layH.cs).length = xs.length := by rw [flat_length, List.length_append, List.length_replicate, HHL.out, show layH.k = 1 from rfl]; omega
      have hcl := HO4.out.cellAt k (by omega)
      have hfr := HO4.out.frozenAt k
      obtain ⟨u, hu⟩ : ∃ u, v1.cell? ⟨w.heap.size, k, none⟩ = some u := ⟨_, hcl.trans (List.getElem?_eq_getElem (by omega))⟩
      have HO5 := hide (fillU_step (o := o4) (m := q) (c := q) hlt HHL.out HO4.out)
      have HR4 := (HR.out.kept InI.stp hb4).snoc (l2 := wr.heap.size) (h2 := v1.heap.size) (Nat.le_refl _) (by omega) hb4.size (x := row) (o := o4) (m := q) (c := q) HIN.out
      rw [← HS.out] at HR4
      have HR5 := HR4.step InI.stp (stp_set v1 w.heap.size k (.slice o4 q q)) (fun i hi => .inl (HR4.bd i hi).1)
      have HR6 : Hid (Rw InI [] (xs.take (k + 1)) (w.heap.size + 1) (v1.setCell ⟨w.heap.size, k, none⟩ (.slice o4 q q)).heap.size (v1.setCell ⟨w.heap.size, k, none⟩ (.slice o4 q q)) _ _ _) := HR5.mono (Nat.le_refl _) (by simp)
      have HB5 := hide ((HBr.out.trans (hb4.mono HBr.out.size)).setCell (p := ⟨w.heap.size, k, none⟩) (Nat.le_refl _) (.slice o4 q q))
      have hs5 : w.heap.size + 1 ≤ v1.heap.size := by have := hb4.size; omega
      clear hb4 hcl HR4 HR5 hln HL hhl hc
      go_wp2
      go_roundw
      case rel => exact ⟨k + 1, _, _, _, by omega, by go_num, HO5.out, HR6.out, HB5.out, by simpa using hs5⟩
      case measure => simp [intOf]; omega
    · have e : k = xs.length := by omega
      subst e
      go_wp2
      go_ret
      have h1 := HO.out
      rw [Nat.sub_self, List.replicate_zero, List.append_nil] at h1
      have h2 := HR.out
      rw [List.take_length] at h2
      have h3 : ∀ b, (Value.slice (some ⟨w.heap.size, 0, none⟩) xs.length xs.length).ownBlock = some b → b = w.heap.size := fun b e => (Option.some.inj e).symm
      have h4 : InT w.heap.size wr.heap.size wr (.slice (some ⟨w.heap.size, 0, none⟩) xs.length xs.length) xs := by
        refine ⟨hs, L, H, ⟨by rw [hhl]; exact h1, fun b e => ?_⟩, h2.mono (by omega) (Nat.le_refl _), fun i hi b e => ?_⟩
        · have := h3 b e; omega
        · have := h3 b e
          have := h2.bd i hi
          omega
      exact ⟨_, rfl, h4, HBr.out⟩

set_option maxRecDepth 100000 in
set_option maxHeartbeats 2000000 in
theorem toIntSSS_in (v : Value) (xs : List (List (List Int))) (w : World) (hR : RiR 0 w.heap.size w v xs) (hlen : xs.length ≤ 1048576) (hx : ∀ i, i < xs.length → (xs.getD i []).length ≤ 1048576) (hy : ∀ i, i < xs.length → ∀ j, j < (xs.getD i []).length → ((xs.getD i []).getD j []).length ≤ 1048576) :
    Calls Tryz.prog 108 #[v] w fun e w' => ∃ v', e = .returned v' ∧ InR w.heap.size w'.heap.size w' v' xs ∧ Below w.heap.size w w' := by
  obtain ⟨o, cap, ev⟩ : ∃ o c, v = .slice o xs.length c := by
    obtain ⟨hs, h0, ⟨o, c, e, _⟩, _⟩ := hR
    exact ⟨o, c, by rw [e, h0]⟩
  subst ev
  obtain ⟨i0, hi, hz0, hz1, hz2⟩ := info_parts infoIntSS
  have HR0 := hide hR
  clear hR
  go_enter Tryz.func108, Tryz.ntmps108
  go_wp2_with (at_make; refine wpList_make_full _ rfl _ _ 26 rfl w.heap.size 152 i0 (.slice none 0 0) 1 Tryz.underlying26 hi hz0 hz1 _ _ _ _ xs.length rfl rfl rfl rfl ?b2 ?b3 ?b4 ?_)
  case b2 => rw [hz2]; omega
  case b3 => unfold maxLen; omega
  case b4 => simp
  intro w3 hown hgrow
  have HB3 := hide (show Below w.heap.size w w3 from (Below.refl _ _).grown hgrow (Nat.le_refl _) (fun k h => by cases h))
  have HO3 : Hid (w3.ownsRow w.heap.size 152 1 (.slice (some ⟨w.heap.size, 0, none⟩) xs.length xs.length) xs.length ((([] : List Hd) ++ List.replicate (xs.length - 0) layH.d).flatMap layH.cs)) := by
    rw [List.nil_append, Nat.sub_zero, ← made_flat layH (.slice none 0 0) rfl, show layH.k = 1 from rfl, Nat.mul_one]; exact hown
  have hs3 : w.heap.size + 1 ≤ w3.heap.size := (hown.lt w.heap.size rfl).2
  clear hown hgrow
  go_wp2
  go_loopw [4] (fun iv wr => ∃ (k : Nat) (hs : List Hd) (L H : Nat → Nat), k ≤ xs.length ∧ iv = .int .i64 (k : Int) ∧ Hid (wr.ownsRow w.heap.size 152 1 (.slice (some ⟨w.heap.size, 0, none⟩) xs.length xs.length) xs.length ((hs ++ List.replicate (xs.length - k) layH.d).flatMap layH.cs)) ∧ Hid (Rw InT [] (xs.take k) (w.heap.size + 1) wr.heap.size wr hs L H) ∧ Hid (Below w.heap.size w wr) ∧ w.heap.size + 1 ≤ wr.heap.size)
    (fun iv _ => xs.length - (intOf iv).toNat)
  case atStart => exact ⟨0, [], fun _ => 0, fun _ => 0, Nat.zero_le _, rfl, HO3.out, by rw [List.take_zero]; exact Rw.nil _ _ _ _ _ _ _, HB3.out, hs3⟩
  case round =>
    obtain ⟨k, hs, L, H, hk8, rfl, HO, HR, HBr, hsr⟩ := hrel
    clear HO3 HB3 hs3
    have hhl : hs.length = k := by have h1 := HR.out.len; rw [List.length_take] at h1; omega
    by_cases hlt : k < xs.length
    · have z1 : (k : Int) < (xs.length : Int) := by omega
      have HS := hide (show xs.take (k + 1) = xs.take k ++ [xs.getD k []] by rw [List.take_succ_eq_append_getElem hlt]; simp [hlt])
      obtain ⟨b, off, o', c', rfl, hbl0, hc0, hr0⟩ := (RiR.mon.go (RiR.stp.go HR0.out (lo := w.heap.size) (hi := w.heap.size + wr.heap.size) ⟨HBr.out.os, HBr.out.tape, HBr.out.output, HBr.out.size, fun k hk _ => HBr.out.block k hk⟩ (.inr (Nat.le_refl _))) (Nat.le_refl _) HBr.out.size).at (Nat.le_refl _) k hlt
      have hc := hc0
      have HL := hide (toIntSS_in (.slice o' (xs.getD k []).length c') (xs.getD k []) wr (RiT.of hr0) (hx k hlt) (hy k hlt))
      have HXL := hide hlen
      clear hc0 hr0
      have HHL := hide hhl
      have hxs := HXL.out
      clear hxs
      obtain ⟨row, hrow⟩ : ∃ r, xs.getD k [] = r := ⟨_, rfl⟩
      rw [hrow] at HL hc HS
      clear hrow
      obtain ⟨q, hq⟩ : ∃ q, row.length = q := ⟨_, rfl⟩
      rw [hq] at HL hc
      have HQ := hide hq
      clear hq
      go_wp2_with fail
      refine HL.out.mono ?_
      rintro e v1 ⟨v4, rfl, in4, hb4⟩
      obtain ⟨o4, c4, e4, _⟩ := RiT.rd (InT.ri in4)
      rw [HQ.out] at e4
      subst e4
      have HIN := hide in4
      clear in4
      have HO4 := hide (own_kept HO.out hb4)
      have hln : ((hs ++ List.replicate (xs.length - k) layH.d).flatMap layH.cs).length = xs.length := by rw [flat_length, List.length_append, List.length_replicate, HHL.out, show layH.k = 1 from rfl]; omega
      have hcl := HO4.out.cellAt k (by omega)
      have hfr := HO4.out.frozenAt k
      obtain ⟨u, hu⟩ : ∃ u, v1.cell? ⟨w.heap.size, k, none⟩ = some u := ⟨_, hcl.trans (List.getElem?_eq_getElem (by omega))⟩
      have HO5 := hide (fillU_step (o := o4) (m := q) (c := c4) hlt HHL.out HO4.out)
      have HR4 := (HR.out.kept InT.stp hb4).snoc (l2 := wr.heap.size) (h2 := v1.heap.size) (Nat.le_refl _) (by omega) hb4.size (x := row) (o := o4) (m := q) (c := c4) HIN.out
      rw [← HS.out] at HR4
      have HR5 := HR4.step InT.stp (stp_set v1 w.heap.size k (.slice o4 q c4)) (fun i hi => .inl (HR4.bd i hi).1)
      have HR6 : Hid (Rw InT [] (xs.take (k + 1)) (w.heap.size + 1) (v1.setCell ⟨w.heap.size, k, none⟩ (.slice o4 q c4)).heap.size (v1.setCell ⟨w.heap.size, k, none⟩ (.slice o4 q c4)) _ _ _) := HR5.mono (Nat.le_refl _) (by simp)
      have HB5 := hide ((HBr.out.trans (hb4.mono HBr.out.size)).setCell (p := ⟨w.heap.size, k, none⟩) (Nat.le_refl _) (.slice o4 q c4))
      have hs5 : w.heap.size + 1 ≤ v1.heap.size := by have := hb4.size; omega
      clear hb4 hcl HR4 HR5 hln HL hhl hc
      go_wp2
      go_roundw
      case rel => exact ⟨k + 1, _, _, _, by omega, by go_num, HO5.out, HR6.out, HB5.out, by simpa using hs5⟩
      case measure => simp [intOf]; omega
    · have e : k = xs.length := by omega
      subst e
      go_wp2
      go_ret
      have h1 := HO.out
      rw [Nat.sub_self, List.replicate_zero, List.append_nil] at h1
      have h2 := HR.out
      rw [List.take_length] at h2
      have h3 : ∀ b, (Value.slice (some ⟨w.heap.size, 0, none⟩) xs.length xs.length).ownBlock = some b → b = w.heap.size := fun b e => (Option.some.inj e).symm
      have h4 : InR w.heap.size wr.heap.size wr (.slice (some ⟨w.heap.size, 0, none⟩) xs.length xs.length) xs := by
        refine ⟨hs, L, H, ⟨by rw [hhl]; exact h1, fun b e => ?_⟩, h2.mono (by omega) (Nat.le_refl _), fun i hi b e => ?_⟩
        · have := h3 b e; omega
        · have := h3 b e
          have := h2.bd i hi
          omega
      exact ⟨_, rfl, h4, HBr.out⟩

theorem leftTo_sum (ll : List (List Int)) (n : Int) : ∀ k, leftTo ll n k = n - (ll.length : Int) - (sumN (lenT ll) k : Int)
  | 0 => by simp [leftTo, sumN]
  | k + 1 => by
    rw [leftTo, leftTo_sum ll n k, show sumN (lenT ll) (k + 1) = sumN (lenT ll) k + (ll.getD k []).length from rfl]
    omega
set_option maxRecDepth 100000 in
set_option maxHeartbeats 1000000 in
theorem szIntSSS_any (v : Value) (lll : List (List (List Int))) (n : Int) (w : World) (hR : RiR 0 w.heap.size w v lll) (hl : lll.length ≤ maxLen) (hx : ∀ i, i < lll.length → (lll.getD i []).length ≤ maxLen) (hy : ∀ i, i < lll.length → ∀ j, j < (lll.getD i []).length → ((lll.getD i []).getD j []).length ≤ maxLen) (h0 : 0 ≤ n) (h1 : n ≤ 1048576) :
    Calls Tryz.prog 99 #[v, .int .i64 n] w fun e w' => (e = .returned (.int .i64 (-1)) ∨ ∃ z : Int, e = .returned (.int .i64 z) ∧ 0 ≤ z ∧ z ≤ n ∧ (lll.length : Int) + (szR lll : Int) ≤ n ∧ ∀ i, i < lll.length → ((lll.getD i []).length : Int) ≤ n) ∧ Below w.heap.size w w' := by
  obtain ⟨o, cap, ev⟩ : ∃ o c, v = .slice o lll.length c := by
    obtain ⟨hs, h0, ⟨o, c, e, _⟩, _⟩ := hR
    exact ⟨o, c, by rw [e, h0]⟩
  subst ev
  have hl' := hl
  unfold maxLen at hl'
  by_cases h : n - lll.length < 0
  · go_enter Tryz.func99, Tryz.ntmps99
    go_wp2
    go_ret
    exact ⟨.inl rfl, Below.refl _ _⟩
  · go_enter Tryz.func99, Tryz.ntmps99
    go_wp2
    go_loopw [1, 5] (fun n' i wr => ∃ (k : Nat) (z : Int), k ≤ lll.length ∧ i = .int .i64 (k : Int) ∧ n' = .int .i64 z ∧ 0 ≤ z ∧ z ≤ n - (lll.length : Int) - (sumN (lenR lll) k : Int) ∧ Hid (∀ i, i < k → ((lll.getD i []).length : Int) ≤ n) ∧ Hid (Below w.heap.size w wr))
      (fun _ i _ => lll.length - (intOf i).toNat)
    case atStart => exact ⟨0, n - lll.length, Nat.zero_le _, rfl, rfl, by omega, by simp [sumN], fun i hi => absurd hi (Nat.not_lt_zero _), Below.refl _ _⟩
    case round =>
      obtain ⟨k, z, hk, rfl, rfl, hz0, hz1, HLN, HBr⟩ := hrel
      by_cases hlt : k < lll.length
      · obtain ⟨b, off, o', c', rfl, hb, hc, hr⟩ := (RiR.mon.go (RiR.stp.go hR (Stp.of (lo := 0) (hi := 0) HBr.out) (.inl (Nat.zero_le _))) (Nat.le_refl _) HBr.out.size).at (Nat.le_refl _) k hlt
        have hsn : (0 : Int) ≤ (sumN (lenR lll) k : Int) := by omega
        have HZ := hide (szIntSS_any o' (lll.getD k []) c' z wr hr (hx k hlt) (hy k hlt) hz0 (by omega))
        have HSU := hide (show sumN (lenR lll) (k + 1) = sumN (lenR lll) k + szT (lll.getD k []) from rfl)
        have HEL := hide (show leftLL (lll.getD k []) z = z - ((lll.getD k []).length : Int) - (szT (lll.getD k []) : Int) from leftTo_sum _ _ _)
        have hz1' := hz1
        obtain ⟨ll, hll⟩ : ∃ ll, lll.getD k [] = ll := ⟨_, rfl⟩
        rw [hll] at hc HZ HSU HEL
        have HLL := hide hll
        have HR := hide hR
        clear hr hll hR hx hy
        obtain ⟨m, hm⟩ : ∃ m, ll.length = m := ⟨_, rfl⟩
        rw [hm] at hc HZ HEL
        have HM := hide hm
        clear hm
        generalize sumN (lenR lll) k = sk at *
        go_wp2_with fail
        refine HZ.out.mono ?_
        rintro e w2 ⟨rfl | ⟨hfit, rfl⟩, hb2⟩
        · have HB2 := hide (HBr.out.trans (hb2.mono HBr.out.size))
          clear hb2
          go_wp2
          go_ret
          exact ⟨.inl rfl, HB2.out⟩
        · have HB2 := hide (HBr.out.trans (hb2.mono HBr.out.size))
          have hpos := hfit ll.length (Nat.le_refl _)
          have hpos' : 0 ≤ leftLL ll z := hpos
          have hE := HEL.out
          have hmz : (m : Int) ≤ n := by omega
          have HE2 := hide hE
          clear hfit hb2 hpos hE HEL
          generalize leftLL ll z = y at *
          go_wp2
          go_roundw
          case rel => exact ⟨k + 1, y, by omega, by go_num, rfl, hpos', by (have := HE2.out; rw [HSU.out]; push_cast; omega), fun i hi => (by rcases Nat.lt_succ_iff_lt_or_eq.1 hi with h' | h'; exact HLN.out i h'; rw [h', HLL.out, HM.out]; exact hmz), HB2.out⟩
          case measure => simp [intOf]; omega
      · have e : k = lll.length := by omega
        subst e
        have hsz : sumN (lenR lll) lll.length = szR lll := rfl
        rw [hsz] at hz1
        clear hsz
        go_wp2
        go_ret
        exact ⟨.inr ⟨z, rfl, hz0, by omega, by omega, HLN.out⟩, HBr.out⟩
theorem row_le (ll : List (List Int)) (j : Nat) (h : j < ll.length) : (ll.getD j []).length ≤ szT ll := by
  have := sumN_at (lenT ll) h
  unfold szT; unfold lenT at *; omega
theorem tab_le (lll : List (List (List Int))) (i : Nat) (h : i < lll.length) : szT (lll.getD i []) ≤ szR lll := by
  have := sumN_at (lenR lll) h
  unfold szR; unfold lenR at *; omega
theorem fit_of {key : Int} {l : List Bk} {lll : List (List (List Int))} {n : Int} (hn : n ≤ 1048576) (hl : (l.length : Int) ≤ 1048576) (h1 : (lll.length : Int) + (szR lll : Int) ≤ n) (h2 : ∀ i, i < lll.length → ((lll.getD i []).length : Int) ≤ n) : fitPm ⟨key, l, lll⟩ :=
  ⟨by show l.length ≤ _; omega, by show lll.length ≤ _; omega, by show szR lll ≤ _; omega, fun i hi => by have := h2 i hi; show (lll.getD i []).length ≤ _; omega, fun i hi j hj => by
    have h3 := row_le (lll.getD i []) j hj
    have h4 := tab_le lll i hi
    show ((lll.getD i []).getD j []).length ≤ _
    omega⟩
/-- A pool's lengths may be lengths. -/
def lenPm (m : Pm) : Prop := m.l.length ≤ maxLen ∧ m.ring.length ≤ maxLen ∧ (∀ i, i < m.ring.length → (m.ring.getD i []).length ≤ maxLen) ∧ ∀ i, i < m.ring.length → ∀ j, j < (m.ring.getD i []).length → ((m.ring.getD i []).getD j []).length ≤ maxLen
set_option maxRecDepth 100000 in
set_option maxHeartbeats 1000000 in
theorem szPool_n (v : Value) (m : Pm) (n : Int) (w : World) (hR : RdPm w.heap.size w v m) (hl : lenPm m) (hn0 : 0 ≤ n) (hn1 : n ≤ 1048576) :
    Calls Tryz.prog 45 #[v, .int .i64 n] w fun e w' => (∃ z : Int, e = .returned (.int .i64 z) ∧ ((z < 0 ∧ -1 ≤ z) ∨ (0 ≤ z ∧ z ≤ n ∧ fitPm m))) ∧ Below w.heap.size w w' := by
  obtain ⟨vb, vr, rfl, ⟨o, c, rfl, b1⟩, r1⟩ := hR
  obtain ⟨oR, cR, rfl⟩ := RiR.len r1
  obtain ⟨l1, l2, l3, l4⟩ := hl
  have hs := fun W => szBackS_any o m.l.length c n W l1 hn0 hn1
  have HRG := hide (fun W (hb : Below w.heap.size w W) (z : Int) h0 h1 => szIntSSS_any (.slice oR m.ring.length cR) m.ring z W (RiR.mon.go (RiR.stp.go r1 (Stp.of (lo := 0) (hi := 0) hb) (.inl (Nat.zero_le _))) (Nat.le_refl _) hb.size) l2 l3 l4 h0 h1)
  clear b1 r1 l3 l4
  obtain ⟨W0, hW0⟩ : ∃ W, (w.alloc (.cells #[.int .i64 m.key, .slice o m.l.length c, .slice oR m.ring.length cR] 28)) = W := ⟨_, rfl⟩
  have hb_W0 : Below w.heap.size w W0 := by rw [← hW0]; exact ((Below.refl _ _).alloc (Nat.le_refl _) _)
  have HB := hide hb_W0
  clear hb_W0
  have zz : w.heap.size < W0.heap.size := by rw [← hW0]; simp
  have z0 : W0.cell? ⟨w.heap.size, 0, none⟩ = some (.int .i64 m.key) := by rw [← hW0]; simp [go_sem]
  have z1 : W0.cell? ⟨w.heap.size, 1, none⟩ = some (.slice o m.l.length c) := by rw [← hW0]; simp [go_sem]
  have z2 : W0.cell? ⟨w.heap.size, 2, none⟩ = some (.slice oR m.ring.length cR) := by rw [← hW0]; simp [go_sem]
  by_cases h : n - (m.l.length : Int) < 0
  · rw [if_pos h] at hs
    go_enter Tryz.func45, Tryz.ntmps45
    go_wp2_with fail
    refine (hs _).mono ?_
    rintro e w1 ⟨rfl, rfl⟩
    go_wp2
    go_ret
    exact ⟨⟨_, rfl, .inl ⟨by decide, by decide⟩⟩, HB.out⟩
  · rw [if_neg h] at hs
    have hz0 : (0 : Int) ≤ n - (m.l.length : Int) := by omega
    have HRG2 := hide (HRG.out W0 HB.out (n - (m.l.length : Int)) hz0 (by omega))
    go_enter Tryz.func45, Tryz.ntmps45
    go_wp2_with fail
    refine (hs _).mono ?_
    rintro e w1 ⟨rfl, rfl⟩
    go_wp2_with fail
    refine HRG2.out.mono ?_
    rintro e w2 ⟨rfl | ⟨z, rfl, hz1, hz2, hz3, hz4⟩, hb2⟩
    · have HB2 := hide (HB.out.trans (hb2.mono HB.out.size))
      clear hb2
      go_wp2
      go_ret
      exact ⟨⟨_, rfl, .inl ⟨by decide, by decide⟩⟩, HB2.out⟩
    · have HB2 := hide (HB.out.trans (hb2.mono HB.out.size))
      have HF : Hid (fitPm m) := fit_of (n := n - (m.l.length : Int)) (by omega) (by omega) hz3 hz4
      clear hb2 hz3 hz4
      go_wp2
      go_ret
      exact ⟨⟨_, rfl, .inr ⟨hz1, by omega, HF.out⟩⟩, HB2.out⟩

theorem szPool_sh (v : Value) (m : Pm) (w : World) (hR : RdPm w.heap.size w v m) (hl : lenPm m) :
    Calls Tryz.prog 45 #[v, .int .i64 1048576] w fun e w' => (∃ z : Int, e = .returned (.int .i64 z) ∧ ((z < 0 ∧ -1 ≤ z) ∨ (0 ≤ z ∧ z ≤ 1048576 ∧ fitPm m))) ∧ Below w.heap.size w w' := szPool_n v m 1048576 w hR hl (by decide) (by decide)

set_option maxRecDepth 100000 in
set_option maxHeartbeats 2000000 in
theorem toPool_sh (v : Value) (m : Pm) (w : World) (hR : RdPm w.heap.size w v m) (hf : fitPm m) :
    Calls Tryz.prog 52 #[v] w fun e w' => ∃ v', e = .returned v' ∧ InPm w.heap.size w'.heap.size w' v' m ∧ Below w.heap.size w w' := by
  obtain ⟨vb, vr, rfl, ⟨o, c, rfl, b1⟩, r1⟩ := hR
  obtain ⟨oR, cR, rfl⟩ := RiR.len r1
  obtain ⟨hf1, hf2, hf3, hf4, hf5⟩ := hf
  have HBK := hide (fun W (hb : Below w.heap.size w W) => toBackS_any o c m.l W ((b1.rd.kept hb (Nat.le_refl _)).le hb.size) hf1)
  have HRG := hide (fun W (hb : Below w.heap.size w W) => toIntSSS_in (.slice oR m.ring.length cR) m.ring W (RiR.mon.go (RiR.stp.go r1 (Stp.of (lo := 0) (hi := 0) hb) (.inl (Nat.zero_le _))) (Nat.le_refl _) hb.size) hf2 hf4 hf5)
  clear b1 r1 hf4 hf5
  obtain ⟨W0, hW0⟩ : ∃ W, (((w.alloc (.cells #[.int .i64 m.key, .slice o m.l.length c, .slice oR m.ring.length cR] 28)).alloc (.cells #[.int .i64 0, .slice none 0 0, .slice none 0 0] 41)).alloc (.cells #[.int .i64 0, .slice none 0 0, .slice none 0 0] 41)) = W := ⟨_, rfl⟩
  have hb_W0 : Below w.heap.size w W0 := by rw [← hW0]; exact ((((Below.refl _ _).alloc (Nat.le_refl _) _).alloc (by simp <;> omega) _).alloc (by simp <;> omega) _)
  have HB := hide hb_W0
  clear hb_W0
  have zz : w.heap.size < W0.heap.size := by rw [← hW0]; simp <;> omega
  have z0 : W0.cell? ⟨w.heap.size, 0, none⟩ = some (.int .i64 m.key) := by rw [← hW0]; simp [go_sem]
  have z1 : W0.cell? ⟨w.heap.size, 1, none⟩ = some (.slice o m.l.length c) := by rw [← hW0]; simp [go_sem]
  have z2 : W0.cell? ⟨w.heap.size, 2, none⟩ = some (.slice oR m.ring.length cR) := by rw [← hW0]; simp [go_sem]
  have zr : w.heap.size + 1 < W0.heap.size := by rw [← hW0]; simp <;> omega
  have r0 : W0.cell? ⟨w.heap.size + 1, 0, none⟩ = some (.int .i64 0) := by rw [← hW0]; simp [go_sem]
  have r1 : W0.cell? ⟨w.heap.size + 1, 1, none⟩ = some (.slice none 0 0) := by rw [← hW0]; simp [go_sem]
  have r2 : W0.cell? ⟨w.heap.size + 1, 2, none⟩ = some (.slice none 0 0) := by rw [← hW0]; simp [go_sem]
  have fr0 : W0.frozen? ⟨w.heap.size + 1, 0, none⟩ = false := by rw [← hW0]; simp [go_sem]
  have fr1 : W0.frozen? ⟨w.heap.size + 1, 1, none⟩ = false := by rw [← hW0]; simp [go_sem]
  have fr2 : W0.frozen? ⟨w.heap.size + 1, 2, none⟩ = false := by rw [← hW0]; simp [go_sem]
  have zx : w.heap.size + 1 + 1 < W0.heap.size := by rw [← hW0]; simp
  have x0 : W0.cell? ⟨w.heap.size + 1 + 1, 0, none⟩ = some (.int .i64 0) := by rw [← hW0]; simp [go_sem]
  have x1 : W0.cell? ⟨w.heap.size + 1 + 1, 1, none⟩ = some (.slice none 0 0) := by rw [← hW0]; simp [go_sem]
  have x2 : W0.cell? ⟨w.heap.size + 1 + 1, 2, none⟩ = some (.slice none 0 0) := by rw [← hW0]; simp [go_sem]
  have fx0 : W0.frozen? ⟨w.heap.size + 1 + 1, 0, none⟩ = false := by rw [← hW0]; simp [go_sem]
  have fx1 : W0.frozen? ⟨w.heap.size + 1 + 1, 1, none⟩ = false := by rw [← hW0]; simp [go_sem]
  have fx2 : W0.frozen? ⟨w.heap.size + 1 + 1, 2, none⟩ = false := by rw [← hW0]; simp [go_sem]
  have h0x : W0.heap[w.heap.size + 1 + 1]? = some (.cells #[.int .i64 0, .slice none 0 0, .slice none 0 0] 41 (0, 0)) := by rw [← hW0]; exact box_new3 w _ _ _ _
  have h0r : W0.heap[w.heap.size + 1]? = some (.cells #[.int .i64 0, .slice none 0 0, .slice none 0 0] 41 (0, 0)) := by rw [← hW0]; exact box_mid3 w _ _ _ _
  have hzx := zx
  have hw0 := HB.out.size
  obtain ⟨W1, hW1⟩ : ∃ W, W0.setCell ⟨w.heap.size + 1 + 1, 0, none⟩ (.int .i64 m.key) = W := ⟨_, rfl⟩
  have h1x := box_put h0x 0 (.int .i64 m.key)
  rw [hW1] at h1x
  have h1r : W1.heap[w.heap.size + 1]? = some (.cells #[.int .i64 0, .slice none 0 0, .slice none 0 0] 41 (0, 0)) := by rw [← hW1]; exact (far_block (by omega) _ _).trans h0r
  have hs1 : W1.heap.size = W0.heap.size := by rw [← hW1]; simp
  have hB1 : Below w.heap.size w W1 := by rw [← hW1]; exact HB.out.setCell (p := ⟨w.heap.size + 1 + 1, 0, none⟩) (show w.heap.size ≤ w.heap.size + 1 + 1 by omega) _
  have a0 : W1.cell? ⟨w.heap.size, 0, none⟩ = some (.int .i64 m.key) := by rw [← hW1]; exact (cell_far (by omega)).trans z0
  have a1 : W1.cell? ⟨w.heap.size, 1, none⟩ = some (.slice o m.l.length c) := by rw [← hW1]; exact (cell_far (by omega)).trans z1
  have a2 : W1.cell? ⟨w.heap.size, 2, none⟩ = some (.slice oR m.ring.length cR) := by rw [← hW1]; exact (cell_far (by omega)).trans z2
  have HB1 := hide hB1
  have HS1 := hide hs1
  have H1X := hide h1x
  have H1R := hide h1r
  clear hB1 hs1 h1x h1r h0x h0r z1 z2 r0 r1 r2 fr0 fr1 fr2 HB
  go_enter Tryz.func52, Tryz.ntmps52
  go_wp2_with fail
  refine (HBK.out W1 HB1.out).mono ?_
  rintro e v1 ⟨g1, rfl, ow1, hb1⟩
  have hsv := hb1.size
  have hx1 := (hb1.block _ (show w.heap.size + 1 + 1 < W1.heap.size by have := HS1.out; omega)).trans H1X.out
  have hr1 := (hb1.block _ (show w.heap.size + 1 < W1.heap.size by have := HS1.out; omega)).trans H1R.out
  have b0 := bC hb1 a0 (by have := HS1.out; omega)
  have b1 := bC hb1 a1 (by have := HS1.out; omega)
  have b2 := bC hb1 a2 (by have := HS1.out; omega)
  have p1 : v1.cell? ⟨w.heap.size + 1 + 1, 1, none⟩ = some (.slice none 0 0) := bx_cell hx1 1 _ rfl
  have q1 := bx_frozen hx1 1
  obtain ⟨og, hog⟩ : ∃ o : Option Addr, some ⟨g1, 0, none⟩ = o := ⟨_, rfl⟩
  rw [hog] at ow1 ⊢
  clear hog
  obtain ⟨W2, hW2⟩ : ∃ W, v1.setCell ⟨w.heap.size + 1 + 1, 1, none⟩ (.slice og m.l.length m.l.length) = W := ⟨_, rfl⟩
  have h2x := box_put hx1 1 (.slice og m.l.length m.l.length)
  rw [hW2] at h2x
  have h2r : W2.heap[w.heap.size + 1]? = some (.cells #[.int .i64 0, .slice none 0 0, .slice none 0 0] 41 (0, 0)) := by rw [← hW2]; exact (far_block (by omega) _ _).trans hr1
  have hs2 : W2.heap.size = v1.heap.size := by rw [← hW2]; simp
  have hB2 : Below w.heap.size w W2 := by rw [← hW2]; exact (HB1.out.trans (hb1.mono HB1.out.size)).setCell (p := ⟨w.heap.size + 1 + 1, 1, none⟩) (show w.heap.size ≤ w.heap.size + 1 + 1 by omega) _
  have HO2 : Hid (InL layK 150 W0.heap.size W2.heap.size W2 (.slice og m.l.length m.l.length) m.l) := by rw [← hW2]; exact InRow.of (own_low (own_mono ow1 (by have := HS1.out; omega)) hzx 1 _)
  have d0 : W2.cell? ⟨w.heap.size, 0, none⟩ = some (.int .i64 m.key) := by rw [← hW2]; exact (cell_far (by omega)).trans b0
  have d1 : W2.cell? ⟨w.heap.size, 1, none⟩ = some (.slice o m.l.length c) := by rw [← hW2]; exact (cell_far (by omega)).trans b1
  have d2 : W2.cell? ⟨w.heap.size, 2, none⟩ = some (.slice oR m.ring.length cR) := by rw [← hW2]; exact (cell_far (by omega)).trans b2
  have HB2 := hide hB2
  have HS2 := hide hs2
  have H2X := hide h2x
  have H2R := hide h2r
  clear hB2 hs2 h2x h2r hx1 hr1 ow1 hb1
  go_wp2_with fail
  refine (HRG.out W2 HB2.out).mono ?_
  rintro e v3 ⟨vr3, rfl, in3, hb3⟩
  obtain ⟨o3, c3, e3⟩ := RiR.len (InR.ri in3)
  subst e3
  have hsv3 := hb3.size
  have hx3 := (hb3.block _ (show w.heap.size + 1 + 1 < W2.heap.size by have := HS2.out; have := HS1.out; omega)).trans H2X.out
  have hr3 := (hb3.block _ (show w.heap.size + 1 < W2.heap.size by have := HS2.out; have := HS1.out; omega)).trans H2R.out
  have p2 : v3.cell? ⟨w.heap.size + 1 + 1, 2, none⟩ = some (.slice none 0 0) := bx_cell hx3 2 _ rfl
  have q2 := bx_frozen hx3 2
  obtain ⟨W4, hW4⟩ : ∃ W, v3.setCell ⟨w.heap.size + 1 + 1, 2, none⟩ (.slice o3 m.ring.length c3) = W := ⟨_, rfl⟩
  have h4x := box_put hx3 2 (.slice o3 m.ring.length c3)
  rw [hW4] at h4x
  have h4r : W4.heap[w.heap.size + 1]? = some (.cells #[.int .i64 0, .slice none 0 0, .slice none 0 0] 41 (0, 0)) := by rw [← hW4]; exact (far_block (by omega) _ _).trans hr3
  have hB4 : Below w.heap.size w W4 := by rw [← hW4]; exact (HB2.out.trans (hb3.mono HB2.out.size)).setCell (p := ⟨w.heap.size + 1 + 1, 2, none⟩) (show w.heap.size ≤ w.heap.size + 1 + 1 by omega) _
  have hs4 : W4.heap.size = v3.heap.size := by rw [← hW4]; simp
  have HIN : Hid (InPm W0.heap.size W4.heap.size W4 (plv m.key (.slice og m.l.length m.l.length) (.slice o3 m.ring.length c3)) m) := by
    rw [hs4, ← hW4]
    exact ⟨_, _, W2.heap.size, rfl, by have := HS2.out; have := HS1.out; omega, hsv3, InRow.step (InRow.step HO2.out (Stp.of (lo := 0) (hi := 0) hb3) (.inl (Nat.zero_le _))) (stp_set v3 (w.heap.size + 1 + 1) 2 _) (.inl (by omega)), InR.stp.go in3 (stp_set v3 (w.heap.size + 1 + 1) 2 _) (.inl (by have := HS2.out; have := HS1.out; omega))⟩
  obtain ⟨e0, e1, e2, g0, g1', g2⟩ := bx_allP h4x
  obtain ⟨t0, t1, t2, u0, u1, u2⟩ := bx_allP h4r
  have HB4 := hide hB4
  clear hB4 h4x h4r hx3 hr3 in3 hb3 hs4
  go_wp2
  refine bodyPost_ret (v := plv m.key (.slice og m.l.length m.l.length) (.slice o3 m.ring.length c3)) (by simp [results, Tryz.results52, go_sem, t0, t1, t2]) rfl ⟨_, rfl, ?_, setP_belowT HB4.out (Nat.le_succ _) _ _ _⟩
  rw [setP_sizeT]
  exact in_monoT (HIN.out.step (stp_setT W4 (w.heap.size + 1) _ _ _) (.inl (by omega))) (by omega)

end Go.Proofs.YtajfkcpifnpkeaaGreat

/- How a pool that comes in is opened. -/
namespace Go.Proofs.YtajfkcpifnpkeaaGreat
open Go.ChangeShapes Go.WideShapes Go.ChangeAt Go.RowKit Go.Joins
set_option linter.unusedVariables false
set_option linter.unusedSimpArgs false


theorem cellsLawsPool : Tryz.prog.cellsOf 28 = 3 := by kernel_rfl
theorem cellsIntSS : Tryz.prog.cellsOf 152 = 1 := by kernel_rfl
/-- Rows of rows of ints that came in. -/
theorem open_rows3_cells {H : Type} {enc : TypeId × Value → H} {W : World} {fuel : Nat} {cs : List Value} {x : DataW H × List MemPlace} (h : DataW.trod enc Tryz.prog W 0 (fun _ => true) true fuel 26 cs = some x) :
    ∃ (o : Option Addr) (cap : Nat) (ll : List (List (List Int))), cs = [.slice o ll.length cap] ∧ ll.length ≤ maxLen ∧ RiR 0 W.heap.size W (.slice o ll.length cap) ll ∧ (∀ i, i < ll.length → (ll.getD i []).length ≤ maxLen) ∧ ∀ i, i < ll.length → ∀ j, j < (ll.getD i []).length → ((ll.getD i []).getD j []).length ≤ maxLen := by
  rcases Go.Deep.open_slice1 Tryz.underlying26 cellsIntSS h with ⟨hcs, _⟩ | ⟨a, len, cap, m, n, V, D, Pl, hcs, _, hl, hm, hmm, _, hx⟩
  · exact ⟨none, 0, [], hcs, Nat.zero_le _, ⟨[], rfl, ⟨none, 0, rfl, .inl rfl⟩, fun i hi => absurd hi (Nat.not_lt_zero _)⟩, fun i hi => absurd hi (Nat.not_lt_zero _), fun i hi => absurd hi (Nat.not_lt_zero _)⟩
  · have hlm : len ≤ m := by rw [hmm]; split <;> omega
    have ex : ∀ i, i < len → ∃ y : Hd × List (List Int), V i = .slice y.1.1 y.1.2.1 y.1.2.2 ∧ y.1.2.1 = y.2.length ∧ y.2.length ≤ maxLen ∧ RdLL W.heap.size W y.1.1 y.2 ∧ ∀ j, j < y.2.length → (y.2.getD j []).length ≤ maxLen := fun i hi => by
      obtain ⟨o', c', l', e, hl', hr, hj⟩ := open_rows_cells (hx i (by omega)).2
      simp at e
      exact ⟨((o', l'.length, c'), l'), e, rfl, hl', hr, hj⟩
    have hne : Inhabited (Hd × List (List Int)) := ⟨((none, 0, 0), [])⟩
    obtain ⟨f, hf⟩ := Go.Deep.choose_lt ex
    have gd : ∀ i, i < len → ((List.range len).map (fun i => (f i).2)).getD i [] = (f i).2 := fun i hi => by simp [hi]
    have gh : ∀ i, i < len → ((List.range len).map (fun i => (f i).1)).getD i (none, 0, 0) = (f i).1 := fun i hi => by simp [hi]
    refine ⟨some a, cap, (List.range len).map (fun i => (f i).2), by simpa using hcs, by simp; omega, ⟨(List.range len).map (fun i => (f i).1), by simp, ⟨some a, cap, by simp, ?_⟩, fun i hi => ?_⟩, fun i hi => ?_, fun i hi => ?_⟩
    · by_cases h0 : len = 0
      · left; simp [h0]
      · right
        obtain ⟨b, off, spot⟩ := a
        have hc := (hx 0 (by omega)).1
        have hspot : spot = none := by simpa [Addr.add] using World.cell?_spot hc
        subst hspot
        have e2 : ∀ j, (⟨b, off, none⟩ : Addr).add j = ⟨b, off + j, none⟩ := fun j => by by_cases h : j = 0 <;> simp [Addr.add, h]
        refine ⟨b, off, rfl, Nat.zero_le _, ?_, fun i hi j hj => ?_⟩
        · rw [e2] at hc
          rcases Nat.lt_or_ge b W.heap.size with h | h
          · exact h
          · simp [World.cell?, Array.getElem?_eq_none h] at hc
        · have hi' : i < len := by simpa using hi
          have hj' : j = 0 := by have : j < 1 := hj; omega
          subst hj'
          have h1 := (hx i (by omega)).1
          rw [e2] at h1
          rw [show layH.d = (none, 0, 0) from rfl, gh i hi', show layH.k = 1 from rfl, Nat.mul_one, Nat.add_zero, h1, (hf i hi').1]
          rfl
    · have hi' : i < len := by simpa using hi
      have hv' : hv ((List.range len).map (fun i => (f i).1)) i = .slice (f i).1.1 (f i).2.length (f i).1.2.2 := by unfold hv; rw [gh i hi', (hf i hi').2.1]
      rw [gd i hi', hv']
      exact RiT.of (hf i hi').2.2.2.1
    · have hi' : i < len := by simpa using hi
      rw [gd i hi']
      exact (hf i hi').2.2.1
    · have hi' : i < len := by simpa using hi
      rw [gd i hi']
      exact (hf i hi').2.2.2.2
set_option maxRecDepth 100000 in
theorem open_pool {H : Type} {enc : TypeId × Value → H} {W : World} {base : Nat} {v : Value} {d : DataW H} {p : List MemPlace}
    (hv : Value.okWide Tryz.prog W .any base 28 v) (h : DataW.Trod enc Tryz.prog W 0 (fun _ => true) true 28 v d p) :
    ∃ (m : Pm) (o : Option Addr) (cap : Nat) (oR : Option Addr) (cR : Nat), v = plv m.key (.slice o m.l.length cap) (.slice oR m.ring.length cR) ∧ lenPm m ∧ RdPm W.heap.size W (plv m.key (.slice o m.l.length cap) (.slice oR m.ring.length cR)) m := by
  obtain ⟨c0, c1, c2, y0, y1, y2, m, rfl, rfl, rfl, hy0, hy1, hy2⟩ := open_agg3 Tryz.underlying28 (by kernel_rfl) cellsLawsPool hv h
  obtain ⟨a, e0, rfl, wa⟩ := DataW.trod_int Tryz.underlying3 hy0
  obtain ⟨o, cap, l, e1, r⟩ := open_backs_cells hy1
  obtain ⟨oR, cR, ll, e2, l2, rr, l3, l4⟩ := open_rows3_cells hy2
  simp at e0 e1 e2
  subst e0 e1 e2
  exact ⟨⟨a, l, ll⟩, o, cap, oR, cR, rfl, ⟨r.1, l2, l3, l4⟩, ⟨_, _, rfl, RiV.of r.2, rr⟩⟩

end Go.Proofs.YtajfkcpifnpkeaaGreat

/- Balancers as an argument of the laws: how they are counted. -/
namespace Go.Proofs.YtajfkcpifnpkeaaGreat
open Go.ChangeShapes Go.WideShapes Go.ChangeAt Go.RowKit Go.Joins
set_option linter.unusedVariables false
set_option linter.unusedSimpArgs false


set_option maxHeartbeats 400000 in
theorem szJournal_n (k s : Int) (o : Option Addr) (len c : Nat) (n : Int) (w : World) (hl : len ≤ maxLen) (h0 : 0 ≤ n) (h1 : n ≤ 1048576) :
    Calls Tryz.prog 44 #[jrn k (.slice o len c) s, .int .i64 n] w fun e w' => e = .returned (.int .i64 (if n - len < 0 then -1 else n - len)) ∧ Below w.heap.size w w' := by
  have hB : Below w.heap.size w w := Below.refl _ _
  have hs := fun W => szPoolCmdS_any o len c n W hl h0 h1
  by_cases h : n - len < 0
  · rw [if_pos h] at hs
    rw [if_pos h]
    go_enter Tryz.func44, Tryz.ntmps44
    go_wp2_with (go_at_call 97; refine (hs _).mono ?_; rintro e w1 ⟨rfl, rfl⟩)
    go_ret
    exact ⟨rfl, by (repeat (first | with_reducible exact hB | with_reducible exact Below.refl _ _ | with_reducible refine Below.drew ?_ | with_reducible refine below_drewN ?_ _ | with_reducible refine Below.alloc ?_ ?_ _ | with_reducible refine Below.setCell ?_ ?_ _ | (focus (simp; done)) | (focus (simp; omega)) | omega))⟩
  · rw [if_neg h] at hs
    rw [if_neg h]
    have h' : 0 ≤ n - (len : Int) := by omega
    go_enter Tryz.func44, Tryz.ntmps44
    go_wp2_with (go_at_call 97; refine (hs _).mono ?_; rintro e w1 ⟨rfl, rfl⟩)
    go_ret
    exact ⟨rfl, by (repeat (first | with_reducible exact hB | with_reducible exact Below.refl _ _ | with_reducible refine Below.drew ?_ | with_reducible refine below_drewN ?_ _ | with_reducible refine Below.alloc ?_ ?_ _ | with_reducible refine Below.setCell ?_ ?_ _ | (focus (simp; done)) | (focus (simp; omega)) | omega))⟩
/-- A balancer's lengths may be lengths. -/
def lenBm (m : Bm) : Prop := m.j.l.length ≤ maxLen ∧ lenPm m.p ∧ m.t.length ≤ maxLen

set_option maxRecDepth 100000 in
set_option maxHeartbeats 2000000 in
theorem szBal_sh (v : Value) (m : Bm) (w : World) (hR : RdBm w.heap.size w v m) (hl : lenBm m) :
    Calls Tryz.prog 11 #[v, .int .i64 1048576] w fun e w' => (∃ z : Int, e = .returned (.int .i64 z) ∧ ((z < 0 ∧ -1 ≤ z) ∨ (0 ≤ z ∧ z ≤ 1048576 ∧ fitB0 m))) ∧ Below w.heap.size w w' := by
  obtain ⟨o, c, ob, cb, oR, cR, ot, ct, rfl⟩ := hR.opn
  obtain ⟨vl, vb, vr, vt, e, a1, a2, a3⟩ := hR
  simp only [Value.agg.injEq, Array.mk.injEq, List.cons.injEq, and_true, true_and] at e
  obtain ⟨e1, e2, e3, e4⟩ := e
  subst e1 e2 e3 e4
  obtain ⟨l1, l2, l3⟩ := hl
  have HJ := hide (fun W => szJournal_n m.j.key m.j.safe o m.j.l.length c 1048576 W l1 (by decide) (by decide))
  have HP := hide (fun W (hb : Below w.heap.size w W) n h0 h1 => szPool_n (plv m.p.key (.slice ob m.p.l.length cb) (.slice oR m.p.ring.length cR)) m.p n W ((a2.kept hb (Nat.le_refl _)).le hb.size) l2 h0 h1)
  have HT := hide (fun W n h0 h1 => szTable_n ot m.t.length ct n W l3 h0 h1)
  have HFI := hide (show m.j.l.length ≤ 1048576 → fitPm m.p → m.t.length ≤ 1048576 → fitB0 m from fun x y z => ⟨x, y, z⟩)
  clear a1 a2 a3 l1 l2 l3
  generalize m.j.l.length = nj at *
  generalize m.p.l.length = np at *
  generalize m.p.ring.length = nr at *
  generalize m.t.length = nt at *
  generalize m.j.key = kj at *
  generalize m.j.safe = sj at *
  generalize m.p.key = kp at *
  obtain ⟨W0, hW0⟩ : ∃ W, (w.alloc (.cells #[.int .i64 kj, .slice o nj c, .int .i64 sj, .int .i64 kp, .slice ob np cb, .slice oR nr cR, .slice ot nt ct] 33)) = W := ⟨_, rfl⟩
  have hb_W0 : Below w.heap.size w W0 := by rw [← hW0]; exact ((Below.refl _ _).alloc (Nat.le_refl _) _)
  have HB := hide hb_W0
  clear hb_W0
  have zz : w.heap.size < W0.heap.size := by rw [← hW0]; simp
  have z0 : W0.cell? ⟨w.heap.size, 0, none⟩ = some (.int .i64 kj) := by rw [← hW0]; simp [go_sem]
  have z1 : W0.cell? ⟨w.heap.size, 1, none⟩ = some (.slice o nj c) := by rw [← hW0]; simp [go_sem]
  have z2 : W0.cell? ⟨w.heap.size, 2, none⟩ = some (.int .i64 sj) := by rw [← hW0]; simp [go_sem]
  have z3 : W0.cell? ⟨w.heap.size, 3, none⟩ = some (.int .i64 kp) := by rw [← hW0]; simp [go_sem]
  have z4 : W0.cell? ⟨w.heap.size, 4, none⟩ = some (.slice ob np cb) := by rw [← hW0]; simp [go_sem]
  have z5 : W0.cell? ⟨w.heap.size, 5, none⟩ = some (.slice oR nr cR) := by rw [← hW0]; simp [go_sem]
  have z6 : W0.cell? ⟨w.heap.size, 6, none⟩ = some (.slice ot nt ct) := by rw [← hW0]; simp [go_sem]
  go_enter Tryz.func11, Tryz.ntmps11
  go_wp2_with fail
  refine (HJ.out W0).mono ?_
  rintro e v1 ⟨rfl, hb⟩
  replace z0 := bC hb z0 zz
  replace z1 := bC hb z1 zz
  replace z2 := bC hb z2 zz
  replace z3 := bC hb z3 zz
  replace z4 := bC hb z4 zz
  replace z5 := bC hb z5 zz
  replace z6 := bC hb z6 zz
  replace zz := Nat.lt_of_lt_of_le zz hb.size
  replace HB := hide (HB.out.trans (hb.mono HB.out.size))
  clear hb
  by_cases hj : (1048576 : Int) - nj < 0
  · rw [if_pos hj]
    go_wp2
    go_ret
    exact ⟨⟨_, rfl, .inl ⟨by decide, by decide⟩⟩, HB.out⟩
  rw [if_neg hj]
  have hj0 : (0 : Int) ≤ 1048576 - (nj : Int) := by omega
  have hj1 : (1048576 : Int) - (nj : Int) ≤ 1048576 := by omega
  have HPQ := hide (HP.out v1 HB.out _ hj0 hj1)
  clear HP
  obtain ⟨y, hy⟩ : ∃ y, (1048576 : Int) - (nj : Int) = y := ⟨_, rfl⟩
  rw [hy] at HPQ hj0 hj1 ⊢
  have HY := hide hy
  clear hy hj
  go_wp2_with fail
  refine (HPQ.out).mono ?_
  rintro e v2 ⟨⟨z, rfl, hz⟩, hb⟩
  replace z0 := bC hb z0 zz
  replace z1 := bC hb z1 zz
  replace z2 := bC hb z2 zz
  replace z3 := bC hb z3 zz
  replace z4 := bC hb z4 zz
  replace z5 := bC hb z5 zz
  replace z6 := bC hb z6 zz
  replace zz := Nat.lt_of_lt_of_le zz hb.size
  replace HB := hide (HB.out.trans (hb.mono HB.out.size))
  clear hb
  rcases hz with ⟨hz1, hz2⟩ | ⟨hz1, hz2, HF⟩
  · go_wp2
    go_ret
    exact ⟨⟨_, rfl, .inl ⟨by decide, by decide⟩⟩, HB.out⟩
  have HF' := hide HF
  clear HF
  have HTQ := hide (HT.out v2 z hz1 (by omega))
  clear HT
  go_wp2_with fail
  refine (HTQ.out).mono ?_
  rintro e v3 ⟨rfl, hb⟩
  replace z0 := bC hb z0 zz
  replace z1 := bC hb z1 zz
  replace z2 := bC hb z2 zz
  replace z3 := bC hb z3 zz
  replace z4 := bC hb z4 zz
  replace z5 := bC hb z5 zz
  replace z6 := bC hb z6 zz
  replace zz := Nat.lt_of_lt_of_le zz hb.size
  replace HB := hide (HB.out.trans (hb.mono HB.out.size))
  clear hb
  by_cases ht : z - (nt : Int) < 0
  · rw [if_pos ht]
    go_wp2
    go_ret
    exact ⟨⟨_, rfl, .inl ⟨by decide, by decide⟩⟩, HB.out⟩
  rw [if_neg ht]
  have ht0 : (0 : Int) ≤ z - (nt : Int) := by omega
  have HFF : Hid (fitB0 m) := HFI.out (by have := HY.out; omega) HF'.out (by omega)
  go_wp2
  go_ret
  exact ⟨⟨_, rfl, .inr ⟨ht0, by omega, HFF.out⟩⟩, HB.out⟩

end Go.Proofs.YtajfkcpifnpkeaaGreat

/- Balancers as an argument of the laws: how they are copied. -/
namespace Go.Proofs.YtajfkcpifnpkeaaGreat
open Go.ChangeShapes Go.WideShapes Go.ChangeAt Go.RowKit Go.Joins
set_option linter.unusedVariables false
set_option linter.unusedSimpArgs false


theorem inJm_wideB {a b a' b' : Nat} {w : World} {v : Value} {m : Jm} (h : InJm a b w v m) (h1 : a' ≤ a) (h2 : b ≤ b') : InJm a' b' w v m := by
  obtain ⟨vl, e, i1⟩ := h
  exact ⟨vl, e, InRow.mono i1 h1 h2⟩
set_option maxRecDepth 100000 in
set_option maxHeartbeats 4000000 in
theorem toBal_go (kj : Int) (o : Option Addr) (nj c : Nat) (sj kp : Int) (ob : Option Addr) (np cb : Nat) (oR : Option Addr) (nr cR : Nat) (ot : Option Addr) (nt ct : Nat) (m : Bm) (w : World)
    (hkj : m.j.key = kj) (hsj : m.j.safe = sj) (hkp : m.p.key = kp) (hnj : m.j.l.length = nj) (hnp : m.p.l.length = np) (hnr : m.p.ring.length = nr) (hnt : m.t.length = nt)
    (h1 : RdJm w.heap.size w (jrn kj (.slice o nj c) sj) m.j) (h2 : RdPm w.heap.size w (plv kp (.slice ob np cb) (.slice oR nr cR)) m.p) (h3 : RdT w.heap.size w (tab (.slice ot nt ct)) m.t) (hf : fitB0 m) :
    Calls Tryz.prog 13 #[balv kj (.slice o nj c) sj kp (.slice ob np cb) (.slice oR nr cR) (.slice ot nt ct)] w fun e w' => ∃ v', e = .returned v' ∧ InBm w.heap.size w'.heap.size w' v' m ∧ Below w.heap.size w w' := by
  have HJ := hide (fun W (hb : Below w.heap.size w W) => toJournal_sh (jrn kj (.slice o nj c) sj) m.j W ((h1.kept hb (Nat.le_refl _)).le hb.size) hf.1)
  have HP := hide (fun W (hb : Below w.heap.size w W) => toPool_sh (plv kp (.slice ob np cb) (.slice oR nr cR)) m.p W ((h2.kept hb (Nat.le_refl _)).le hb.size) hf.2.1)
  have HT := hide (fun W (hb : Below w.heap.size w W) => toTable_sh (tab (.slice ot nt ct)) m.t W ((h3.kept hb (Nat.le_refl _)).le hb.size) hf.2.2)
  have HK := hide (And.intro hkj (And.intro hsj (And.intro hkp (And.intro hnj (And.intro hnp (And.intro hnr hnt))))))
  clear h1 h2 h3 hf hkj hsj hkp hnj hnp hnr hnt
  obtain ⟨W0, hW0⟩ : ∃ W, (((w.alloc (.cells #[.int .i64 kj, .slice o nj c, .int .i64 sj, .int .i64 kp, .slice ob np cb, .slice oR nr cR, .slice ot nt ct] 33)).alloc (.cells #[.int .i64 0, .slice none 0 0, .int .i64 0, .int .i64 0, .slice none 0 0, .slice none 0 0, .slice none 0 0] 46)).alloc (.cells #[.int .i64 0, .slice none 0 0, .int .i64 0, .int .i64 0, .slice none 0 0, .slice none 0 0, .slice none 0 0] 46)) = W := ⟨_, rfl⟩
  have HB0 := hide (show Below w.heap.size w W0 by rw [← hW0]; exact ((((Below.refl _ _).alloc (Nat.le_refl _) _).alloc (by simp <;> omega) _).alloc (by simp <;> omega) _))
  have zx : w.heap.size + 1 + 1 < W0.heap.size := by rw [← hW0]; simp
  have a00 : W0.cell? ⟨w.heap.size, 0, none⟩ = some (.int .i64 kj) := by rw [← hW0]; simp [go_sem]
  have a01 : W0.cell? ⟨w.heap.size, 1, none⟩ = some (.slice o nj c) := by rw [← hW0]; simp [go_sem]
  have a02 : W0.cell? ⟨w.heap.size, 2, none⟩ = some (.int .i64 sj) := by rw [← hW0]; simp [go_sem]
  have a03 : W0.cell? ⟨w.heap.size, 3, none⟩ = some (.int .i64 kp) := by rw [← hW0]; simp [go_sem]
  have a04 : W0.cell? ⟨w.heap.size, 4, none⟩ = some (.slice ob np cb) := by rw [← hW0]; simp [go_sem]
  have a05 : W0.cell? ⟨w.heap.size, 5, none⟩ = some (.slice oR nr cR) := by rw [← hW0]; simp [go_sem]
  have a06 : W0.cell? ⟨w.heap.size, 6, none⟩ = some (.slice ot nt ct) := by rw [← hW0]; simp [go_sem]
  have HX0 := hide (show W0.heap[w.heap.size + 1 + 1]? = some (.cells #[.int .i64 0, .slice none 0 0, .int .i64 0, .int .i64 0, .slice none 0 0, .slice none 0 0, .slice none 0 0] 46 (0, 0)) by rw [← hW0]; exact box_new3 w _ _ _ _)
  have HR0 := hide (show W0.heap[w.heap.size + 1]? = some (.cells #[.int .i64 0, .slice none 0 0, .int .i64 0, .int .i64 0, .slice none 0 0, .slice none 0 0, .slice none 0 0] 46 (0, 0)) by rw [← hW0]; exact box_mid3 w _ _ _ _)
  have hsW : w.heap.size ≤ W0.heap.size := HB0.out.size
  go_enter Tryz.func13, Tryz.ntmps13
  go_wp2_with fail
  refine (HJ.out W0 HB0.out).mono ?_
  rintro e v1 ⟨u0v, rfl, inA, hb⟩
  obtain ⟨vl7, ev7, o7, c7, el7, _⟩ := inA.rd
  rw [HK.out.1, HK.out.2.1] at ev7
  rw [HK.out.2.2.2.1] at el7
  subst el7 ev7
  have hs0v : W0.heap.size ≤ v1.heap.size := hb.size
  have hx := (hb.block _ (show w.heap.size + 1 + 1 < W0.heap.size by omega)).trans HX0.out
  have hr := (hb.block _ (show w.heap.size + 1 < W0.heap.size by omega)).trans HR0.out
  have y0 := bC hb a00 (show w.heap.size < W0.heap.size by omega)
  have y1 := bC hb a01 (show w.heap.size < W0.heap.size by omega)
  have y2 := bC hb a02 (show w.heap.size < W0.heap.size by omega)
  have y3 := bC hb a03 (show w.heap.size < W0.heap.size by omega)
  have y4 := bC hb a04 (show w.heap.size < W0.heap.size by omega)
  have y5 := bC hb a05 (show w.heap.size < W0.heap.size by omega)
  have y6 := bC hb a06 (show w.heap.size < W0.heap.size by omega)
  have p0 := bx_cell hx 0 _ rfl
  have p1 := bx_cell hx 1 _ rfl
  have p2 := bx_cell hx 2 _ rfl
  have q0 := bx_frozen hx 0
  have q1 := bx_frozen hx 1
  have q2 := bx_frozen hx 2
  obtain ⟨W1, hW1⟩ : ∃ W, (((v1.setCell ⟨w.heap.size + 1 + 1, 0, none⟩ (.int .i64 kj)).setCell ⟨w.heap.size + 1 + 1, 1, none⟩ (.slice o7 nj c7)).setCell ⟨w.heap.size + 1 + 1, 2, none⟩ (.int .i64 sj)) = W := ⟨_, rfl⟩
  have HX1 := hide (show W1.heap[w.heap.size + 1 + 1]? = some (.cells #[.int .i64 kj, .slice o7 nj c7, .int .i64 sj, .int .i64 0, .slice none 0 0, .slice none 0 0, .slice none 0 0] 46 (0, 0)) by rw [← hW1]; exact (box_put (box_put (box_put hx 0 (.int .i64 kj)) 1 (.slice o7 nj c7)) 2 (.int .i64 sj)))
  have HR1 := hide (show W1.heap[w.heap.size + 1]? = some (.cells #[.int .i64 0, .slice none 0 0, .int .i64 0, .int .i64 0, .slice none 0 0, .slice none 0 0, .slice none 0 0] 46 (0, 0)) by rw [← hW1]; exact ((far_block (by omega) _ _).trans ((far_block (by omega) _ _).trans ((far_block (by omega) _ _).trans hr))))
  have hs1 : W1.heap.size = v1.heap.size := by rw [← hW1]; simp
  have HB1 := hide (show Below w.heap.size w W1 by rw [← hW1]; exact ((((HB0.out.trans (hb.mono HB0.out.size)).setCell (p := ⟨w.heap.size + 1 + 1, 0, none⟩) (show w.heap.size ≤ w.heap.size + 1 + 1 by omega) _).setCell (p := ⟨w.heap.size + 1 + 1, 1, none⟩) (show w.heap.size ≤ w.heap.size + 1 + 1 by omega) _).setCell (p := ⟨w.heap.size + 1 + 1, 2, none⟩) (show w.heap.size ≤ w.heap.size + 1 + 1 by omega) _))
  have sp : Stp (w.heap.size + 1 + 1) (w.heap.size + 1 + 1 + 1) v1 W1 := by rw [← hW1]; exact (((stp_set v1 (w.heap.size + 1 + 1) 0 (.int .i64 kj)).trans (stp_set (v1.setCell ⟨w.heap.size + 1 + 1, 0, none⟩ (.int .i64 kj)) (w.heap.size + 1 + 1) 1 (.slice o7 nj c7))).trans (stp_set ((v1.setCell ⟨w.heap.size + 1 + 1, 0, none⟩ (.int .i64 kj)).setCell ⟨w.heap.size + 1 + 1, 1, none⟩ (.slice o7 nj c7)) (w.heap.size + 1 + 1) 2 (.int .i64 sj)))
  have IN0 := hide (inA.step sp (.inl (by omega)))
  have a10 : W1.cell? ⟨w.heap.size, 0, none⟩ = some (.int .i64 kj) := by rw [← hW1]; exact ((cell_far (by omega)).trans ((cell_far (by omega)).trans ((cell_far (by omega)).trans y0)))
  have a11 : W1.cell? ⟨w.heap.size, 1, none⟩ = some (.slice o nj c) := by rw [← hW1]; exact ((cell_far (by omega)).trans ((cell_far (by omega)).trans ((cell_far (by omega)).trans y1)))
  have a12 : W1.cell? ⟨w.heap.size, 2, none⟩ = some (.int .i64 sj) := by rw [← hW1]; exact ((cell_far (by omega)).trans ((cell_far (by omega)).trans ((cell_far (by omega)).trans y2)))
  have a13 : W1.cell? ⟨w.heap.size, 3, none⟩ = some (.int .i64 kp) := by rw [← hW1]; exact ((cell_far (by omega)).trans ((cell_far (by omega)).trans ((cell_far (by omega)).trans y3)))
  have a14 : W1.cell? ⟨w.heap.size, 4, none⟩ = some (.slice ob np cb) := by rw [← hW1]; exact ((cell_far (by omega)).trans ((cell_far (by omega)).trans ((cell_far (by omega)).trans y4)))
  have a15 : W1.cell? ⟨w.heap.size, 5, none⟩ = some (.slice oR nr cR) := by rw [← hW1]; exact ((cell_far (by omega)).trans ((cell_far (by omega)).trans ((cell_far (by omega)).trans y5)))
  have a16 : W1.cell? ⟨w.heap.size, 6, none⟩ = some (.slice ot nt ct) := by rw [← hW1]; exact ((cell_far (by omega)).trans ((cell_far (by omega)).trans ((cell_far (by omega)).trans y6)))
  clear hx hr hb inA sp y0 a00 y1 a01 y2 a02 y3 a03 y4 a04 y5 a05 y6 a06 HB0 HX0 HR0
  go_wp2_with fail
  refine (HP.out W1 HB1.out).mono ?_
  rintro e v2 ⟨u1v, rfl, inA, hb⟩
  obtain ⟨o8, c8, oR8, cR8, ev8⟩ := inA.opn
  rw [HK.out.2.2.1, HK.out.2.2.2.2.1, HK.out.2.2.2.2.2.1] at ev8
  subst ev8
  have hs1v : W1.heap.size ≤ v2.heap.size := hb.size
  have hx := (hb.block _ (show w.heap.size + 1 + 1 < W1.heap.size by omega)).trans HX1.out
  have hr := (hb.block _ (show w.heap.size + 1 < W1.heap.size by omega)).trans HR1.out
  have y0 := bC hb a10 (show w.heap.size < W1.heap.size by omega)
  have y1 := bC hb a11 (show w.heap.size < W1.heap.size by omega)
  have y2 := bC hb a12 (show w.heap.size < W1.heap.size by omega)
  have y3 := bC hb a13 (show w.heap.size < W1.heap.size by omega)
  have y4 := bC hb a14 (show w.heap.size < W1.heap.size by omega)
  have y5 := bC hb a15 (show w.heap.size < W1.heap.size by omega)
  have y6 := bC hb a16 (show w.heap.size < W1.heap.size by omega)
  replace IN0 := hide (IN0.out.step (Stp.of (lo := 0) (hi := 0) hb) (.inl (Nat.zero_le _)))
  have p3 := bx_cell hx 3 _ rfl
  have p4 := bx_cell hx 4 _ rfl
  have p5 := bx_cell hx 5 _ rfl
  have q3 := bx_frozen hx 3
  have q4 := bx_frozen hx 4
  have q5 := bx_frozen hx 5
  obtain ⟨W2, hW2⟩ : ∃ W, (((v2.setCell ⟨w.heap.size + 1 + 1, 3, none⟩ (.int .i64 kp)).setCell ⟨w.heap.size + 1 + 1, 4, none⟩ (.slice o8 np c8)).setCell ⟨w.heap.size + 1 + 1, 5, none⟩ (.slice oR8 nr cR8)) = W := ⟨_, rfl⟩
  have HX2 := hide (show W2.heap[w.heap.size + 1 + 1]? = some (.cells #[.int .i64 kj, .slice o7 nj c7, .int .i64 sj, .int .i64 kp, .slice o8 np c8, .slice oR8 nr cR8, .slice none 0 0] 46 (0, 0)) by rw [← hW2]; exact (box_put (box_put (box_put hx 3 (.int .i64 kp)) 4 (.slice o8 np c8)) 5 (.slice oR8 nr cR8)))
  have HR2 := hide (show W2.heap[w.heap.size + 1]? = some (.cells #[.int .i64 0, .slice none 0 0, .int .i64 0, .int .i64 0, .slice none 0 0, .slice none 0 0, .slice none 0 0] 46 (0, 0)) by rw [← hW2]; exact ((far_block (by omega) _ _).trans ((far_block (by omega) _ _).trans ((far_block (by omega) _ _).trans hr))))
  have hs2 : W2.heap.size = v2.heap.size := by rw [← hW2]; simp
  have HB2 := hide (show Below w.heap.size w W2 by rw [← hW2]; exact ((((HB1.out.trans (hb.mono HB1.out.size)).setCell (p := ⟨w.heap.size + 1 + 1, 3, none⟩) (show w.heap.size ≤ w.heap.size + 1 + 1 by omega) _).setCell (p := ⟨w.heap.size + 1 + 1, 4, none⟩) (show w.heap.size ≤ w.heap.size + 1 + 1 by omega) _).setCell (p := ⟨w.heap.size + 1 + 1, 5, none⟩) (show w.heap.size ≤ w.heap.size + 1 + 1 by omega) _))
  have sp : Stp (w.heap.size + 1 + 1) (w.heap.size + 1 + 1 + 1) v2 W2 := by rw [← hW2]; exact (((stp_set v2 (w.heap.size + 1 + 1) 3 (.int .i64 kp)).trans (stp_set (v2.setCell ⟨w.heap.size + 1 + 1, 3, none⟩ (.int .i64 kp)) (w.heap.size + 1 + 1) 4 (.slice o8 np c8))).trans (stp_set ((v2.setCell ⟨w.heap.size + 1 + 1, 3, none⟩ (.int .i64 kp)).setCell ⟨w.heap.size + 1 + 1, 4, none⟩ (.slice o8 np c8)) (w.heap.size + 1 + 1) 5 (.slice oR8 nr cR8)))
  replace IN0 := hide (IN0.out.step sp (.inl (by omega)))
  have IN1 := hide (inA.step sp (.inl (by omega)))
  have a20 : W2.cell? ⟨w.heap.size, 0, none⟩ = some (.int .i64 kj) := by rw [← hW2]; exact ((cell_far (by omega)).trans ((cell_far (by omega)).trans ((cell_far (by omega)).trans y0)))
  have a21 : W2.cell? ⟨w.heap.size, 1, none⟩ = some (.slice o nj c) := by rw [← hW2]; exact ((cell_far (by omega)).trans ((cell_far (by omega)).trans ((cell_far (by omega)).trans y1)))
  have a22 : W2.cell? ⟨w.heap.size, 2, none⟩ = some (.int .i64 sj) := by rw [← hW2]; exact ((cell_far (by omega)).trans ((cell_far (by omega)).trans ((cell_far (by omega)).trans y2)))
  have a23 : W2.cell? ⟨w.heap.size, 3, none⟩ = some (.int .i64 kp) := by rw [← hW2]; exact ((cell_far (by omega)).trans ((cell_far (by omega)).trans ((cell_far (by omega)).trans y3)))
  have a24 : W2.cell? ⟨w.heap.size, 4, none⟩ = some (.slice ob np cb) := by rw [← hW2]; exact ((cell_far (by omega)).trans ((cell_far (by omega)).trans ((cell_far (by omega)).trans y4)))
  have a25 : W2.cell? ⟨w.heap.size, 5, none⟩ = some (.slice oR nr cR) := by rw [← hW2]; exact ((cell_far (by omega)).trans ((cell_far (by omega)).trans ((cell_far (by omega)).trans y5)))
  have a26 : W2.cell? ⟨w.heap.size, 6, none⟩ = some (.slice ot nt ct) := by rw [← hW2]; exact ((cell_far (by omega)).trans ((cell_far (by omega)).trans ((cell_far (by omega)).trans y6)))
  clear hx hr hb inA sp y0 a10 y1 a11 y2 a12 y3 a13 y4 a14 y5 a15 y6 a16 HB1 HX1 HR1
  go_wp2_with fail
  refine (HT.out W2 HB2.out).mono ?_
  rintro e v3 ⟨u2v, rfl, inA, hb⟩
  obtain ⟨vt9, ev9, o9, c9, el9, _⟩ := inA.rd
  rw [HK.out.2.2.2.2.2.2] at el9
  subst el9 ev9
  have hs2v : W2.heap.size ≤ v3.heap.size := hb.size
  have hx := (hb.block _ (show w.heap.size + 1 + 1 < W2.heap.size by omega)).trans HX2.out
  have hr := (hb.block _ (show w.heap.size + 1 < W2.heap.size by omega)).trans HR2.out
  have y0 := bC hb a20 (show w.heap.size < W2.heap.size by omega)
  have y1 := bC hb a21 (show w.heap.size < W2.heap.size by omega)
  have y2 := bC hb a22 (show w.heap.size < W2.heap.size by omega)
  have y3 := bC hb a23 (show w.heap.size < W2.heap.size by omega)
  have y4 := bC hb a24 (show w.heap.size < W2.heap.size by omega)
  have y5 := bC hb a25 (show w.heap.size < W2.heap.size by omega)
  have y6 := bC hb a26 (show w.heap.size < W2.heap.size by omega)
  replace IN0 := hide (IN0.out.step (Stp.of (lo := 0) (hi := 0) hb) (.inl (Nat.zero_le _)))
  replace IN1 := hide (IN1.out.step (Stp.of (lo := 0) (hi := 0) hb) (.inl (Nat.zero_le _)))
  have p6 := bx_cell hx 6 _ rfl
  have q6 := bx_frozen hx 6
  obtain ⟨W3, hW3⟩ : ∃ W, (v3.setCell ⟨w.heap.size + 1 + 1, 6, none⟩ (.slice o9 nt c9)) = W := ⟨_, rfl⟩
  have HX3 := hide (show W3.heap[w.heap.size + 1 + 1]? = some (.cells #[.int .i64 kj, .slice o7 nj c7, .int .i64 sj, .int .i64 kp, .slice o8 np c8, .slice oR8 nr cR8, .slice o9 nt c9] 46 (0, 0)) by rw [← hW3]; exact (box_put hx 6 (.slice o9 nt c9)))
  have HR3 := hide (show W3.heap[w.heap.size + 1]? = some (.cells #[.int .i64 0, .slice none 0 0, .int .i64 0, .int .i64 0, .slice none 0 0, .slice none 0 0, .slice none 0 0] 46 (0, 0)) by rw [← hW3]; exact ((far_block (by omega) _ _).trans hr))
  have hs3 : W3.heap.size = v3.heap.size := by rw [← hW3]; simp
  have HB3 := hide (show Below w.heap.size w W3 by rw [← hW3]; exact ((HB2.out.trans (hb.mono HB2.out.size)).setCell (p := ⟨w.heap.size + 1 + 1, 6, none⟩) (show w.heap.size ≤ w.heap.size + 1 + 1 by omega) _))
  have sp : Stp (w.heap.size + 1 + 1) (w.heap.size + 1 + 1 + 1) v3 W3 := by rw [← hW3]; exact (stp_set v3 (w.heap.size + 1 + 1) 6 (.slice o9 nt c9))
  replace IN0 := hide (IN0.out.step sp (.inl (by omega)))
  replace IN1 := hide (IN1.out.step sp (.inl (by omega)))
  have IN2 := hide (inA.step sp (.inl (by omega)))
  have a30 : W3.cell? ⟨w.heap.size, 0, none⟩ = some (.int .i64 kj) := by rw [← hW3]; exact ((cell_far (by omega)).trans y0)
  have a31 : W3.cell? ⟨w.heap.size, 1, none⟩ = some (.slice o nj c) := by rw [← hW3]; exact ((cell_far (by omega)).trans y1)
  have a32 : W3.cell? ⟨w.heap.size, 2, none⟩ = some (.int .i64 sj) := by rw [← hW3]; exact ((cell_far (by omega)).trans y2)
  have a33 : W3.cell? ⟨w.heap.size, 3, none⟩ = some (.int .i64 kp) := by rw [← hW3]; exact ((cell_far (by omega)).trans y3)
  have a34 : W3.cell? ⟨w.heap.size, 4, none⟩ = some (.slice ob np cb) := by rw [← hW3]; exact ((cell_far (by omega)).trans y4)
  have a35 : W3.cell? ⟨w.heap.size, 5, none⟩ = some (.slice oR nr cR) := by rw [← hW3]; exact ((cell_far (by omega)).trans y5)
  have a36 : W3.cell? ⟨w.heap.size, 6, none⟩ = some (.slice ot nt ct) := by rw [← hW3]; exact ((cell_far (by omega)).trans y6)
  clear hx hr hb inA sp y0 a20 y1 a21 y2 a22 y3 a23 y4 a24 y5 a25 y6 a26 HB2 HX2 HR2
  have x0 := bx_cell HX3.out 0 _ rfl
  have x1 := bx_cell HX3.out 1 _ rfl
  have x2 := bx_cell HX3.out 2 _ rfl
  have x3 := bx_cell HX3.out 3 _ rfl
  have x4 := bx_cell HX3.out 4 _ rfl
  have x5 := bx_cell HX3.out 5 _ rfl
  have x6 := bx_cell HX3.out 6 _ rfl
  have r0 := bx_cell HR3.out 0 _ rfl
  have r1 := bx_cell HR3.out 1 _ rfl
  have r2 := bx_cell HR3.out 2 _ rfl
  have r3 := bx_cell HR3.out 3 _ rfl
  have r4 := bx_cell HR3.out 4 _ rfl
  have r5 := bx_cell HR3.out 5 _ rfl
  have r6 := bx_cell HR3.out 6 _ rfl
  have fr0 := bx_frozen HR3.out 0
  have fr1 := bx_frozen HR3.out 1
  have fr2 := bx_frozen HR3.out 2
  have fr3 := bx_frozen HR3.out 3
  have fr4 := bx_frozen HR3.out 4
  have fr5 := bx_frozen HR3.out 5
  have fr6 := bx_frozen HR3.out 6
  have HFI : Hid (InBm w.heap.size (setB W3 (w.heap.size + 1) (.int .i64 kj) (.slice o7 nj c7) (.int .i64 sj) (.int .i64 kp) (.slice o8 np c8) (.slice oR8 nr cR8) (.slice o9 nt c9)).heap.size (setB W3 (w.heap.size + 1) (.int .i64 kj) (.slice o7 nj c7) (.int .i64 sj) (.int .i64 kp) (.slice o8 np c8) (.slice oR8 nr cR8) (.slice o9 nt c9)) (balv kj (.slice o7 nj c7) sj kp (.slice o8 np c8) (.slice oR8 nr cR8) (.slice o9 nt c9)) m) := by
    have s9 := stp_setB W3 (w.heap.size + 1) (.int .i64 kj) (.slice o7 nj c7) (.int .i64 sj) (.int .i64 kp) (.slice o8 np c8) (.slice oR8 nr cR8) (.slice o9 nt c9)
    obtain ⟨e1, e2, e3, _⟩ := HK.out
    refine ⟨.slice o7 nj c7, .slice o8 np c8, .slice oR8 nr cR8, .slice o9 nt c9, w.heap.size, v1.heap.size, v1.heap.size, v2.heap.size, v2.heap.size, W3.heap.size, by rw [e1, e2, e3], by rw [setB_size]; omega, ?_, ?_, ?_⟩
    · rw [e1, e2]; exact inJm_wideB (IN0.out.step s9 (.inl (by omega))) (by omega) (by omega)
    · rw [e3]; exact inPm_wide (IN1.out.step s9 (.inl (by omega))) (by omega) (by omega)
    · exact (IN2.out.step s9 (.inl (by omega))).mono (by omega) (by omega)
  go_wp2
  refine bodyPost_ret (v := balv kj (.slice o7 nj c7) sj kp (.slice o8 np c8) (.slice oR8 nr cR8) (.slice o9 nt c9)) (by simp [results, Tryz.results13, go_sem, r0, r1, r2, r3, r4, r5, r6]) rfl ⟨_, rfl, HFI.out, setB_below HB3.out (Nat.le_succ _) _ _ _ _ _ _ _⟩

theorem toBal_sh (v : Value) (m : Bm) (w : World) (hR : RdBm w.heap.size w v m) (hf : fitB0 m) :
    Calls Tryz.prog 13 #[v] w fun e w' => ∃ v', e = .returned v' ∧ InBm w.heap.size w'.heap.size w' v' m ∧ Below w.heap.size w w' := by
  obtain ⟨o, c, ob, cb, oR, cR, ot, ct, rfl⟩ := hR.opn
  obtain ⟨vl, vb, vr, vt, e, a1, a2, a3⟩ := hR
  simp only [Value.agg.injEq, Array.mk.injEq, List.cons.injEq, and_true, true_and] at e
  obtain ⟨e1, e2, e3, e4⟩ := e
  subst e1 e2 e3 e4
  exact toBal_go _ o _ c _ _ ob _ cb oR _ cR ot _ ct m w rfl rfl rfl rfl rfl rfl rfl a1 a2 a3 hf

end Go.Proofs.YtajfkcpifnpkeaaGreat

/- A balancer's copy, opened. -/
namespace Go.Proofs.YtajfkcpifnpkeaaGreat
open Go.ChangeShapes Go.WideShapes Go.ChangeAt Go.RowKit Go.Joins
set_option linter.unusedVariables false
set_option linter.unusedSimpArgs false

theorem balIn_open {lo hi : Nat} {w : World} {v : Value} {m : Bm} (h : InBm lo hi w v m) (hh : hi ≤ w.heap.size) : ∃ (o : Option Addr) (c : Nat) (ob : Option Addr) (cb : Nat) (oR : Option Addr) (cR : Nat) (ot : Option Addr) (ct : Nat), v = balv m.j.key (.slice o m.j.l.length c) m.j.safe m.p.key (.slice ob m.p.l.length cb) (.slice oR m.p.ring.length cR) (.slice ot m.t.length ct) ∧ RdC w.heap.size w o m.j.l ∧ (o = none → c = 0) ∧ RdPm w.heap.size w (plv m.p.key (.slice ob m.p.l.length cb) (.slice oR m.p.ring.length cR)) m.p ∧ RdS w.heap.size w ot m.t := by
  obtain ⟨vl, vb, vr, vt, j0, j1, p0, p1, t0, t1, e, kk, hj, hp, ht⟩ := h
  have cj := hj.cap
  obtain ⟨vl', e1, o, c, e1', r1⟩ := hj.rd
  obtain ⟨ob, cb, oR, cR, e2⟩ := hp.opn
  obtain ⟨vt', e3, ot, ct, e3', r3⟩ := ht.rd
  simp only [Value.agg.injEq, Array.mk.injEq, List.cons.injEq, and_true, true_and] at e1 e2 e3
  obtain ⟨e21, e22⟩ := e2
  subst e1 e1' e3 e3' e21 e22
  exact ⟨o, c, ob, cb, oR, cR, ot, ct, e, r1.le (by omega), capJm.one cj, hp.rd.le (by omega), r3.le (by omega)⟩
theorem block_cellB {W : World} {B : Nat} {c : Array Value} {t : TypeId} (h : W.heap[B]? = some (.cells c t (0, 0))) (j : Nat) (u : Value) (hj : c[j]? = some u) : W.cell? ⟨B, j, none⟩ = some u := bx_cell h j u hj

end Go.Proofs.YtajfkcpifnpkeaaGreat

/- A balancer that came in. -/
namespace Go.Proofs.YtajfkcpifnpkeaaGreat
open Go.ChangeShapes Go.WideShapes Go.ChangeAt Go.RowKit Go.Joins
set_option linter.unusedVariables false
set_option linter.unusedSimpArgs false


theorem cellsLawsBal : Tryz.prog.cellsOf 33 = 7 := by kernel_rfl
theorem cellsIntB : Tryz.prog.cellsOf 3 = 1 := by kernel_rfl
theorem cellsLawsBackSB : Tryz.prog.cellsOf 25 = 1 := by kernel_rfl
theorem cellsIntSSSB : Tryz.prog.cellsOf 26 = 1 := by kernel_rfl
theorem array7 {α : Type} {cs : Array α} (h : cs.size = 7) : ∃ c0 c1 c2 c3 c4 c5 c6, cs = #[c0, c1, c2, c3, c4, c5, c6] := by
  match cs, h with
  | ⟨[c0, c1, c2, c3, c4, c5, c6]⟩, _ => exact ⟨c0, c1, c2, c3, c4, c5, c6, rfl⟩
set_option maxRecDepth 100000 in
set_option maxHeartbeats 1000000 in
theorem open_bal {H : Type} {enc : TypeId × Value → H} {W : World} {base : Nat} {v : Value} {d : DataW H} {p : List MemPlace}
    (hv : Value.okWide Tryz.prog W .any base 33 v) (h : DataW.Trod enc Tryz.prog W 0 (fun _ => true) true 33 v d p) :
    ∃ m : Bm, RdBm W.heap.size W v m ∧ lenBm m := by
  obtain ⟨cs, rfl, hsz⟩ := okWide_struct Tryz.underlying33 hv
  obtain ⟨c0, c1, c2, c3, c4, c5, c6, rfl⟩ := array7 (hsz.trans cellsLawsBal)
  obtain ⟨fuel, hf⟩ := h
  obtain ⟨y0, y1, y2, n, _, _, h0, h1, h2⟩ := Go.Deep.trod_struct3 (cs := [c0, c1, c2, c3, c4, c5, c6]) Tryz.underlying33 (by simpa [Value.cells] using hf)
  simp [cellsLawsJ, cellsLawsPool, cellsLawsT] at h0 h1 h2
  obtain ⟨z0, z1, z2, n0, _, _, q0, q1, q2⟩ := Go.Deep.trod_struct3 Tryz.underlying24 h0
  simp [cellsIntB, cellsLawsCmdS] at q0 q1 q2
  obtain ⟨t0, t1, t2, n1, _, _, r0, r1, r2⟩ := Go.Deep.trod_struct3 Tryz.underlying28 h1
  simp [cellsIntB, cellsLawsBackSB, cellsIntSSSB] at r0 r1 r2
  obtain ⟨a, e0, _, _⟩ := DataW.trod_int Tryz.underlying3 q0
  obtain ⟨o, cap, l, e1, l1, rd1⟩ := open_cmds_cells q1
  obtain ⟨b, e2, _, _⟩ := DataW.trod_int Tryz.underlying3 q2
  obtain ⟨k, e3, _, _⟩ := DataW.trod_int Tryz.underlying3 r0
  obtain ⟨o2, cap2, l2, e4, ll2, rd2⟩ := open_backs_cells r1
  obtain ⟨oR, cR, ll, e5, l3, rr, l4, l5⟩ := open_rows3_cells r2
  obtain ⟨o6, cap6, l6, e6, ll6, rd6⟩ := open_table_cells rfl h2
  simp at e0 e1 e2 e3 e4 e5 e6
  subst e0 e1 e2 e3 e4 e5 e6
  exact ⟨⟨⟨a, l, b⟩, ⟨k, l2, ll⟩, l6⟩, ⟨_, _, _, _, rfl, ⟨_, rfl, _, _, rfl, rd1⟩, ⟨_, _, rfl, RiV.of rd2, rr⟩, ⟨_, rfl, _, _, rfl, rd6⟩⟩, ⟨l1, ⟨ll2, l3, l4, l5⟩, ll6⟩⟩

end Go.Proofs.YtajfkcpifnpkeaaGreat

