/- Several texts in one: SBTick, SBLearn, LearnW. -/
import Derived.Test.YtpjkcgaohoinaaaGreatQLearn34
import Derived.Test.YtpjkcgaohoinaaaGreatQLearn35
import Derived.Test.YtpjkcgaohoinaaaGreatQLearn36
import Derived.Test.YtpjkcgaohoinaaaGreatQLearn32
import Derived.Test.YtpjkcgaohoinaaaGreatQLearn40
import Derived.Test.YtpjkcgaohoinaaaGreatQLearn45
import Derived.Deep.RegionHeld3
import Derived.Deep.CutRange
import Derived.Test.YtpjkcgaohoinaaaGreatQLearn39
import Derived.Test.YtpjkcgaohoinaaaGreatQLearn29
namespace Go.Proofs.YtpjkcgaohoinaaaGreat
open Go.ChangeShapes Go.WideShapes Go.ChangeAt Go.RowKit Go.Joins
set_option linter.unusedVariables false
set_option linter.unusedSimpArgs false


theorem Bx.turn {lo : Nat} {w w' : World} {g xc : Nat} {kj : Int} {vl : Value} {sj kp : Int} {vb vr : Value} {m : Bm} {t : List Sl} (h : Bx lo w g xc kj vl sj kp vb vr m) (s : Stp g (g + 1) w w') (hl : t.length = m.t.length) (base : Nat) (hb : lo ≤ base) (ho : w'.ownsRow base CellT 5 (.slice (some ⟨g, 0, none⟩) m.t.length xc) m.t.length (t.flatMap layS.cs)) : Bx lo w' g xc kj vl sj kp vb vr ⟨m.j, m.p, t⟩ := by
 obtain ⟨h1, h2, h3, _, ⟨j0, j1, p0, p1, k1, k2, k3, k4, k5, k6, k7, i1, i2⟩⟩ := h
 have hs := s.size
 exact ⟨h1, h2, h3, ⟨base, hb, by dsimp only; rw [hl]; exact ho⟩, ⟨j0, j1, p0, p1, k1, by omega, k3, by omega, k5, k6, k7, i1.step s (by omega), i2.step s (by omega)⟩⟩
theorem rowOf {lo : Nat} {w : World} {g xc : Nat} {kj : Int} {vl : Value} {sj kp : Int} {vb vr : Value} {m : Bm} (h : Bx lo w g xc kj vl sj kp vb vr m) : ∃ base, lo ≤ base ∧ w.ownsRow base CellT 5 (.slice (some ⟨g, 0, none⟩) m.t.length xc) m.t.length (m.t.flatMap layS.cs) := h.row

end Go.Proofs.YtpjkcgaohoinaaaGreat

namespace Go.Proofs.YtpjkcgaohoinaaaGreat
open Go.ChangeShapes Go.WideShapes Go.ChangeAt Go.RowKit Go.Joins
set_option linter.unusedVariables false
set_option linter.unusedSimpArgs false


set_option maxRecDepth 100000 in
set_option maxHeartbeats 4000000 in
theorem implLearn_any (kj : Int) (o : Option Addr) (nj c : Nat) (sj kp : Int) (ob : Option Addr) (np cb : Nat) (oR : Option Addr) (nr cR : Nat) (ot : Option Addr) (nt ct : Nat) (lj : List Cd) (lb : List Bk) (lr : List (List (List Int))) (lt : List Sl) (now a p v : Int) (w : World)
  (hnj : nj = lj.length) (hnt : nt = lt.length) (h1 : RdC w.heap.size w o lj) (h1c : o = none → c = 0) (h2 : RdPm w.heap.size w (plv kp (.slice ob np cb) (.slice oR nr cR)) ⟨kp, lb, lr⟩) (h4 : RdS w.heap.size w ot lt) (hf : fitB0 ⟨⟨kj, lj, sj⟩, ⟨kp, lb, lr⟩, lt⟩) :
  Calls Tryz.prog 9 #[balv kj (.slice o nj c) sj kp (.slice ob np cb) (.slice oR nr cR) (.slice ot nt ct), .int .i64 now, flow a p, .int .i64 v] w fun e w' => ∃ v', e = .returned (.tuple #[v', .bool (learnB ⟨⟨kj, lj, sj⟩, ⟨kp, lb, lr⟩, lt⟩ now a p v)]) ∧ InBm w.heap.size w'.heap.size w' v' (learn0M ⟨⟨kj, lj, sj⟩, ⟨kp, lb, lr⟩, lt⟩ now a p v) ∧ Below w.heap.size w w' := by
 have HBF := hide (fun W (hb : Below w.heap.size w W) => balFrom_any kj o nj c sj kp ob np cb oR nr cR ot nt ct lj lb lr lt W hnj hnt ((h1.kept hb (Nat.le_refl _)).le hb.size) h1c ((h2.kept hb (Nat.le_refl _)).le hb.size) ((h4.kept hb (Nat.le_refl _)).le hb.size) hf)
 have f7 : lt.length ≤ 1048576 := hf.2.2
 have HBP := hide (fun h => balB_pos (m := ⟨⟨kj, lj, sj⟩, ⟨kp, lb, lr⟩, lt⟩) h)
 have HSM := hide (fun h => balB_same (m := ⟨⟨kj, lj, sj⟩, ⟨kp, lb, lr⟩, lt⟩) h)
 have HTB := hide (fun h => balB_tab (m := ⟨⟨kj, lj, sj⟩, ⟨kp, lb, lr⟩, lt⟩) h)
 have HM := hide (show learn0M ⟨⟨kj, lj, sj⟩, ⟨kp, lb, lr⟩, lt⟩ now a p v = if (balB ⟨⟨kj, lj, sj⟩, ⟨kp, lb, lr⟩, lt⟩ && ((decide (0 ≤ now) && decide (now ≤ 100000)) && (flowOkB a p && (decide (0 ≤ v) && decide (v < 6))))) = true then ⟨⟨kj, lj, sj⟩, ⟨kp, lb, lr⟩, learnL lt now a p v⟩ else bm0 from rfl)
 have HN := hide (show learnB ⟨⟨kj, lj, sj⟩, ⟨kp, lb, lr⟩, lt⟩ now a p v = (balB ⟨⟨kj, lj, sj⟩, ⟨kp, lb, lr⟩, lt⟩ && ((decide (0 ≤ now) && decide (now ≤ 100000)) && (flowOkB a p && (decide (0 ≤ v) && decide (v < 6))))) from rfl)
 dsimp only at HBP HSM HTB
 clear h1 h2 h4 hnj hnt hf
 obtain ⟨bb, hbb⟩ : ∃ x, balB ⟨⟨kj, lj, sj⟩, ⟨kp, lb, lr⟩, lt⟩ = x := ⟨_, rfl⟩
 obtain ⟨mr, hmr⟩ : ∃ r, learn0M ⟨⟨kj, lj, sj⟩, ⟨kp, lb, lr⟩, lt⟩ now a p v = r := ⟨_, rfl⟩
 obtain ⟨nr9, hnr⟩ : ∃ r, learnB ⟨⟨kj, lj, sj⟩, ⟨kp, lb, lr⟩, lt⟩ now a p v = r := ⟨_, rfl⟩
 have HSTB : Hid ((decide (0 ≤ now) && decide (now ≤ 100000)) = true → 0 ≤ now ∧ now ≤ 100000) := fun h => by simpa using h
 obtain ⟨sb, hsb⟩ : ∃ r, (decide (0 ≤ now) && decide (now ≤ 100000)) = r := ⟨_, rfl⟩
 have HFLB : Hid (flowOkB a p = flowOkB a p) := rfl
 obtain ⟨fb, hfb⟩ : ∃ r, flowOkB a p = r := ⟨_, rfl⟩
 obtain ⟨vb9, hvb⟩ : ∃ r, (decide (0 ≤ v) && decide (v < 6)) = r := ⟨_, rfl⟩
 have HST := hide (fun W => isStamp_any now W)
 have HFO := hide (fun W => implFlowOk_any a p W)
 have HIB := hide (fun W => isBack_any v W)
 have HLN := hide (fun (g xc base : Nat) (W : World) (htb : tableOkB lt = true) (hfl : flowOkB a p = true) (hnow : 0 ≤ now ∧ now ≤ 100000) (hrow : W.ownsRow base CellT 5 (.slice (some ⟨g, 0, none⟩) lt.length xc) lt.length (lt.flatMap layS.cs)) => learnH_any g xc base lt.length lt now a p v W rfl htb hfl hnow hrow)
 rw [hmr, hnr]
 rw [hbb] at HBF HBP HSM HTB HM HN
 rw [hmr] at HM
 rw [hnr] at HN
 rw [hsb] at HM HN HST HSTB
 rw [hfb] at HM HN HFO HLN
 rw [hvb] at HM HN HIB
 clear hbb hmr hnr hsb hfb hvb HFLB
 obtain ⟨W0, hW0⟩ : ∃ W, (((w.alloc (.cells #[.int .i64 kj, .slice o nj c, .int .i64 sj, .int .i64 kp, .slice ob np cb, .slice oR nr cR, .slice ot nt ct] 47)).alloc (.cells #[.int .i64 a, .int .i64 p] 51)).alloc (.cells #[.int .i64 0, .slice none 0 0, .int .i64 0, .int .i64 0, .slice none 0 0, .slice none 0 0, .slice none 0 0] 47)) = W := ⟨_, rfl⟩
 have hb_W0 : Below w.heap.size w W0 := by rw [← hW0]; exact ((((Below.refl _ _).alloc (Nat.le_refl _) _).alloc (by simp <;> omega) _).alloc (by simp <;> omega) _)
 have HB := hide hb_W0
 clear hb_W0
 have zz : w.heap.size < W0.heap.size := by rw [← hW0]; simp <;> omega
 have z0 : W0.cell? ⟨w.heap.size, 0, none⟩ = some (.int .i64 kj) := by rw [← hW0]; simp [go_sem]
 have z1 : W0.cell? ⟨w.heap.size, 1, none⟩ = some (.slice o nj c) := by rw [← hW0]; simp [go_sem]
 have z2 : W0.cell? ⟨w.heap.size, 2, none⟩ = some (.int .i64 sj) := by rw [← hW0]; simp [go_sem]
 have z3 : W0.cell? ⟨w.heap.size, 3, none⟩ = some (.int .i64 kp) := by rw [← hW0]; simp [go_sem]
 have z4 : W0.cell? ⟨w.heap.size, 4, none⟩ = some (.slice ob np cb) := by rw [← hW0]; simp [go_sem]
 have z5 : W0.cell? ⟨w.heap.size, 5, none⟩ = some (.slice oR nr cR) := by rw [← hW0]; simp [go_sem]
 have z6 : W0.cell? ⟨w.heap.size, 6, none⟩ = some (.slice ot nt ct) := by rw [← hW0]; simp [go_sem]
 have zc : w.heap.size + 1 < W0.heap.size := by rw [← hW0]; simp <;> omega
 have c0 : W0.cell? ⟨w.heap.size + 1, 0, none⟩ = some (.int .i64 a) := by rw [← hW0]; simp [go_sem]
 have c1 : W0.cell? ⟨w.heap.size + 1, 1, none⟩ = some (.int .i64 p) := by rw [← hW0]; simp [go_sem]
 have zr : w.heap.size + 1 + 1 < W0.heap.size := by rw [← hW0]; simp
 have r0 : W0.cell? ⟨w.heap.size + 1 + 1, 0, none⟩ = some (.int .i64 0) := by rw [← hW0]; simp [go_sem]
 have r1 : W0.cell? ⟨w.heap.size + 1 + 1, 1, none⟩ = some (.slice none 0 0) := by rw [← hW0]; simp [go_sem]
 have r2 : W0.cell? ⟨w.heap.size + 1 + 1, 2, none⟩ = some (.int .i64 0) := by rw [← hW0]; simp [go_sem]
 have r3 : W0.cell? ⟨w.heap.size + 1 + 1, 3, none⟩ = some (.int .i64 0) := by rw [← hW0]; simp [go_sem]
 have r4 : W0.cell? ⟨w.heap.size + 1 + 1, 4, none⟩ = some (.slice none 0 0) := by rw [← hW0]; simp [go_sem]
 have r5 : W0.cell? ⟨w.heap.size + 1 + 1, 5, none⟩ = some (.slice none 0 0) := by rw [← hW0]; simp [go_sem]
 have r6 : W0.cell? ⟨w.heap.size + 1 + 1, 6, none⟩ = some (.slice none 0 0) := by rw [← hW0]; simp [go_sem]
 have fr0 : W0.frozen? ⟨w.heap.size + 1 + 1, 0, none⟩ = false := by rw [← hW0]; simp [go_sem]
 have fr1 : W0.frozen? ⟨w.heap.size + 1 + 1, 1, none⟩ = false := by rw [← hW0]; simp [go_sem]
 have fr2 : W0.frozen? ⟨w.heap.size + 1 + 1, 2, none⟩ = false := by rw [← hW0]; simp [go_sem]
 have fr3 : W0.frozen? ⟨w.heap.size + 1 + 1, 3, none⟩ = false := by rw [← hW0]; simp [go_sem]
 have fr4 : W0.frozen? ⟨w.heap.size + 1 + 1, 4, none⟩ = false := by rw [← hW0]; simp [go_sem]
 have fr5 : W0.frozen? ⟨w.heap.size + 1 + 1, 5, none⟩ = false := by rw [← hW0]; simp [go_sem]
 have fr6 : W0.frozen? ⟨w.heap.size + 1 + 1, 6, none⟩ = false := by rw [← hW0]; simp [go_sem]
 have hzr : w.heap.size + 1 + 1 < W0.heap.size := zr
 go_enter Tryz.func9, Tryz.ntmps9
 go_wp2_with fail
 refine (HBF.out W0 HB.out).mono ?_
 rintro e v1 ⟨xo, xn, xc, kq, yo, yn, yc, sq, kr, uo, un, uc, vo, vn, vc, rfl, hin, hb⟩
 have HIN := hide hin
 have hs1 := hb.size
 clear hin HBF
 replace z0 := bC hb z0 zz
 replace z1 := bC hb z1 zz
 replace z2 := bC hb z2 zz
 replace z3 := bC hb z3 zz
 replace z4 := bC hb z4 zz
 replace z5 := bC hb z5 zz
 replace z6 := bC hb z6 zz
 replace zz := Nat.lt_of_lt_of_le zz hb.size
 replace c0 := bC hb c0 zc
 replace c1 := bC hb c1 zc
 replace zc := Nat.lt_of_lt_of_le zc hb.size
 replace r0 := bC hb r0 zr
 replace r1 := bC hb r1 zr
 replace r2 := bC hb r2 zr
 replace r3 := bC hb r3 zr
 replace r4 := bC hb r4 zr
 replace r5 := bC hb r5 zr
 replace r6 := bC hb r6 zr
 replace fr0 := bF hb fr0 zr
 replace fr1 := bF hb fr1 zr
 replace fr2 := bF hb fr2 zr
 replace fr3 := bF hb fr3 zr
 replace fr4 := bF hb fr4 zr
 replace fr5 := bF hb fr5 zr
 replace fr6 := bF hb fr6 zr
 replace zr := Nat.lt_of_lt_of_le zr hb.size
 replace HB := hide (HB.out.trans (hb.mono HB.out.size))
 clear hb
 cases bb with
 | false =>
  obtain ⟨W2, hW2⟩ : ∃ W, (v1.alloc (.cells #[.slice xo xn xc, .int .i64 kq, .slice yo yn yc, .int .i64 sq, .int .i64 kr, .slice uo un uc, .slice vo vn vc] 76)) = W := ⟨_, rfl⟩
  have hb_W2 : Below v1.heap.size v1 W2 := by rw [← hW2]; exact ((Below.refl _ _).alloc (Nat.le_refl _) _)
  replace z0 := bC hb_W2 z0 zz
  replace z1 := bC hb_W2 z1 zz
  replace z2 := bC hb_W2 z2 zz
  replace z3 := bC hb_W2 z3 zz
  replace z4 := bC hb_W2 z4 zz
  replace z5 := bC hb_W2 z5 zz
  replace z6 := bC hb_W2 z6 zz
  replace zz := Nat.lt_of_lt_of_le zz hb_W2.size
  replace c0 := bC hb_W2 c0 zc
  replace c1 := bC hb_W2 c1 zc
  replace zc := Nat.lt_of_lt_of_le zc hb_W2.size
  replace r0 := bC hb_W2 r0 zr
  replace r1 := bC hb_W2 r1 zr
  replace r2 := bC hb_W2 r2 zr
  replace r3 := bC hb_W2 r3 zr
  replace r4 := bC hb_W2 r4 zr
  replace r5 := bC hb_W2 r5 zr
  replace r6 := bC hb_W2 r6 zr
  replace fr0 := bF hb_W2 fr0 zr
  replace fr1 := bF hb_W2 fr1 zr
  replace fr2 := bF hb_W2 fr2 zr
  replace fr3 := bF hb_W2 fr3 zr
  replace fr4 := bF hb_W2 fr4 zr
  replace fr5 := bF hb_W2 fr5 zr
  replace fr6 := bF hb_W2 fr6 zr
  replace zr := Nat.lt_of_lt_of_le zr hb_W2.size
  replace HB := hide (HB.out.trans (hb_W2.mono HB.out.size))
  clear hb_W2
  have zx : v1.heap.size < W2.heap.size := by rw [← hW2]; simp
  have x0 : W2.cell? ⟨v1.heap.size, 0, none⟩ = some (.slice xo xn xc) := by rw [← hW2]; simp [go_sem]
  have x1 : W2.cell? ⟨v1.heap.size, 1, none⟩ = some (.int .i64 kq) := by rw [← hW2]; simp [go_sem]
  have x2 : W2.cell? ⟨v1.heap.size, 2, none⟩ = some (.slice yo yn yc) := by rw [← hW2]; simp [go_sem]
  have x3 : W2.cell? ⟨v1.heap.size, 3, none⟩ = some (.int .i64 sq) := by rw [← hW2]; simp [go_sem]
  have x4 : W2.cell? ⟨v1.heap.size, 4, none⟩ = some (.int .i64 kr) := by rw [← hW2]; simp [go_sem]
  have x5 : W2.cell? ⟨v1.heap.size, 5, none⟩ = some (.slice uo un uc) := by rw [← hW2]; simp [go_sem]
  have x6 : W2.cell? ⟨v1.heap.size, 6, none⟩ = some (.slice vo vn vc) := by rw [← hW2]; simp [go_sem]
  clear HIN
  have e0 : nr9 = false := by rw [HN.out]; simp
  subst e0
  go_wp2
  refine bodyPost_ret (v := .tuple #[balv 0 (.slice none 0 0) 0 0 (.slice none 0 0) (.slice none 0 0) (.slice none 0 0), .bool false]) (by simp [results, Tryz.results9, go_sem, r0, r1, r2, r3, r4, r5, r6]) rfl ⟨_, rfl, ?_, setB_below HB.out (by omega) _ _ _ _ _ _ _⟩
  rw [HM.out, setB_size]
  exact bm0_in _ _ _ (by have := HB.out.size; omega)
 | true =>
  have hn := HBP.out rfl
  have hsm := HSM.out rfl
  have htb := HTB.out rfl
  obtain ⟨g, rfl, rfl, hgl, bx⟩ := Bx.of (HIN.out rfl) hn
  rw [← hsm] at bx
  have HBX := hide bx
  have HTAB := hide htb
  clear bx HIN HBP HSM HTB hsm htb
  obtain ⟨W2, hW2⟩ : ∃ W, (v1.alloc (.cells #[.slice (some ⟨g, 0, none⟩) lt.length xc, .int .i64 kq, .slice yo yn yc, .int .i64 sq, .int .i64 kr, .slice uo un uc, .slice vo vn vc] 76)) = W := ⟨_, rfl⟩
  have hb_W2 : Below v1.heap.size v1 W2 := by rw [← hW2]; exact ((Below.refl _ _).alloc (Nat.le_refl _) _)
  replace z0 := bC hb_W2 z0 zz
  replace z1 := bC hb_W2 z1 zz
  replace z2 := bC hb_W2 z2 zz
  replace z3 := bC hb_W2 z3 zz
  replace z4 := bC hb_W2 z4 zz
  replace z5 := bC hb_W2 z5 zz
  replace z6 := bC hb_W2 z6 zz
  replace zz := Nat.lt_of_lt_of_le zz hb_W2.size
  replace c0 := bC hb_W2 c0 zc
  replace c1 := bC hb_W2 c1 zc
  replace zc := Nat.lt_of_lt_of_le zc hb_W2.size
  replace r0 := bC hb_W2 r0 zr
  replace r1 := bC hb_W2 r1 zr
  replace r2 := bC hb_W2 r2 zr
  replace r3 := bC hb_W2 r3 zr
  replace r4 := bC hb_W2 r4 zr
  replace r5 := bC hb_W2 r5 zr
  replace r6 := bC hb_W2 r6 zr
  replace fr0 := bF hb_W2 fr0 zr
  replace fr1 := bF hb_W2 fr1 zr
  replace fr2 := bF hb_W2 fr2 zr
  replace fr3 := bF hb_W2 fr3 zr
  replace fr4 := bF hb_W2 fr4 zr
  replace fr5 := bF hb_W2 fr5 zr
  replace fr6 := bF hb_W2 fr6 zr
  replace zr := Nat.lt_of_lt_of_le zr hb_W2.size
  replace HB := hide (HB.out.trans (hb_W2.mono HB.out.size))
  clear hb_W2
  have zx : v1.heap.size < W2.heap.size := by rw [← hW2]; simp
  have x0 : W2.cell? ⟨v1.heap.size, 0, none⟩ = some (.slice (some ⟨g, 0, none⟩) lt.length xc) := by rw [← hW2]; simp [go_sem]
  have x1 : W2.cell? ⟨v1.heap.size, 1, none⟩ = some (.int .i64 kq) := by rw [← hW2]; simp [go_sem]
  have x2 : W2.cell? ⟨v1.heap.size, 2, none⟩ = some (.slice yo yn yc) := by rw [← hW2]; simp [go_sem]
  have x3 : W2.cell? ⟨v1.heap.size, 3, none⟩ = some (.int .i64 sq) := by rw [← hW2]; simp [go_sem]
  have x4 : W2.cell? ⟨v1.heap.size, 4, none⟩ = some (.int .i64 kr) := by rw [← hW2]; simp [go_sem]
  have x5 : W2.cell? ⟨v1.heap.size, 5, none⟩ = some (.slice uo un uc) := by rw [← hW2]; simp [go_sem]
  have x6 : W2.cell? ⟨v1.heap.size, 6, none⟩ = some (.slice vo vn vc) := by rw [← hW2]; simp [go_sem]
  replace HBX := hide (HBX.out.kept (show Below v1.heap.size v1 W2 by rw [← hW2]; exact (Below.refl _ _).alloc (Nat.le_refl _) _))
  have hs2 : v1.heap.size < W2.heap.size := zx
  have HXB : Hid (W2.heap[v1.heap.size]? = some (.cells #[.slice (some ⟨g, 0, none⟩) lt.length xc, .int .i64 kq, .slice yo yn yc, .int .i64 sq, .int .i64 kr, .slice uo un uc, .slice vo vn vc] 76 (0, 0))) := by rw [← hW2]; exact World.alloc_heap_new v1 _
  have hck := HST.out W2
  cases sb with
  | false =>
   go_wp2_with fail
   refine hck.mono ?_
   rintro e _ ⟨rfl, rfl⟩
   clear hck HBX HXB
   have e0 : nr9 = false := by rw [HN.out]; simp
   subst e0
   go_wp2
   refine bodyPost_ret (v := .tuple #[balv 0 (.slice none 0 0) 0 0 (.slice none 0 0) (.slice none 0 0) (.slice none 0 0), .bool false]) (by simp [results, Tryz.results9, go_sem, r0, r1, r2, r3, r4, r5, r6]) rfl ⟨_, rfl, ?_, setB_below HB.out (by omega) _ _ _ _ _ _ _⟩
   rw [HM.out, setB_size]
   exact bm0_in _ _ _ (by have := HB.out.size; omega)
  | true =>
   have hfk := HFO.out W2
   go_wp2_with fail
   refine hck.mono ?_
   rintro e _ ⟨rfl, rfl⟩
   clear hck
   cases fb with
   | false =>
    go_wp2_with fail
    refine (hfk).mono ?_
    rintro e v2 ⟨rfl, hb⟩
    clear HBX HXB
    replace z0 := bC hb z0 zz
    replace z1 := bC hb z1 zz
    replace z2 := bC hb z2 zz
    replace z3 := bC hb z3 zz
    replace z4 := bC hb z4 zz
    replace z5 := bC hb z5 zz
    replace z6 := bC hb z6 zz
    replace zz := Nat.lt_of_lt_of_le zz hb.size
    replace c0 := bC hb c0 zc
    replace c1 := bC hb c1 zc
    replace zc := Nat.lt_of_lt_of_le zc hb.size
    replace r0 := bC hb r0 zr
    replace r1 := bC hb r1 zr
    replace r2 := bC hb r2 zr
    replace r3 := bC hb r3 zr
    replace r4 := bC hb r4 zr
    replace r5 := bC hb r5 zr
    replace r6 := bC hb r6 zr
    replace fr0 := bF hb fr0 zr
    replace fr1 := bF hb fr1 zr
    replace fr2 := bF hb fr2 zr
    replace fr3 := bF hb fr3 zr
    replace fr4 := bF hb fr4 zr
    replace fr5 := bF hb fr5 zr
    replace fr6 := bF hb fr6 zr
    replace zr := Nat.lt_of_lt_of_le zr hb.size
    replace x0 := bC hb x0 zx
    replace x1 := bC hb x1 zx
    replace x2 := bC hb x2 zx
    replace x3 := bC hb x3 zx
    replace x4 := bC hb x4 zx
    replace x5 := bC hb x5 zx
    replace x6 := bC hb x6 zx
    replace zx := Nat.lt_of_lt_of_le zx hb.size
    replace HB := hide (HB.out.trans (hb.mono HB.out.size))
    clear hb
    clear hfk
    have e0 : nr9 = false := by rw [HN.out]; simp
    subst e0
    go_wp2
    refine bodyPost_ret (v := .tuple #[balv 0 (.slice none 0 0) 0 0 (.slice none 0 0) (.slice none 0 0) (.slice none 0 0), .bool false]) (by simp [results, Tryz.results9, go_sem, r0, r1, r2, r3, r4, r5, r6]) rfl ⟨_, rfl, ?_, setB_below HB.out (by omega) _ _ _ _ _ _ _⟩
    rw [HM.out, setB_size]
    exact bm0_in _ _ _ (by have := HB.out.size; omega)
   | true =>
    go_wp2_with fail
    refine (hfk).mono ?_
    rintro e v2 ⟨rfl, hb⟩
    replace HBX := hide (HBX.out.kept hb)
    replace HXB := hide ((hb.block _ (by omega)).trans HXB.out)
    have hs3 := hb.size
    replace z0 := bC hb z0 zz
    replace z1 := bC hb z1 zz
    replace z2 := bC hb z2 zz
    replace z3 := bC hb z3 zz
    replace z4 := bC hb z4 zz
    replace z5 := bC hb z5 zz
    replace z6 := bC hb z6 zz
    replace zz := Nat.lt_of_lt_of_le zz hb.size
    replace c0 := bC hb c0 zc
    replace c1 := bC hb c1 zc
    replace zc := Nat.lt_of_lt_of_le zc hb.size
    replace r0 := bC hb r0 zr
    replace r1 := bC hb r1 zr
    replace r2 := bC hb r2 zr
    replace r3 := bC hb r3 zr
    replace r4 := bC hb r4 zr
    replace r5 := bC hb r5 zr
    replace r6 := bC hb r6 zr
    replace fr0 := bF hb fr0 zr
    replace fr1 := bF hb fr1 zr
    replace fr2 := bF hb fr2 zr
    replace fr3 := bF hb fr3 zr
    replace fr4 := bF hb fr4 zr
    replace fr5 := bF hb fr5 zr
    replace fr6 := bF hb fr6 zr
    replace zr := Nat.lt_of_lt_of_le zr hb.size
    replace x0 := bC hb x0 zx
    replace x1 := bC hb x1 zx
    replace x2 := bC hb x2 zx
    replace x3 := bC hb x3 zx
    replace x4 := bC hb x4 zx
    replace x5 := bC hb x5 zx
    replace x6 := bC hb x6 zx
    replace zx := Nat.lt_of_lt_of_le zx hb.size
    replace HB := hide (HB.out.trans (hb.mono HB.out.size))
    clear hb
    clear hfk
    have hbk := HIB.out v2
    cases vb9 with
    | false =>
     go_wp2_with fail
     refine hbk.mono ?_
     rintro e _ ⟨rfl, rfl⟩
     clear hbk HBX HXB
     have e0 : nr9 = false := by rw [HN.out]; simp
     subst e0
     go_wp2
     refine bodyPost_ret (v := .tuple #[balv 0 (.slice none 0 0) 0 0 (.slice none 0 0) (.slice none 0 0) (.slice none 0 0), .bool false]) (by simp [results, Tryz.results9, go_sem, r0, r1, r2, r3, r4, r5, r6]) rfl ⟨_, rfl, ?_, setB_below HB.out (by omega) _ _ _ _ _ _ _⟩
     rw [HM.out, setB_size]
     exact bm0_in _ _ _ (by have := HB.out.size; omega)
    | true =>
     go_wp2_with fail
     refine hbk.mono ?_
     rintro e _ ⟨rfl, rfl⟩
     clear hbk
     obtain ⟨base, hbs, hrow⟩ := rowOf HBX.out
     dsimp only at hrow
     have hgv : g ≠ v1.heap.size := by
      intro h6
      rcases hrow.2 with ⟨h8, _⟩ | ⟨g9, c9, cur9, h8, _, h9, _⟩
      ·simp at h8
      ·simp at h8
       have h10 := HXB.out
       rw [← h8.1, h6, h10] at h9
       injection h9 with h9
       injection h9 with _ h9 _
       exact absurd h9 (by decide)
     have HDD := hide (HLN.out g xc base v2 HTAB.out (by trivial) (HSTB.out (by trivial)) hrow)
     have HEL := hide (learnL_len lt now a p v)
     have hgW := (hrow.lt g rfl).2
     clear hrow HXB
     have hw0 : w.heap.size < W0.heap.size := by omega
     have hq1 : w.heap.size + 1 + 1 < v1.heap.size := by omega
     have hgw0 : W0.heap.size ≤ g := by omega
     obtain ⟨rl, hrl⟩ : ∃ x, learnL lt now a p v = x := ⟨_, rfl⟩
     rw [hrl] at HDD HEL HM
     clear hrl HLN
     have e0 : nr9 = true := by rw [HN.out]; rfl
     subst e0
     clear HN
     go_wp2_with fail
     refine (HDD.out).mono ?_
     rintro e w5 ⟨rfl, ho5, s5⟩
     have hs5 := s5.size
     replace x0 := s5.cellP x0 (by (try dsimp only); omega)
     replace x1 := s5.cellP x1 (by (try dsimp only); omega)
     replace x2 := s5.cellP x2 (by (try dsimp only); omega)
     replace x3 := s5.cellP x3 (by (try dsimp only); omega)
     replace x4 := s5.cellP x4 (by (try dsimp only); omega)
     replace x5 := s5.cellP x5 (by (try dsimp only); omega)
     replace x6 := s5.cellP x6 (by (try dsimp only); omega)
     replace r0 := s5.cellP r0 (.inl (by (try dsimp only); omega))
     replace r1 := s5.cellP r1 (.inl (by (try dsimp only); omega))
     replace r2 := s5.cellP r2 (.inl (by (try dsimp only); omega))
     replace r3 := s5.cellP r3 (.inl (by (try dsimp only); omega))
     replace r4 := s5.cellP r4 (.inl (by (try dsimp only); omega))
     replace r5 := s5.cellP r5 (.inl (by (try dsimp only); omega))
     replace r6 := s5.cellP r6 (.inl (by (try dsimp only); omega))
     replace fr0 := Stp.frozen s5 fr0 (by omega) (.inl (by (try dsimp only); omega))
     replace fr1 := Stp.frozen s5 fr1 (by omega) (.inl (by (try dsimp only); omega))
     replace fr2 := Stp.frozen s5 fr2 (by omega) (.inl (by (try dsimp only); omega))
     replace fr3 := Stp.frozen s5 fr3 (by omega) (.inl (by (try dsimp only); omega))
     replace fr4 := Stp.frozen s5 fr4 (by omega) (.inl (by (try dsimp only); omega))
     replace fr5 := Stp.frozen s5 fr5 (by omega) (.inl (by (try dsimp only); omega))
     replace fr6 := Stp.frozen s5 fr6 (by omega) (.inl (by (try dsimp only); omega))
     replace HB := hide (HB.out.trans (s5.below (by omega) HB.out.size))
     replace HBX := hide (Bx.turn HBX.out s5 HEL.out base hbs ho5)
     clear ho5 s5 HDD c0 c1 z0 z1 z2 z3 z4 z5 z6 zx zc hW2
     have HPL := hide (plainB_any W0.heap.size g lt.length xc kq yo yn yc sq kr uo un uc vo vn vc ⟨⟨kj, lj, sj⟩, ⟨kp, lb, lr⟩, rl⟩ w5 HEL.out.symm (by dsimp only; rw [HEL.out]; exact f7) (by omega) HBX.out)
     clear HBX
     go_wp2_with fail
     refine (HPL.out).mono ?_
     rintro e w6 ⟨tO, tn, tc, rfl, in6, hb6⟩
     have hs6 := hb6.size
     replace r0 := bC hb6 r0 (by omega)
     replace r1 := bC hb6 r1 (by omega)
     replace r2 := bC hb6 r2 (by omega)
     replace r3 := bC hb6 r3 (by omega)
     replace r4 := bC hb6 r4 (by omega)
     replace r5 := bC hb6 r5 (by omega)
     replace r6 := bC hb6 r6 (by omega)
     replace fr0 := bF hb6 fr0 (by omega)
     replace fr1 := bF hb6 fr1 (by omega)
     replace fr2 := bF hb6 fr2 (by omega)
     replace fr3 := bF hb6 fr3 (by omega)
     replace fr4 := bF hb6 fr4 (by omega)
     replace fr5 := bF hb6 fr5 (by omega)
     replace fr6 := bF hb6 fr6 (by omega)
     replace HB := hide (HB.out.trans (hb6.mono HB.out.size))
     have HI6 := hide in6
     clear in6 hb6 HPL x0 x1 x2 x3 x4 x5 x6
     go_wp2
     refine bodyPost_ret (v := .tuple #[balv kq (.slice yo yn yc) sq kr (.slice uo un uc) (.slice vo vn vc) (.slice tO tn tc), .bool true]) (by simp [results, Tryz.results9, go_sem, r0, r1, r2, r3, r4, r5, r6]) rfl ⟨_, rfl, ?_, setB_below HB.out (by omega) _ _ _ _ _ _ _⟩
     rw [HM.out, setB_size]
     exact (HI6.out.step (stp_setB _ _ _ _ _ _ _ _ _) (.inl (by omega))).mono (by omega) (Nat.le_refl _)

end Go.Proofs.YtpjkcgaohoinaaaGreat

namespace Go.Proofs.YtpjkcgaohoinaaaGreat
open Go.ChangeShapes Go.WideShapes Go.ChangeAt Go.RowKit Go.Joins
set_option linter.unusedVariables false
set_option linter.unusedSimpArgs false

theorem cellsM2 {W : World} {B : Nat} {z0 z1 : Value} {T : TypeId} (h : W.heap[B]? = some (.cells #[z0, z1] T (0, 0))) : W.cell? ⟨B, 0, none⟩ = some z0 ∧ W.cell? ⟨B, 1, none⟩ = some z1 := ⟨bx_cell h 0 _ rfl, bx_cell h 1 _ rfl⟩
theorem learn0_fit (m : Bm) (now a p bk : Int) : fitBm (learn0M m now a p bk) := by
 unfold learn0M
 split
 ·next h =>
  unfold learnB at h
  rw [Bool.and_eq_true] at h
  exact ⟨by have := (journal_facts (balB_jrn h.1)).2.1; show m.j.l.length ≤ _; omega, (show fitPm m.p from balB_fit h.1), by show (learnL m.t now a p bk).length ≤ _; rw [learnL_len]; have := (tableOkB_iff.1 (balB_tab h.1)).2.1; omega⟩
 ·exact ⟨by simp [bm0, jm0], by have h := pnew_fit (-1); have e : pnewM (-1) = pm0 := (by rfl); rw [e] at h; exact h, by simp [bm0]⟩
theorem specLearn_in (lo hi : Nat) (v : Value) (m : Bm) (now a p bk : Int) (w : World) (h : InBm lo hi w v m) (hh : hi ≤ w.heap.size) (hf : fitB0 m) :
  Calls Tryz.prog 6 #[v, .int .i64 now, flow a p, .int .i64 bk] w fun e w' => ∃ v', e = .returned (.tuple #[v', .bool (learnB m now a p bk)]) ∧ OwBm w.heap.size w'.heap.size w' v' (learn0M m now a p bk) ∧ Below w.heap.size w w' := by
 have hO := h.ow.mono (Nat.le_refl _) hh
 obtain ⟨o, c, ob, cb, oR, cR, ot, ct, rfl, r1, r2, r3, r4⟩ := balIn_open h hh
 exact specLearn_any m.j.key o m.j.l.length c m.j.safe m.p.key ob m.p.l.length cb oR m.p.ring.length cR ot m.t.length ct m.j.l m.p.l m.p.ring m.t now a p bk w rfl rfl r1 r2 r3 r4 hf hO
theorem implLearn_in (lo hi : Nat) (v : Value) (m : Bm) (now a p bk : Int) (w : World) (h : InBm lo hi w v m) (hh : hi ≤ w.heap.size) (hf : fitB0 m) :
  Calls Tryz.prog 9 #[v, .int .i64 now, flow a p, .int .i64 bk] w fun e w' => ∃ v', e = .returned (.tuple #[v', .bool (learnB m now a p bk)]) ∧ InBm w.heap.size w'.heap.size w' v' (learn0M m now a p bk) ∧ Below w.heap.size w w' := by
 have hO := h.ow.mono (Nat.le_refl _) hh
 obtain ⟨o, c, ob, cb, oR, cR, ot, ct, rfl, r1, r2, r3, r4⟩ := balIn_open h hh
 exact implLearn_any m.j.key o m.j.l.length c m.j.safe m.p.key ob m.p.l.length cb oR m.p.ring.length cR ot m.t.length ct m.j.l m.p.l m.p.ring m.t now a p bk w rfl rfl r1 r2 r3 r4 hf

set_option maxRecDepth 100000 in
set_option maxHeartbeats 32000000 in
theorem lawFnExactLearn (v : Value) (m : Bm) (now a p bk : Int) (w : World) (hR : RdBm w.heap.size w v m) (hl : lenBm m) :
  Calls Tryz.prog 3 #[v, .int .i64 now, flow a p, .int .i64 bk] w fun e w' => e = .returned (.bool true) ∧ Below w.heap.size w w' := by
 obtain ⟨oa, ca, oba, cba, oRa, cRa, ota, cta, eva⟩ := hR.opn
 subst eva
 obtain ⟨w0, hw0⟩ : ∃ W, ((w.alloc (.cells #[.int .i64 m.j.key, .slice oa m.j.l.length ca, .int .i64 m.j.safe, .int .i64 m.p.key, .slice oba m.p.l.length cba, .slice oRa m.p.ring.length cRa, .slice ota m.t.length cta] 33)).alloc (.cells #[.int .i64 a, .int .i64 p] 35)) = W := ⟨_, rfl⟩
 have B_w0 : Below w.heap.size w w0 := by rw [← hw0]; exact (((Below.refl _ _).alloc (Nat.le_refl _) _).alloc (by simp) _)
 have hz_w0 : w.heap.size + 1 < w0.heap.size := by rw [← hw0]; simp
 have bxa : w0.heap[w.heap.size]? = some (.cells #[.int .i64 m.j.key, .slice oa m.j.l.length ca, .int .i64 m.j.safe, .int .i64 m.p.key, .slice oba m.p.l.length cba, .slice oRa m.p.ring.length cRa, .slice ota m.t.length cta] 33 (0, 0)) := by
  have h := World.alloc_heap_new w (.cells #[.int .i64 m.j.key, .slice oa m.j.l.length ca, .int .i64 m.j.safe, .int .i64 m.p.key, .slice oba m.p.l.length cba, .slice oRa m.p.ring.length cRa, .slice ota m.t.length cta] 33)
  (try rw [World.size_alloc] at h)
  (try rw [World.size_alloc] at h)
  rw [← hw0]
  refine (Below.heap_alloc _ _ _ (by simp)).trans ?_
  exact h
 have bxc : w0.heap[w.heap.size + 1]? = some (.cells #[.int .i64 a, .int .i64 p] 35 (0, 0)) := by
  have h := World.alloc_heap_new (w.alloc (.cells #[.int .i64 m.j.key, .slice oa m.j.l.length ca, .int .i64 m.j.safe, .int .i64 m.p.key, .slice oba m.p.l.length cba, .slice oRa m.p.ring.length cRa, .slice ota m.t.length cta] 33)) (.cells #[.int .i64 a, .int .i64 p] 35)
  (try rw [World.size_alloc] at h)
  (try rw [World.size_alloc] at h)
  rw [← hw0]
  exact h
 have HR := hide hR
 clear hR
 obtain ⟨bxac0, bxac1, bxac2, bxac3, bxac4, bxac5, bxac6⟩ := cellsM7 bxa
 replace bxa := hide bxa
 replace bxc := hide bxc
 have HB_ := hide B_w0
 clear B_w0
 go_enter Tryz.func3, Tryz.ntmps3
 go_wp2_with fail
 clear bxac0 bxac1 bxac2 bxac3 bxac4 bxac5 bxac6
 replace bxa := bxa.out
 replace bxc := bxc.out
 have B_w0 := HB_.out
 clear HB_
 clear hw0
 have hR := HR.out
 clear HR
 refine (szBal_sh _ m w0 ((hR.kept B_w0 (Nat.le_refl _)).le B_w0.size) hl).mono ?_
 rintro e w1 ⟨⟨zz, rfl, hz⟩, hb_w1⟩
 replace bxa := (hb_w1.block _ (by omega)).trans bxa
 replace bxc := (hb_w1.block _ (by omega)).trans bxc
 have B_w1 : Below w.heap.size w w1 := B_w0.trans (hb_w1.mono B_w0.size)
 have hs_w1 : w0.heap.size ≤ w1.heap.size := hb_w1.size
 clear hb_w1 B_w0
 rcases hz with ⟨hz1, hz2⟩ | ⟨hz1, hz2, hf⟩
 ·replace bxa := hide bxa
  replace bxc := hide bxc
  have HB_ := hide B_w1
  clear B_w1
  go_wp2
  go_ret
  exact ⟨rfl, HB_.out⟩
 ·have HS := hide (fun lo hi v' w h hh => specLearn_in lo hi v' m now a p bk w h hh hf)
  have HI := hide (fun lo hi v' w h hh => implLearn_in lo hi v' m now a p bk w h hh hf)
  have hmr := learn0_fit m now a p bk
  generalize learn0M m now a p bk = mr at *
  generalize learnB m now a p bk = t at *
  obtain ⟨bxac0, bxac1, bxac2, bxac3, bxac4, bxac5, bxac6⟩ := cellsM7 bxa
  obtain ⟨bxcc0, bxcc1⟩ := cellsM2 bxc
  replace bxa := hide bxa
  replace bxc := hide bxc
  have HB_ := hide B_w1
  clear B_w1
  go_upto_region 5 with fail
  go_cut [10, 11] from 25 to 34 (fun s10 s11 wx => ∃ B lo hi ow cw obw cbw oRw cRw otw ctw, s10 = .pointer (some ⟨B, 0, none⟩) ∧ s11 = .bool t ∧ Hid (wx.heap[B]? = some (.cells #[.int .i64 mr.j.key, .slice ow mr.j.l.length cw, .int .i64 mr.j.safe, .int .i64 mr.p.key, .slice obw mr.p.l.length cbw, .slice oRw mr.p.ring.length cRw, .slice otw mr.t.length ctw] 47 (0, 0))) ∧ Hid (Below w1.heap.size w1 wx) ∧ w1.heap.size ≤ B ∧ B < wx.heap.size ∧ Hid (OwBm lo hi wx (balv mr.j.key (.slice ow mr.j.l.length cw) mr.j.safe mr.p.key (.slice obw mr.p.l.length cbw) (.slice oRw mr.p.ring.length cRw) (.slice otw mr.t.length ctw)) mr) ∧ w1.heap.size ≤ lo ∧ hi ≤ wx.heap.size ∧ (B < lo ∨ hi ≤ B))
  case first =>
   have hk_bxa : w.heap.size < w1.heap.size := by omega
   have hk_bxc : w.heap.size + 1 < w1.heap.size := by omega
   go_region_held3 (fun w' => w'.cell? ⟨w.heap.size, 0, none⟩ = some (.int .i64 m.j.key) ∧ w'.cell? ⟨w.heap.size, 1, none⟩ = some (.slice oa m.j.l.length ca) ∧ w'.cell? ⟨w.heap.size, 2, none⟩ = some (.int .i64 m.j.safe) ∧ w'.cell? ⟨w.heap.size, 3, none⟩ = some (.int .i64 m.p.key) ∧ w'.cell? ⟨w.heap.size, 4, none⟩ = some (.slice oba m.p.l.length cba) ∧ w'.cell? ⟨w.heap.size, 5, none⟩ = some (.slice oRa m.p.ring.length cRa) ∧ w'.cell? ⟨w.heap.size, 6, none⟩ = some (.slice ota m.t.length cta) ∧ w'.cell? ⟨w.heap.size + 1, 0, none⟩ = some (.int .i64 a) ∧ w'.cell? ⟨w.heap.size + 1, 1, none⟩ = some (.int .i64 p)) (first | with_reducible exact ⟨k2_0, k2_1, k2_2, k2_3, k2_4, k2_5, k2_6, k2_7, k2_8⟩ | with_reducible exact ⟨k1_0, k1_1, k1_2, k1_3, k1_4, k1_5, k1_6, k1_7, k1_8⟩ | with_reducible exact ⟨k0_0, k0_1, k0_2, k0_3, k0_4, k0_5, k0_6, k0_7, k0_8⟩ | with_reducible exact ⟨bxac0, bxac1, bxac2, bxac3, bxac4, bxac5, bxac6, bxcc0, bxcc1⟩ | with_reducible exact ⟨setB_cellB k2_0 (show w.heap.size < w1.heap.size by omega) _ _ _ _ _ _ _, setB_cellB k2_1 (show w.heap.size < w1.heap.size by omega) _ _ _ _ _ _ _, setB_cellB k2_2 (show w.heap.size < w1.heap.size by omega) _ _ _ _ _ _ _, setB_cellB k2_3 (show w.heap.size < w1.heap.size by omega) _ _ _ _ _ _ _, setB_cellB k2_4 (show w.heap.size < w1.heap.size by omega) _ _ _ _ _ _ _, setB_cellB k2_5 (show w.heap.size < w1.heap.size by omega) _ _ _ _ _ _ _, setB_cellB k2_6 (show w.heap.size < w1.heap.size by omega) _ _ _ _ _ _ _, setB_cellB k2_7 (show w.heap.size + 1 < w1.heap.size by omega) _ _ _ _ _ _ _, setB_cellB k2_8 (show w.heap.size + 1 < w1.heap.size by omega) _ _ _ _ _ _ _⟩ | with_reducible exact ⟨setB_cellB k2_0 (show w.heap.size < x0.heap.size by omega) _ _ _ _ _ _ _, setB_cellB k2_1 (show w.heap.size < x0.heap.size by omega) _ _ _ _ _ _ _, setB_cellB k2_2 (show w.heap.size < x0.heap.size by omega) _ _ _ _ _ _ _, setB_cellB k2_3 (show w.heap.size < x0.heap.size by omega) _ _ _ _ _ _ _, setB_cellB k2_4 (show w.heap.size < x0.heap.size by omega) _ _ _ _ _ _ _, setB_cellB k2_5 (show w.heap.size < x0.heap.size by omega) _ _ _ _ _ _ _, setB_cellB k2_6 (show w.heap.size < x0.heap.size by omega) _ _ _ _ _ _ _, setB_cellB k2_7 (show w.heap.size + 1 < x0.heap.size by omega) _ _ _ _ _ _ _, setB_cellB k2_8 (show w.heap.size + 1 < x0.heap.size by omega) _ _ _ _ _ _ _⟩ | with_reducible exact ⟨setB_cellB k2_0 (show w.heap.size < x1.heap.size by omega) _ _ _ _ _ _ _, setB_cellB k2_1 (show w.heap.size < x1.heap.size by omega) _ _ _ _ _ _ _, setB_cellB k2_2 (show w.heap.size < x1.heap.size by omega) _ _ _ _ _ _ _, setB_cellB k2_3 (show w.heap.size < x1.heap.size by omega) _ _ _ _ _ _ _, setB_cellB k2_4 (show w.heap.size < x1.heap.size by omega) _ _ _ _ _ _ _, setB_cellB k2_5 (show w.heap.size < x1.heap.size by omega) _ _ _ _ _ _ _, setB_cellB k2_6 (show w.heap.size < x1.heap.size by omega) _ _ _ _ _ _ _, setB_cellB k2_7 (show w.heap.size + 1 < x1.heap.size by omega) _ _ _ _ _ _ _, setB_cellB k2_8 (show w.heap.size + 1 < x1.heap.size by omega) _ _ _ _ _ _ _⟩ | go_keep) (first | (go_at_call 7; have hc_ := toBal_sh _ m w1.drew ((hR.kept (Below.drew HB_.out) (Nat.le_refl _)).le HB_.out.size) hf; with_reducible refine hc_.mono ?_; clear hc_; rintro e x0 ⟨v2, rfl, in2, hb⟩; have hp0 : Below w1.heap.size w1 x0 := Below.trans (show Below w1.heap.size w1 w1.drew from (Below.drew (Below.refl _ _))) (hb.mono (by simp)); have sp0 : w1.heap.size ≤ x0.heap.size := hp0.size; have hx0 : Below w1.heap.size w1 x0 := hp0; have k0_0 := bC hx0 bxac0 hk_bxa; have k0_1 := bC hx0 bxac1 hk_bxa; have k0_2 := bC hx0 bxac2 hk_bxa; have k0_3 := bC hx0 bxac3 hk_bxa; have k0_4 := bC hx0 bxac4 hk_bxa; have k0_5 := bC hx0 bxac5 hk_bxa; have k0_6 := bC hx0 bxac6 hk_bxa; have k0_7 := bC hx0 bxcc0 hk_bxc; have k0_8 := bC hx0 bxcc1 hk_bxc; (try have hzl0_0 := (Array.getElem?_eq_some_iff.1 hZ0_0).1); clear hb) | (go_at_call 7; have hc_ := toBal_sh _ m (w1.alloc (.cells #[.int .i64 0, .slice none 0 0, .int .i64 0, .int .i64 0, .slice none 0 0, .slice none 0 0, .slice none 0 0] 47)).drew ((hR.kept (Below.drew (HB_.out.alloc HB_.out.size _)) (Nat.le_refl _)).le (Nat.le_trans HB_.out.size (by simp))) hf; with_reducible refine hc_.mono ?_; clear hc_; rintro e x0 ⟨v2, rfl, in2, hb⟩; have hp0 : Below w1.heap.size w1 x0 := Below.trans (show Below w1.heap.size w1 (w1.alloc (.cells #[.int .i64 0, .slice none 0 0, .int .i64 0, .int .i64 0, .slice none 0 0, .slice none 0 0, .slice none 0 0] 47)).drew from (Below.drew ((Below.refl _ _).alloc (Nat.le_refl _) _))) (hb.mono (by simp)); have sp0 : w1.heap.size ≤ x0.heap.size := hp0.size; have hx0 : Below w1.heap.size w1 x0 := hp0; have k0_0 := bC hx0 bxac0 hk_bxa; have k0_1 := bC hx0 bxac1 hk_bxa; have k0_2 := bC hx0 bxac2 hk_bxa; have k0_3 := bC hx0 bxac3 hk_bxa; have k0_4 := bC hx0 bxac4 hk_bxa; have k0_5 := bC hx0 bxac5 hk_bxa; have k0_6 := bC hx0 bxac6 hk_bxa; have k0_7 := bC hx0 bxcc0 hk_bxc; have k0_8 := bC hx0 bxcc1 hk_bxc; have hZ0_0 : x0.heap[w1.heap.size]? = some (.cells #[.int .i64 0, .slice none 0 0, .int .i64 0, .int .i64 0, .slice none 0 0, .slice none 0 0, .slice none 0 0] 47 (0, 0)) := (box_newE0 hb); (try have hzl0_0 := (Array.getElem?_eq_some_iff.1 hZ0_0).1); clear hb) | (go_at_call 8; have hc_ := toFlow_any a p x0; with_reducible refine hc_.mono ?_; clear hc_; rintro e x1 ⟨rfl, hb⟩; have hp1 : Below x0.heap.size x0 x1 := hb; have sp1 : x0.heap.size ≤ x1.heap.size := hp1.size; have hx1 : Below w1.heap.size w1 x1 := hx0.trans (hp1.mono hx0.size); have k1_0 := bC hx1 bxac0 hk_bxa; have k1_1 := bC hx1 bxac1 hk_bxa; have k1_2 := bC hx1 bxac2 hk_bxa; have k1_3 := bC hx1 bxac3 hk_bxa; have k1_4 := bC hx1 bxac4 hk_bxa; have k1_5 := bC hx1 bxac5 hk_bxa; have k1_6 := bC hx1 bxac6 hk_bxa; have k1_7 := bC hx1 bxcc0 hk_bxc; have k1_8 := bC hx1 bxcc1 hk_bxc; (try have hZ1_0 := (hp1.block _ (Array.getElem?_eq_some_iff.1 hZ0_0).1).trans hZ0_0); (try have hzl1_0 := (Array.getElem?_eq_some_iff.1 hZ1_0).1); (try have hzl1_1 := (Array.getElem?_eq_some_iff.1 hZ1_1).1); have rdb := in2.step (Stp.of (lo := 0) (hi := 0) hp1) (.inl (Nat.zero_le _)); clear hb) | (go_at_call 8; have hc_ := toFlow_any a p (x0.alloc (.cells #[.int .i64 0, .slice none 0 0, .int .i64 0, .int .i64 0, .slice none 0 0, .slice none 0 0, .slice none 0 0] 47)); with_reducible refine hc_.mono ?_; clear hc_; rintro e x1 ⟨rfl, hb⟩; have hp1 : Below x0.heap.size x0 x1 := Below.trans (show Below x0.heap.size x0 (x0.alloc (.cells #[.int .i64 0, .slice none 0 0, .int .i64 0, .int .i64 0, .slice none 0 0, .slice none 0 0, .slice none 0 0] 47)) from ((Below.refl _ _).alloc (Nat.le_refl _) _)) (hb.mono (by simp)); have sp1 : x0.heap.size ≤ x1.heap.size := hp1.size; have hx1 : Below w1.heap.size w1 x1 := hx0.trans (hp1.mono hx0.size); have k1_0 := bC hx1 bxac0 hk_bxa; have k1_1 := bC hx1 bxac1 hk_bxa; have k1_2 := bC hx1 bxac2 hk_bxa; have k1_3 := bC hx1 bxac3 hk_bxa; have k1_4 := bC hx1 bxac4 hk_bxa; have k1_5 := bC hx1 bxac5 hk_bxa; have k1_6 := bC hx1 bxac6 hk_bxa; have k1_7 := bC hx1 bxcc0 hk_bxc; have k1_8 := bC hx1 bxcc1 hk_bxc; (try have hZ1_0 := (hp1.block _ (Array.getElem?_eq_some_iff.1 hZ0_0).1).trans hZ0_0); have hZ1_1 : x1.heap[x0.heap.size]? = some (.cells #[.int .i64 0, .slice none 0 0, .int .i64 0, .int .i64 0, .slice none 0 0, .slice none 0 0, .slice none 0 0] 47 (0, 0)) := (box_newE hb); (try have hzl1_0 := (Array.getElem?_eq_some_iff.1 hZ1_0).1); (try have hzl1_1 := (Array.getElem?_eq_some_iff.1 hZ1_1).1); have rdb := in2.step (Stp.of (lo := 0) (hi := 0) hp1) (.inl (Nat.zero_le _)); clear hb) | (go_at_call 6; have hc_ := HS.out _ _ _ x1 rdb (by omega); with_reducible refine hc_.mono ?_; clear hc_; rintro e x2 ⟨vw, rfl, inw, hb⟩; have hp2 : Below x1.heap.size x1 x2 := hb; have sp2 : x1.heap.size ≤ x2.heap.size := hp2.size; have hx2 : Below w1.heap.size w1 x2 := hx1.trans (hp2.mono hx1.size); have k2_0 := bC hx2 bxac0 hk_bxa; have k2_1 := bC hx2 bxac1 hk_bxa; have k2_2 := bC hx2 bxac2 hk_bxa; have k2_3 := bC hx2 bxac3 hk_bxa; have k2_4 := bC hx2 bxac4 hk_bxa; have k2_5 := bC hx2 bxac5 hk_bxa; have k2_6 := bC hx2 bxac6 hk_bxa; have k2_7 := bC hx2 bxcc0 hk_bxc; have k2_8 := bC hx2 bxcc1 hk_bxc; (try have hZ2_0 := (hp2.block _ (Array.getElem?_eq_some_iff.1 hZ1_0).1).trans hZ1_0); (try have hZ2_1 := (hp2.block _ (Array.getElem?_eq_some_iff.1 hZ1_1).1).trans hZ1_1); (try have hzl2_0 := (Array.getElem?_eq_some_iff.1 hZ2_0).1); (try have hzl2_1 := (Array.getElem?_eq_some_iff.1 hZ2_1).1); (try have hzl2_2 := (Array.getElem?_eq_some_iff.1 hZ2_2).1); obtain ⟨ow, cw, obw, cbw, oRw, cRw, otw, ctw, hve⟩ := inw.rd.opn; subst hve; (try (have hq9 := cells7 hZ2_0; obtain ⟨hzc0_0, hzc0_1, hzc0_2, hzc0_3, hzc0_4, hzc0_5, hzc0_6, hzf0_0, hzf0_1, hzf0_2, hzf0_3, hzf0_4, hzf0_5, hzf0_6⟩ := hq9)); (try (have hq9 := cells7 hZ2_1; obtain ⟨hzc1_0, hzc1_1, hzc1_2, hzc1_3, hzc1_4, hzc1_5, hzc1_6, hzf1_0, hzf1_1, hzf1_2, hzf1_3, hzf1_4, hzf1_5, hzf1_6⟩ := hq9)); (try (have hq9 := cells7 hZ2_2; obtain ⟨hzc2_0, hzc2_1, hzc2_2, hzc2_3, hzc2_4, hzc2_5, hzc2_6, hzf2_0, hzf2_1, hzf2_2, hzf2_3, hzf2_4, hzf2_5, hzf2_6⟩ := hq9)); clear hb) | (go_at_call 6; have hc_ := HS.out _ _ _ (x1.alloc (.cells #[.int .i64 0, .slice none 0 0, .int .i64 0, .int .i64 0, .slice none 0 0, .slice none 0 0, .slice none 0 0] 47)) (rdb.step (Stp.of (lo := 0) (hi := 0) ((Below.refl _ _).alloc (Nat.le_refl _) _)) (.inl (Nat.zero_le _))) (by simp; omega); with_reducible refine hc_.mono ?_; clear hc_; rintro e x2 ⟨vw, rfl, inw, hb⟩; have hp2 : Below x1.heap.size x1 x2 := Below.trans (show Below x1.heap.size x1 (x1.alloc (.cells #[.int .i64 0, .slice none 0 0, .int .i64 0, .int .i64 0, .slice none 0 0, .slice none 0 0, .slice none 0 0] 47)) from ((Below.refl _ _).alloc (Nat.le_refl _) _)) (hb.mono (by simp)); have sp2 : x1.heap.size ≤ x2.heap.size := hp2.size; have hx2 : Below w1.heap.size w1 x2 := hx1.trans (hp2.mono hx1.size); have k2_0 := bC hx2 bxac0 hk_bxa; have k2_1 := bC hx2 bxac1 hk_bxa; have k2_2 := bC hx2 bxac2 hk_bxa; have k2_3 := bC hx2 bxac3 hk_bxa; have k2_4 := bC hx2 bxac4 hk_bxa; have k2_5 := bC hx2 bxac5 hk_bxa; have k2_6 := bC hx2 bxac6 hk_bxa; have k2_7 := bC hx2 bxcc0 hk_bxc; have k2_8 := bC hx2 bxcc1 hk_bxc; (try have hZ2_0 := (hp2.block _ (Array.getElem?_eq_some_iff.1 hZ1_0).1).trans hZ1_0); (try have hZ2_1 := (hp2.block _ (Array.getElem?_eq_some_iff.1 hZ1_1).1).trans hZ1_1); have hZ2_2 : x2.heap[x1.heap.size]? = some (.cells #[.int .i64 0, .slice none 0 0, .int .i64 0, .int .i64 0, .slice none 0 0, .slice none 0 0, .slice none 0 0] 47 (0, 0)) := (box_newE hb); (try have hzl2_0 := (Array.getElem?_eq_some_iff.1 hZ2_0).1); (try have hzl2_1 := (Array.getElem?_eq_some_iff.1 hZ2_1).1); (try have hzl2_2 := (Array.getElem?_eq_some_iff.1 hZ2_2).1); obtain ⟨ow, cw, obw, cbw, oRw, cRw, otw, ctw, hve⟩ := inw.rd.opn; subst hve; (try (have hq9 := cells7 hZ2_0; obtain ⟨hzc0_0, hzc0_1, hzc0_2, hzc0_3, hzc0_4, hzc0_5, hzc0_6, hzf0_0, hzf0_1, hzf0_2, hzf0_3, hzf0_4, hzf0_5, hzf0_6⟩ := hq9)); (try (have hq9 := cells7 hZ2_1; obtain ⟨hzc1_0, hzc1_1, hzc1_2, hzc1_3, hzc1_4, hzc1_5, hzc1_6, hzf1_0, hzf1_1, hzf1_2, hzf1_3, hzf1_4, hzf1_5, hzf1_6⟩ := hq9)); (try (have hq9 := cells7 hZ2_2; obtain ⟨hzc2_0, hzc2_1, hzc2_2, hzc2_3, hzc2_4, hzc2_5, hzc2_6, hzf2_0, hzf2_1, hzf2_2, hzf2_3, hzf2_4, hzf2_5, hzf2_6⟩ := hq9)); clear hb))
   all_goals (go_wp2_with fail; go_meet)
   all_goals first
    | with_reducible exact finBal OwBm.stps hZ2_0 hx2 (by omega) inw (by (try simp) <;> omega) (Nat.le_refl _) (by (try simp) <;> omega)
    | with_reducible exact finBal OwBm.stps hZ2_1 hx2 (by omega) inw (by (try simp) <;> omega) (Nat.le_refl _) (by (try simp) <;> omega)
    | with_reducible exact finBal OwBm.stps hZ2_2 hx2 (by omega) inw (by (try simp) <;> omega) (Nat.le_refl _) (by (try simp) <;> omega)
    | with_reducible exact finBaln OwBm.stps hx2 inw (by (try simp) <;> omega) (Nat.le_refl _)
  case rest =>
  obtain ⟨Bw, low, hiw, ow, cw, obw, cbw, oRw, cRw, otw, ctw, rfl, rfl, Hbx_, Hbl_, hB1_w, hB2_w, Hin_, hl1_w, hl2_w, hl3_w⟩ := hcut
  have bxw := Hbx_.out
  have hbl_ := Hbl_.out
  clear Hbx_ Hbl_
  have inw := Hin_.out
  clear Hin_
  clear bxac0 bxac1 bxac2 bxac3 bxac4 bxac5 bxac6
  clear bxcc0 bxcc1
  replace bxa := bxa.out
  replace bxc := bxc.out
  have B_w1 := HB_.out
  clear HB_
  obtain ⟨w2, hwc⟩ : ∃ W, W = wc := ⟨_, rfl⟩
  subst hwc
  replace bxa := (hbl_.block _ (by omega)).trans bxa
  replace bxc := (hbl_.block _ (by omega)).trans bxc
  have B_w2 : Below w.heap.size w w2 := B_w1.trans (hbl_.mono B_w1.size)
  have hs_w2 : w1.heap.size ≤ w2.heap.size := hbl_.size
  clear hbl_ B_w1
  obtain ⟨bxac0, bxac1, bxac2, bxac3, bxac4, bxac5, bxac6⟩ := cellsM7 bxa
  replace bxa := hide bxa
  replace bxc := hide bxc
  replace bxw := hide bxw
  replace inw := hide inw
  have HB_ := hide B_w2
  clear B_w2
  go_wp2_with fail
  clear bxac0 bxac1 bxac2 bxac3 bxac4 bxac5 bxac6
  replace bxa := bxa.out
  replace bxc := bxc.out
  replace bxw := bxw.out
  replace inw := inw.out
  have B_w2 := HB_.out
  clear HB_
  refine (toBal_sh _ m w2 ((hR.kept B_w2 (Nat.le_refl _)).le B_w2.size) hf).mono ?_
  rintro e w3 ⟨vx, rfl, inx, hb_w3⟩
  replace bxa := (hb_w3.block _ (by omega)).trans bxa
  replace bxc := (hb_w3.block _ (by omega)).trans bxc
  replace bxw := (hb_w3.block _ (by omega)).trans bxw
  replace inw := inw.step (Stp.of (lo := 0) (hi := 0) hb_w3) (.inl (Nat.zero_le _))
  have B_w3 : Below w.heap.size w w3 := B_w2.trans (hb_w3.mono B_w2.size)
  have hs_w3 : w2.heap.size ≤ w3.heap.size := hb_w3.size
  clear hb_w3 B_w2
  obtain ⟨ox, cx, obx, cbx, oRx, cRx, otx, ctx, evx⟩ := inx.rd.opn
  subst evx
  obtain ⟨w4, hW_w4⟩ : ∃ W, w3.alloc (.cells #[.int .i64 m.j.key, .slice ox m.j.l.length cx, .int .i64 m.j.safe, .int .i64 m.p.key, .slice obx m.p.l.length cbx, .slice oRx m.p.ring.length cRx, .slice otx m.t.length ctx] 47) = W := ⟨_, rfl⟩
  have bxx : w4.heap[w3.heap.size]? = some (.cells #[.int .i64 m.j.key, .slice ox m.j.l.length cx, .int .i64 m.j.safe, .int .i64 m.p.key, .slice obx m.p.l.length cbx, .slice oRx m.p.ring.length cRx, .slice otx m.t.length ctx] 47 (0, 0)) := by rw [← hW_w4]; exact World.alloc_heap_new w3 _
  have hb_w4 : Below w3.heap.size w3 w4 := by rw [← hW_w4]; exact (Below.refl _ _).alloc (Nat.le_refl _) _
  have hz_w4 : w3.heap.size < w4.heap.size := by rw [← hW_w4]; simp
  replace bxa := (hb_w4.block _ (by omega)).trans bxa
  replace bxc := (hb_w4.block _ (by omega)).trans bxc
  replace bxw := (hb_w4.block _ (by omega)).trans bxw
  replace inw := inw.step (Stp.of (lo := 0) (hi := 0) hb_w4) (.inl (Nat.zero_le _))
  replace inx := inx.step (Stp.of (lo := 0) (hi := 0) hb_w4) (.inl (Nat.zero_le _))
  have B_w4 : Below w.heap.size w w4 := B_w3.trans (hb_w4.mono B_w3.size)
  have hs_w4 : w3.heap.size ≤ w4.heap.size := hb_w4.size
  clear hb_w4 B_w3
  obtain ⟨bxxc0, bxxc1, bxxc2, bxxc3, bxxc4, bxxc5, bxxc6⟩ := cellsM7 bxx
  obtain ⟨bxcc0, bxcc1⟩ := cellsM2 bxc
  replace bxa := hide bxa
  replace bxc := hide bxc
  replace bxw := hide bxw
  replace inw := hide inw
  replace inx := hide inx
  replace bxx := hide bxx
  have HB_ := hide B_w4
  clear B_w4
  go_upto_region 7 with fail
  go_cut [13, 14] from 37 to 45 (fun s13 s14 wx => ∃ B lo hi og cg obg cbg oRg cRg otg ctg, s13 = .pointer (some ⟨B, 0, none⟩) ∧ s14 = .bool t ∧ Hid (wx.heap[B]? = some (.cells #[.int .i64 mr.j.key, .slice og mr.j.l.length cg, .int .i64 mr.j.safe, .int .i64 mr.p.key, .slice obg mr.p.l.length cbg, .slice oRg mr.p.ring.length cRg, .slice otg mr.t.length ctg] 47 (0, 0))) ∧ Hid (Below w4.heap.size w4 wx) ∧ w4.heap.size ≤ B ∧ B < wx.heap.size ∧ Hid (InBm lo hi wx (balv mr.j.key (.slice og mr.j.l.length cg) mr.j.safe mr.p.key (.slice obg mr.p.l.length cbg) (.slice oRg mr.p.ring.length cRg) (.slice otg mr.t.length ctg)) mr) ∧ w4.heap.size ≤ lo ∧ hi ≤ wx.heap.size ∧ (B < lo ∨ hi ≤ B))
  case first =>
   have hk_bxx : w3.heap.size < w4.heap.size := by omega
   have hk_bxc : w.heap.size + 1 < w4.heap.size := by omega
   go_region_held3 (fun w' => w'.cell? ⟨w3.heap.size, 0, none⟩ = some (.int .i64 m.j.key) ∧ w'.cell? ⟨w3.heap.size, 1, none⟩ = some (.slice ox m.j.l.length cx) ∧ w'.cell? ⟨w3.heap.size, 2, none⟩ = some (.int .i64 m.j.safe) ∧ w'.cell? ⟨w3.heap.size, 3, none⟩ = some (.int .i64 m.p.key) ∧ w'.cell? ⟨w3.heap.size, 4, none⟩ = some (.slice obx m.p.l.length cbx) ∧ w'.cell? ⟨w3.heap.size, 5, none⟩ = some (.slice oRx m.p.ring.length cRx) ∧ w'.cell? ⟨w3.heap.size, 6, none⟩ = some (.slice otx m.t.length ctx) ∧ w'.cell? ⟨w.heap.size + 1, 0, none⟩ = some (.int .i64 a) ∧ w'.cell? ⟨w.heap.size + 1, 1, none⟩ = some (.int .i64 p)) (first | with_reducible exact ⟨k1_0, k1_1, k1_2, k1_3, k1_4, k1_5, k1_6, k1_7, k1_8⟩ | with_reducible exact ⟨k0_0, k0_1, k0_2, k0_3, k0_4, k0_5, k0_6, k0_7, k0_8⟩ | with_reducible exact ⟨bxxc0, bxxc1, bxxc2, bxxc3, bxxc4, bxxc5, bxxc6, bxcc0, bxcc1⟩ | with_reducible exact ⟨setB_cellB k1_0 (show w3.heap.size < w4.heap.size by omega) _ _ _ _ _ _ _, setB_cellB k1_1 (show w3.heap.size < w4.heap.size by omega) _ _ _ _ _ _ _, setB_cellB k1_2 (show w3.heap.size < w4.heap.size by omega) _ _ _ _ _ _ _, setB_cellB k1_3 (show w3.heap.size < w4.heap.size by omega) _ _ _ _ _ _ _, setB_cellB k1_4 (show w3.heap.size < w4.heap.size by omega) _ _ _ _ _ _ _, setB_cellB k1_5 (show w3.heap.size < w4.heap.size by omega) _ _ _ _ _ _ _, setB_cellB k1_6 (show w3.heap.size < w4.heap.size by omega) _ _ _ _ _ _ _, setB_cellB k1_7 (show w.heap.size + 1 < w4.heap.size by omega) _ _ _ _ _ _ _, setB_cellB k1_8 (show w.heap.size + 1 < w4.heap.size by omega) _ _ _ _ _ _ _⟩ | with_reducible exact ⟨setB_cellB k1_0 (show w3.heap.size < x0.heap.size by omega) _ _ _ _ _ _ _, setB_cellB k1_1 (show w3.heap.size < x0.heap.size by omega) _ _ _ _ _ _ _, setB_cellB k1_2 (show w3.heap.size < x0.heap.size by omega) _ _ _ _ _ _ _, setB_cellB k1_3 (show w3.heap.size < x0.heap.size by omega) _ _ _ _ _ _ _, setB_cellB k1_4 (show w3.heap.size < x0.heap.size by omega) _ _ _ _ _ _ _, setB_cellB k1_5 (show w3.heap.size < x0.heap.size by omega) _ _ _ _ _ _ _, setB_cellB k1_6 (show w3.heap.size < x0.heap.size by omega) _ _ _ _ _ _ _, setB_cellB k1_7 (show w.heap.size + 1 < x0.heap.size by omega) _ _ _ _ _ _ _, setB_cellB k1_8 (show w.heap.size + 1 < x0.heap.size by omega) _ _ _ _ _ _ _⟩ | go_keep) (first | (go_at_call 8; have hc_ := toFlow_any a p w4.drew; with_reducible refine hc_.mono ?_; clear hc_; rintro e x0 ⟨rfl, hb⟩; have hp0 : Below w4.heap.size w4 x0 := Below.trans (show Below w4.heap.size w4 w4.drew from (Below.drew (Below.refl _ _))) (hb.mono (by simp)); have sp0 : w4.heap.size ≤ x0.heap.size := hp0.size; have hx0 : Below w4.heap.size w4 x0 := hp0; have k0_0 := bC hx0 bxxc0 hk_bxx; have k0_1 := bC hx0 bxxc1 hk_bxx; have k0_2 := bC hx0 bxxc2 hk_bxx; have k0_3 := bC hx0 bxxc3 hk_bxx; have k0_4 := bC hx0 bxxc4 hk_bxx; have k0_5 := bC hx0 bxxc5 hk_bxx; have k0_6 := bC hx0 bxxc6 hk_bxx; have k0_7 := bC hx0 bxcc0 hk_bxc; have k0_8 := bC hx0 bxcc1 hk_bxc; (try have hzl0_0 := (Array.getElem?_eq_some_iff.1 hZ0_0).1); have rdx := inx.out.step (Stp.of (lo := 0) (hi := 0) hp0) (.inl (Nat.zero_le _)); clear hb) | (go_at_call 8; have hc_ := toFlow_any a p (w4.alloc (.cells #[.int .i64 0, .slice none 0 0, .int .i64 0, .int .i64 0, .slice none 0 0, .slice none 0 0, .slice none 0 0] 47)).drew; with_reducible refine hc_.mono ?_; clear hc_; rintro e x0 ⟨rfl, hb⟩; have hp0 : Below w4.heap.size w4 x0 := Below.trans (show Below w4.heap.size w4 (w4.alloc (.cells #[.int .i64 0, .slice none 0 0, .int .i64 0, .int .i64 0, .slice none 0 0, .slice none 0 0, .slice none 0 0] 47)).drew from (Below.drew ((Below.refl _ _).alloc (Nat.le_refl _) _))) (hb.mono (by simp)); have sp0 : w4.heap.size ≤ x0.heap.size := hp0.size; have hx0 : Below w4.heap.size w4 x0 := hp0; have k0_0 := bC hx0 bxxc0 hk_bxx; have k0_1 := bC hx0 bxxc1 hk_bxx; have k0_2 := bC hx0 bxxc2 hk_bxx; have k0_3 := bC hx0 bxxc3 hk_bxx; have k0_4 := bC hx0 bxxc4 hk_bxx; have k0_5 := bC hx0 bxxc5 hk_bxx; have k0_6 := bC hx0 bxxc6 hk_bxx; have k0_7 := bC hx0 bxcc0 hk_bxc; have k0_8 := bC hx0 bxcc1 hk_bxc; have hZ0_0 : x0.heap[w4.heap.size]? = some (.cells #[.int .i64 0, .slice none 0 0, .int .i64 0, .int .i64 0, .slice none 0 0, .slice none 0 0, .slice none 0 0] 47 (0, 0)) := (box_newE0 hb); (try have hzl0_0 := (Array.getElem?_eq_some_iff.1 hZ0_0).1); have rdx := inx.out.step (Stp.of (lo := 0) (hi := 0) hp0) (.inl (Nat.zero_le _)); clear hb) | (go_at_call 9; have hc_ := HI.out _ _ _ x0 rdx (by omega); with_reducible refine hc_.mono ?_; clear hc_; rintro e x1 ⟨vg, rfl, ing, hb⟩; have hp1 : Below x0.heap.size x0 x1 := hb; have sp1 : x0.heap.size ≤ x1.heap.size := hp1.size; have hx1 : Below w4.heap.size w4 x1 := hx0.trans (hp1.mono hx0.size); have k1_0 := bC hx1 bxxc0 hk_bxx; have k1_1 := bC hx1 bxxc1 hk_bxx; have k1_2 := bC hx1 bxxc2 hk_bxx; have k1_3 := bC hx1 bxxc3 hk_bxx; have k1_4 := bC hx1 bxxc4 hk_bxx; have k1_5 := bC hx1 bxxc5 hk_bxx; have k1_6 := bC hx1 bxxc6 hk_bxx; have k1_7 := bC hx1 bxcc0 hk_bxc; have k1_8 := bC hx1 bxcc1 hk_bxc; (try have hZ1_0 := (hp1.block _ (Array.getElem?_eq_some_iff.1 hZ0_0).1).trans hZ0_0); (try have hzl1_0 := (Array.getElem?_eq_some_iff.1 hZ1_0).1); (try have hzl1_1 := (Array.getElem?_eq_some_iff.1 hZ1_1).1); obtain ⟨og, cg, obg, cbg, oRg, cRg, otg, ctg, hve⟩ := ing.rd.opn; subst hve; (try (have hq9 := cells7 hZ1_0; obtain ⟨hzc0_0, hzc0_1, hzc0_2, hzc0_3, hzc0_4, hzc0_5, hzc0_6, hzf0_0, hzf0_1, hzf0_2, hzf0_3, hzf0_4, hzf0_5, hzf0_6⟩ := hq9)); (try (have hq9 := cells7 hZ1_1; obtain ⟨hzc1_0, hzc1_1, hzc1_2, hzc1_3, hzc1_4, hzc1_5, hzc1_6, hzf1_0, hzf1_1, hzf1_2, hzf1_3, hzf1_4, hzf1_5, hzf1_6⟩ := hq9)); clear hb) | (go_at_call 9; have hc_ := HI.out _ _ _ (x0.alloc (.cells #[.int .i64 0, .slice none 0 0, .int .i64 0, .int .i64 0, .slice none 0 0, .slice none 0 0, .slice none 0 0] 47)) (rdx.step (Stp.of (lo := 0) (hi := 0) ((Below.refl _ _).alloc (Nat.le_refl _) _)) (.inl (Nat.zero_le _))) (by simp; omega); with_reducible refine hc_.mono ?_; clear hc_; rintro e x1 ⟨vg, rfl, ing, hb⟩; have hp1 : Below x0.heap.size x0 x1 := Below.trans (show Below x0.heap.size x0 (x0.alloc (.cells #[.int .i64 0, .slice none 0 0, .int .i64 0, .int .i64 0, .slice none 0 0, .slice none 0 0, .slice none 0 0] 47)) from ((Below.refl _ _).alloc (Nat.le_refl _) _)) (hb.mono (by simp)); have sp1 : x0.heap.size ≤ x1.heap.size := hp1.size; have hx1 : Below w4.heap.size w4 x1 := hx0.trans (hp1.mono hx0.size); have k1_0 := bC hx1 bxxc0 hk_bxx; have k1_1 := bC hx1 bxxc1 hk_bxx; have k1_2 := bC hx1 bxxc2 hk_bxx; have k1_3 := bC hx1 bxxc3 hk_bxx; have k1_4 := bC hx1 bxxc4 hk_bxx; have k1_5 := bC hx1 bxxc5 hk_bxx; have k1_6 := bC hx1 bxxc6 hk_bxx; have k1_7 := bC hx1 bxcc0 hk_bxc; have k1_8 := bC hx1 bxcc1 hk_bxc; (try have hZ1_0 := (hp1.block _ (Array.getElem?_eq_some_iff.1 hZ0_0).1).trans hZ0_0); have hZ1_1 : x1.heap[x0.heap.size]? = some (.cells #[.int .i64 0, .slice none 0 0, .int .i64 0, .int .i64 0, .slice none 0 0, .slice none 0 0, .slice none 0 0] 47 (0, 0)) := (box_newE hb); (try have hzl1_0 := (Array.getElem?_eq_some_iff.1 hZ1_0).1); (try have hzl1_1 := (Array.getElem?_eq_some_iff.1 hZ1_1).1); obtain ⟨og, cg, obg, cbg, oRg, cRg, otg, ctg, hve⟩ := ing.rd.opn; subst hve; (try (have hq9 := cells7 hZ1_0; obtain ⟨hzc0_0, hzc0_1, hzc0_2, hzc0_3, hzc0_4, hzc0_5, hzc0_6, hzf0_0, hzf0_1, hzf0_2, hzf0_3, hzf0_4, hzf0_5, hzf0_6⟩ := hq9)); (try (have hq9 := cells7 hZ1_1; obtain ⟨hzc1_0, hzc1_1, hzc1_2, hzc1_3, hzc1_4, hzc1_5, hzc1_6, hzf1_0, hzf1_1, hzf1_2, hzf1_3, hzf1_4, hzf1_5, hzf1_6⟩ := hq9)); clear hb))
   all_goals (go_wp2_with fail; go_meet)
   all_goals first
    | with_reducible exact finBal InBm.stps hZ1_0 hx1 (by omega) ing (by (try simp) <;> omega) (Nat.le_refl _) (by (try simp) <;> omega)
    | with_reducible exact finBal InBm.stps hZ1_1 hx1 (by omega) ing (by (try simp) <;> omega) (Nat.le_refl _) (by (try simp) <;> omega)
    | with_reducible exact finBaln InBm.stps hx1 ing (by (try simp) <;> omega) (Nat.le_refl _)
  case rest =>
  obtain ⟨Bg, log, hig, og, cg, obg, cbg, oRg, cRg, otg, ctg, rfl, rfl, Hbx_, Hbl_, hB1_g, hB2_g, Hin_, hl1_g, hl2_g, hl3_g⟩ := hcut
  have bxg := Hbx_.out
  have hbl_ := Hbl_.out
  clear Hbx_ Hbl_
  have ing := Hin_.out
  clear Hin_
  clear bxxc0 bxxc1 bxxc2 bxxc3 bxxc4 bxxc5 bxxc6
  clear bxcc0 bxcc1
  replace bxa := bxa.out
  replace bxc := bxc.out
  replace bxw := bxw.out
  replace inw := inw.out
  replace inx := inx.out
  replace bxx := bxx.out
  have B_w4 := HB_.out
  clear HB_
  obtain ⟨w5, hwc⟩ : ∃ W, W = wc := ⟨_, rfl⟩
  subst hwc
  replace bxa := (hbl_.block _ (by omega)).trans bxa
  replace bxc := (hbl_.block _ (by omega)).trans bxc
  replace bxw := (hbl_.block _ (by omega)).trans bxw
  replace inw := inw.step (Stp.of (lo := 0) (hi := 0) hbl_) (.inl (Nat.zero_le _))
  replace inx := inx.step (Stp.of (lo := 0) (hi := 0) hbl_) (.inl (Nat.zero_le _))
  replace bxx := (hbl_.block _ (by omega)).trans bxx
  have B_w5 : Below w.heap.size w w5 := B_w4.trans (hbl_.mono B_w4.size)
  have hs_w5 : w4.heap.size ≤ w5.heap.size := hbl_.size
  clear hbl_ B_w4
  clear hW_w4
  obtain ⟨bxgc0, bxgc1, bxgc2, bxgc3, bxgc4, bxgc5, bxgc6⟩ := cellsM7 bxg
  obtain ⟨bxwc0, bxwc1, bxwc2, bxwc3, bxwc4, bxwc5, bxwc6⟩ := cellsM7 bxw
  replace bxa := hide bxa
  replace bxc := hide bxc
  replace bxw := hide bxw
  replace inw := hide inw
  replace inx := hide inx
  replace bxx := hide bxx
  replace bxg := hide bxg
  replace ing := hide ing
  have HB_ := hide B_w5
  clear B_w5
  go_wp2_with fail
  clear bxgc0 bxgc1 bxgc2 bxgc3 bxgc4 bxgc5 bxgc6
  clear bxwc0 bxwc1 bxwc2 bxwc3 bxwc4 bxwc5 bxwc6
  replace bxa := bxa.out
  replace bxc := bxc.out
  replace bxw := bxw.out
  replace inw := inw.out
  replace inx := inx.out
  replace bxx := bxx.out
  replace bxg := bxg.out
  replace ing := ing.out
  have B_w5 := HB_.out
  clear HB_
  refine (eqBal_sh _ _ mr w5 (ing.rd.le (by omega)) (inw.rd.le (by omega)) hmr.b0).mono ?_
  rintro e w6 ⟨rfl, hb_w6⟩
  replace bxa := (hb_w6.block _ (by omega)).trans bxa
  replace bxc := (hb_w6.block _ (by omega)).trans bxc
  replace bxw := (hb_w6.block _ (by omega)).trans bxw
  replace inw := inw.step (Stp.of (lo := 0) (hi := 0) hb_w6) (.inl (Nat.zero_le _))
  replace inx := inx.step (Stp.of (lo := 0) (hi := 0) hb_w6) (.inl (Nat.zero_le _))
  replace bxx := (hb_w6.block _ (by omega)).trans bxx
  replace bxg := (hb_w6.block _ (by omega)).trans bxg
  replace ing := ing.step (Stp.of (lo := 0) (hi := 0) hb_w6) (.inl (Nat.zero_le _))
  have B_w6 : Below w.heap.size w w6 := B_w5.trans (hb_w6.mono B_w5.size)
  have hs_w6 : w5.heap.size ≤ w6.heap.size := hb_w6.size
  clear hb_w6 B_w5
  obtain ⟨bxac0, bxac1, bxac2, bxac3, bxac4, bxac5, bxac6⟩ := cellsM7 bxa
  obtain ⟨bxxc0, bxxc1, bxxc2, bxxc3, bxxc4, bxxc5, bxxc6⟩ := cellsM7 bxx
  replace bxa := hide bxa
  replace bxc := hide bxc
  replace bxw := hide bxw
  replace inw := hide inw
  replace inx := hide inx
  replace bxx := hide bxx
  replace bxg := hide bxg
  replace ing := hide ing
  have HB_ := hide B_w6
  clear B_w6
  go_wp2
  have hk_bxa : w.heap.size < w6.heap.size := by omega
  have hk_bxx : w3.heap.size < w6.heap.size := by omega
  go_region_held3 (fun w' => w'.cell? ⟨w.heap.size, 0, none⟩ = some (.int .i64 m.j.key) ∧ w'.cell? ⟨w.heap.size, 1, none⟩ = some (.slice oa m.j.l.length ca) ∧ w'.cell? ⟨w.heap.size, 2, none⟩ = some (.int .i64 m.j.safe) ∧ w'.cell? ⟨w.heap.size, 3, none⟩ = some (.int .i64 m.p.key) ∧ w'.cell? ⟨w.heap.size, 4, none⟩ = some (.slice oba m.p.l.length cba) ∧ w'.cell? ⟨w.heap.size, 5, none⟩ = some (.slice oRa m.p.ring.length cRa) ∧ w'.cell? ⟨w.heap.size, 6, none⟩ = some (.slice ota m.t.length cta) ∧ w'.cell? ⟨w3.heap.size, 0, none⟩ = some (.int .i64 m.j.key) ∧ w'.cell? ⟨w3.heap.size, 1, none⟩ = some (.slice ox m.j.l.length cx) ∧ w'.cell? ⟨w3.heap.size, 2, none⟩ = some (.int .i64 m.j.safe) ∧ w'.cell? ⟨w3.heap.size, 3, none⟩ = some (.int .i64 m.p.key) ∧ w'.cell? ⟨w3.heap.size, 4, none⟩ = some (.slice obx m.p.l.length cbx) ∧ w'.cell? ⟨w3.heap.size, 5, none⟩ = some (.slice oRx m.p.ring.length cRx) ∧ w'.cell? ⟨w3.heap.size, 6, none⟩ = some (.slice otx m.t.length ctx)) (first | exact ⟨k1_0, k1_1, k1_2, k1_3, k1_4, k1_5, k1_6, k1_7, k1_8, k1_9, k1_10, k1_11, k1_12, k1_13⟩ | exact ⟨k0_0, k0_1, k0_2, k0_3, k0_4, k0_5, k0_6, k0_7, k0_8, k0_9, k0_10, k0_11, k0_12, k0_13⟩ | exact ⟨bxac0, bxac1, bxac2, bxac3, bxac4, bxac5, bxac6, bxxc0, bxxc1, bxxc2, bxxc3, bxxc4, bxxc5, bxxc6⟩) (first | (go_at_call 7; refine (toBal_sh _ m w6.drew ((hR.kept (Below.drew HB_.out) (Nat.le_refl _)).le HB_.out.size) hf).mono ?_; rintro e w7 ⟨va, rfl, ina, hb⟩; have hbx : Below w6.heap.size w6 w7 := (Below.drew (Below.refl _ _)).trans hb; have rdx := inx.out.rd.kept hbx (by omega); have szx := hbx.size; have hx0 : Below w6.heap.size w6 w7 := (Below.drew (Below.refl _ _)).trans hb; clear hb; have k0_0 := (hx0.cell (p := ⟨w.heap.size, 0, none⟩) hk_bxa).trans bxac0; have k0_1 := (hx0.cell (p := ⟨w.heap.size, 1, none⟩) hk_bxa).trans bxac1; have k0_2 := (hx0.cell (p := ⟨w.heap.size, 2, none⟩) hk_bxa).trans bxac2; have k0_3 := (hx0.cell (p := ⟨w.heap.size, 3, none⟩) hk_bxa).trans bxac3; have k0_4 := (hx0.cell (p := ⟨w.heap.size, 4, none⟩) hk_bxa).trans bxac4; have k0_5 := (hx0.cell (p := ⟨w.heap.size, 5, none⟩) hk_bxa).trans bxac5; have k0_6 := (hx0.cell (p := ⟨w.heap.size, 6, none⟩) hk_bxa).trans bxac6; have k0_7 := (hx0.cell (p := ⟨w3.heap.size, 0, none⟩) hk_bxx).trans bxxc0; have k0_8 := (hx0.cell (p := ⟨w3.heap.size, 1, none⟩) hk_bxx).trans bxxc1; have k0_9 := (hx0.cell (p := ⟨w3.heap.size, 2, none⟩) hk_bxx).trans bxxc2; have k0_10 := (hx0.cell (p := ⟨w3.heap.size, 3, none⟩) hk_bxx).trans bxxc3; have k0_11 := (hx0.cell (p := ⟨w3.heap.size, 4, none⟩) hk_bxx).trans bxxc4; have k0_12 := (hx0.cell (p := ⟨w3.heap.size, 5, none⟩) hk_bxx).trans bxxc5; have k0_13 := (hx0.cell (p := ⟨w3.heap.size, 6, none⟩) hk_bxx).trans bxxc6) | (go_at_call 10; refine (eqBal_sh _ _ m w7 (rdx.le (by omega)) (ina.rd.le (Nat.le_refl _)) hf).mono ?_; rintro e w8 ⟨rfl, hb⟩; have hx1 : Below w6.heap.size w6 w8 := hx0.trans (hb.mono hx0.size); clear hb; have k1_0 := (hx1.cell (p := ⟨w.heap.size, 0, none⟩) hk_bxa).trans bxac0; have k1_1 := (hx1.cell (p := ⟨w.heap.size, 1, none⟩) hk_bxa).trans bxac1; have k1_2 := (hx1.cell (p := ⟨w.heap.size, 2, none⟩) hk_bxa).trans bxac2; have k1_3 := (hx1.cell (p := ⟨w.heap.size, 3, none⟩) hk_bxa).trans bxac3; have k1_4 := (hx1.cell (p := ⟨w.heap.size, 4, none⟩) hk_bxa).trans bxac4; have k1_5 := (hx1.cell (p := ⟨w.heap.size, 5, none⟩) hk_bxa).trans bxac5; have k1_6 := (hx1.cell (p := ⟨w.heap.size, 6, none⟩) hk_bxa).trans bxac6; have k1_7 := (hx1.cell (p := ⟨w3.heap.size, 0, none⟩) hk_bxx).trans bxxc0; have k1_8 := (hx1.cell (p := ⟨w3.heap.size, 1, none⟩) hk_bxx).trans bxxc1; have k1_9 := (hx1.cell (p := ⟨w3.heap.size, 2, none⟩) hk_bxx).trans bxxc2; have k1_10 := (hx1.cell (p := ⟨w3.heap.size, 3, none⟩) hk_bxx).trans bxxc3; have k1_11 := (hx1.cell (p := ⟨w3.heap.size, 4, none⟩) hk_bxx).trans bxxc4; have k1_12 := (hx1.cell (p := ⟨w3.heap.size, 5, none⟩) hk_bxx).trans bxxc5; have k1_13 := (hx1.cell (p := ⟨w3.heap.size, 6, none⟩) hk_bxx).trans bxxc6))
  clear k0_0 k0_1 k0_2 k0_3 k0_4 k0_5 k0_6 k0_7 k0_8 k0_9 k0_10 k0_11 k0_12 k0_13
  clear k1_0 k1_1 k1_2 k1_3 k1_4 k1_5 k1_6 k1_7 k1_8 k1_9 k1_10 k1_11 k1_12 k1_13
  clear hk_bxa hk_bxx hx0
  clear bxac0 bxac1 bxac2 bxac3 bxac4 bxac5 bxac6
  clear bxxc0 bxxc1 bxxc2 bxxc3 bxxc4 bxxc5 bxxc6
  replace bxa := bxa.out
  replace bxc := bxc.out
  replace bxw := bxw.out
  replace inw := inw.out
  replace inx := inx.out
  replace bxx := bxx.out
  replace bxg := bxg.out
  replace ing := ing.out
  have B_w6 := HB_.out
  clear HB_
  replace bxa := (hx1.block _ (by omega)).trans bxa
  replace bxc := (hx1.block _ (by omega)).trans bxc
  replace bxw := (hx1.block _ (by omega)).trans bxw
  replace inw := inw.step (Stp.of (lo := 0) (hi := 0) hx1) (.inl (Nat.zero_le _))
  replace inx := inx.step (Stp.of (lo := 0) (hi := 0) hx1) (.inl (Nat.zero_le _))
  replace bxx := (hx1.block _ (by omega)).trans bxx
  replace bxg := (hx1.block _ (by omega)).trans bxg
  replace ing := ing.step (Stp.of (lo := 0) (hi := 0) hx1) (.inl (Nat.zero_le _))
  have B_w8 : Below w.heap.size w w8 := B_w6.trans (hx1.mono B_w6.size)
  have hs_w8 : w6.heap.size ≤ w8.heap.size := hx1.size
  clear hx1 B_w6
  clear rdx szx ina hbx
  obtain ⟨bxxc0, bxxc1, bxxc2, bxxc3, bxxc4, bxxc5, bxxc6⟩ := cellsM7 bxx
  replace bxa := hide bxa
  replace bxc := hide bxc
  replace bxw := hide bxw
  replace inw := hide inw
  replace inx := hide inx
  replace bxx := hide bxx
  replace bxg := hide bxg
  replace ing := hide ing
  have HB_ := hide B_w8
  clear B_w8
  go_wp2_with fail
  clear bxxc0 bxxc1 bxxc2 bxxc3 bxxc4 bxxc5 bxxc6
  replace bxa := bxa.out
  replace bxc := bxc.out
  replace bxw := bxw.out
  replace inw := inw.out
  replace inx := inx.out
  replace bxx := bxx.out
  replace bxg := bxg.out
  replace ing := ing.out
  have B_w8 := HB_.out
  clear HB_
  refine (markBal_sh0 (w2.heap.size) (w3.heap.size) _ m 1 w8 inx (by omega) (by omega) (by omega) hf).mono ?_
  rintro e w9 ⟨rfl, _, sp_w9⟩
  clear bxx
  replace bxa := sp_w9.box bxa (by omega)
  replace bxc := sp_w9.box bxc (by omega)
  replace bxw := sp_w9.box bxw (by omega)
  replace inw := inw.step sp_w9 (by omega)
  replace bxg := sp_w9.box bxg (by omega)
  replace ing := ing.step sp_w9 (by omega)
  have B_w9 : Below w.heap.size w w9 := B_w8.trans (sp_w9.below (by omega) (by omega))
  have hs_w9 : w8.heap.size ≤ w9.heap.size := sp_w9.size
  clear sp_w9 B_w8
  clear inx
  have hnb := nBm_bd0 hf
  have hk1 : ¬ (1 + nBm m < 0) := by omega
  have hk0 : (0 : Int) ≤ 1 + nBm m := by omega
  clear hnb
  obtain ⟨bxgc0, bxgc1, bxgc2, bxgc3, bxgc4, bxgc5, bxgc6⟩ := cellsM7 bxg
  obtain ⟨bxwc0, bxwc1, bxwc2, bxwc3, bxwc4, bxwc5, bxwc6⟩ := cellsM7 bxw
  replace bxa := hide bxa
  replace bxc := hide bxc
  replace bxw := hide bxw
  replace inw := hide inw
  replace bxg := hide bxg
  replace ing := hide ing
  have HB_ := hide B_w9
  clear B_w9
  go_wp2_with fail
  clear bxgc0 bxgc1 bxgc2 bxgc3 bxgc4 bxgc5 bxgc6
  clear bxwc0 bxwc1 bxwc2 bxwc3 bxwc4 bxwc5 bxwc6
  replace bxa := bxa.out
  replace bxc := bxc.out
  replace bxw := bxw.out
  replace inw := inw.out
  replace bxg := bxg.out
  replace ing := ing.out
  have B_w9 := HB_.out
  clear HB_
  refine (eqBal_sh _ _ mr w9 (ing.rd.le (by omega)) (inw.rd.le (by omega)) hmr.b0).mono ?_
  rintro e w10 ⟨rfl, hb_w10⟩
  replace bxa := (hb_w10.block _ (by omega)).trans bxa
  replace bxc := (hb_w10.block _ (by omega)).trans bxc
  replace bxw := (hb_w10.block _ (by omega)).trans bxw
  replace inw := inw.step (Stp.of (lo := 0) (hi := 0) hb_w10) (.inl (Nat.zero_le _))
  replace bxg := (hb_w10.block _ (by omega)).trans bxg
  replace ing := ing.step (Stp.of (lo := 0) (hi := 0) hb_w10) (.inl (Nat.zero_le _))
  have B_w10 : Below w.heap.size w w10 := B_w9.trans (hb_w10.mono B_w9.size)
  have hs_w10 : w9.heap.size ≤ w10.heap.size := hb_w10.size
  clear hb_w10 B_w9
  obtain ⟨bxgc0, bxgc1, bxgc2, bxgc3, bxgc4, bxgc5, bxgc6⟩ := cellsM7 bxg
  replace bxa := hide bxa
  replace bxc := hide bxc
  replace bxw := hide bxw
  replace inw := hide inw
  replace bxg := hide bxg
  replace ing := hide ing
  have HB_ := hide B_w10
  clear B_w10
  go_wp2_with fail
  clear bxgc0 bxgc1 bxgc2 bxgc3 bxgc4 bxgc5 bxgc6
  replace bxa := bxa.out
  replace bxc := bxc.out
  replace bxw := bxw.out
  replace inw := inw.out
  replace bxg := bxg.out
  replace ing := ing.out
  have B_w10 := HB_.out
  clear HB_
  refine (markBal_sh0 (log) (hig) _ mr 1 w10 ing (by omega) (by omega) (by omega) hmr.b0).mono ?_
  rintro e w11 ⟨rfl, ing', sp_w11⟩
  replace bxa := sp_w11.box bxa (by omega)
  replace bxc := sp_w11.box bxc (by omega)
  replace bxw := sp_w11.box bxw (by omega)
  replace inw := inw.step sp_w11 (by omega)
  replace bxg := sp_w11.box bxg (by omega)
  have B_w11 : Below w.heap.size w w11 := B_w10.trans (sp_w11.below (by omega) (by omega))
  have hs_w11 : w10.heap.size ≤ w11.heap.size := sp_w11.size
  clear sp_w11 B_w10
  clear ing
  have ing := ing'
  clear ing'
  have hnb := nBm_bd0 hmr.b0
  have hk2 : (0 : Int) ≤ 1 + nBm mr ∧ 1 + nBm mr ≤ 100000000 := by omega
  have hk3 : ¬ (1 + nBm mr < 0) := by omega
  clear hnb
  obtain ⟨bxgc0, bxgc1, bxgc2, bxgc3, bxgc4, bxgc5, bxgc6⟩ := cellsM7 bxg
  replace bxa := hide bxa
  replace bxc := hide bxc
  replace bxw := hide bxw
  replace inw := hide inw
  replace bxg := hide bxg
  replace ing := hide ing
  have HB_ := hide B_w11
  clear B_w11
  go_wp2_with fail
  clear bxgc0 bxgc1 bxgc2 bxgc3 bxgc4 bxgc5 bxgc6
  replace bxa := bxa.out
  replace bxc := bxc.out
  replace bxw := bxw.out
  replace inw := inw.out
  replace bxg := bxg.out
  replace ing := ing.out
  have B_w11 := HB_.out
  clear HB_
  refine (heldBal_sh0 _ mr 1 w11 (ing.rd.le (by omega)) (by omega) (by omega) hmr.b0).mono ?_
  rintro e w12 ⟨rfl, hb_w12⟩
  replace bxa := (hb_w12.block _ (by omega)).trans bxa
  replace bxc := (hb_w12.block _ (by omega)).trans bxc
  replace bxw := (hb_w12.block _ (by omega)).trans bxw
  replace inw := inw.step (Stp.of (lo := 0) (hi := 0) hb_w12) (.inl (Nat.zero_le _))
  replace bxg := (hb_w12.block _ (by omega)).trans bxg
  replace ing := ing.step (Stp.of (lo := 0) (hi := 0) hb_w12) (.inl (Nat.zero_le _))
  have B_w12 : Below w.heap.size w w12 := B_w11.trans (hb_w12.mono B_w11.size)
  have hs_w12 : w11.heap.size ≤ w12.heap.size := hb_w12.size
  clear hb_w12 B_w11
  obtain ⟨bxac0, bxac1, bxac2, bxac3, bxac4, bxac5, bxac6⟩ := cellsM7 bxa
  obtain ⟨bxcc0, bxcc1⟩ := cellsM2 bxc
  replace bxa := hide bxa
  replace bxc := hide bxc
  replace bxw := hide bxw
  replace inw := hide inw
  replace bxg := hide bxg
  replace ing := hide ing
  have HB_ := hide B_w12
  clear B_w12
  go_upto_region 24 with fail
  go_cut [18, 19] from 87 to 96 (fun s18 s19 wx => ∃ B lo hi oh ch obh cbh oRh cRh oth cth, s18 = .pointer (some ⟨B, 0, none⟩) ∧ s19 = .bool t ∧ Hid (wx.heap[B]? = some (.cells #[.int .i64 mr.j.key, .slice oh mr.j.l.length ch, .int .i64 mr.j.safe, .int .i64 mr.p.key, .slice obh mr.p.l.length cbh, .slice oRh mr.p.ring.length cRh, .slice oth mr.t.length cth] 47 (0, 0))) ∧ Hid (Below w12.heap.size w12 wx) ∧ w12.heap.size ≤ B ∧ B < wx.heap.size ∧ Hid (InBm lo hi wx (balv mr.j.key (.slice oh mr.j.l.length ch) mr.j.safe mr.p.key (.slice obh mr.p.l.length cbh) (.slice oRh mr.p.ring.length cRh) (.slice oth mr.t.length cth)) mr) ∧ w12.heap.size ≤ lo ∧ hi ≤ wx.heap.size ∧ (B < lo ∨ hi ≤ B))
  case first =>
   have hk_bxa : w.heap.size < w12.heap.size := by omega
   have hk_bxc : w.heap.size + 1 < w12.heap.size := by omega
   go_region_held3 (fun w' => w'.cell? ⟨w.heap.size, 0, none⟩ = some (.int .i64 m.j.key) ∧ w'.cell? ⟨w.heap.size, 1, none⟩ = some (.slice oa m.j.l.length ca) ∧ w'.cell? ⟨w.heap.size, 2, none⟩ = some (.int .i64 m.j.safe) ∧ w'.cell? ⟨w.heap.size, 3, none⟩ = some (.int .i64 m.p.key) ∧ w'.cell? ⟨w.heap.size, 4, none⟩ = some (.slice oba m.p.l.length cba) ∧ w'.cell? ⟨w.heap.size, 5, none⟩ = some (.slice oRa m.p.ring.length cRa) ∧ w'.cell? ⟨w.heap.size, 6, none⟩ = some (.slice ota m.t.length cta) ∧ w'.cell? ⟨w.heap.size + 1, 0, none⟩ = some (.int .i64 a) ∧ w'.cell? ⟨w.heap.size + 1, 1, none⟩ = some (.int .i64 p)) (first | with_reducible exact ⟨k2_0, k2_1, k2_2, k2_3, k2_4, k2_5, k2_6, k2_7, k2_8⟩ | with_reducible exact ⟨k1_0, k1_1, k1_2, k1_3, k1_4, k1_5, k1_6, k1_7, k1_8⟩ | with_reducible exact ⟨k0_0, k0_1, k0_2, k0_3, k0_4, k0_5, k0_6, k0_7, k0_8⟩ | with_reducible exact ⟨bxac0, bxac1, bxac2, bxac3, bxac4, bxac5, bxac6, bxcc0, bxcc1⟩ | with_reducible exact ⟨setB_cellB k2_0 (show w.heap.size < w12.heap.size by omega) _ _ _ _ _ _ _, setB_cellB k2_1 (show w.heap.size < w12.heap.size by omega) _ _ _ _ _ _ _, setB_cellB k2_2 (show w.heap.size < w12.heap.size by omega) _ _ _ _ _ _ _, setB_cellB k2_3 (show w.heap.size < w12.heap.size by omega) _ _ _ _ _ _ _, setB_cellB k2_4 (show w.heap.size < w12.heap.size by omega) _ _ _ _ _ _ _, setB_cellB k2_5 (show w.heap.size < w12.heap.size by omega) _ _ _ _ _ _ _, setB_cellB k2_6 (show w.heap.size < w12.heap.size by omega) _ _ _ _ _ _ _, setB_cellB k2_7 (show w.heap.size + 1 < w12.heap.size by omega) _ _ _ _ _ _ _, setB_cellB k2_8 (show w.heap.size + 1 < w12.heap.size by omega) _ _ _ _ _ _ _⟩ | with_reducible exact ⟨setB_cellB k2_0 (show w.heap.size < x0.heap.size by omega) _ _ _ _ _ _ _, setB_cellB k2_1 (show w.heap.size < x0.heap.size by omega) _ _ _ _ _ _ _, setB_cellB k2_2 (show w.heap.size < x0.heap.size by omega) _ _ _ _ _ _ _, setB_cellB k2_3 (show w.heap.size < x0.heap.size by omega) _ _ _ _ _ _ _, setB_cellB k2_4 (show w.heap.size < x0.heap.size by omega) _ _ _ _ _ _ _, setB_cellB k2_5 (show w.heap.size < x0.heap.size by omega) _ _ _ _ _ _ _, setB_cellB k2_6 (show w.heap.size < x0.heap.size by omega) _ _ _ _ _ _ _, setB_cellB k2_7 (show w.heap.size + 1 < x0.heap.size by omega) _ _ _ _ _ _ _, setB_cellB k2_8 (show w.heap.size + 1 < x0.heap.size by omega) _ _ _ _ _ _ _⟩ | with_reducible exact ⟨setB_cellB k2_0 (show w.heap.size < x1.heap.size by omega) _ _ _ _ _ _ _, setB_cellB k2_1 (show w.heap.size < x1.heap.size by omega) _ _ _ _ _ _ _, setB_cellB k2_2 (show w.heap.size < x1.heap.size by omega) _ _ _ _ _ _ _, setB_cellB k2_3 (show w.heap.size < x1.heap.size by omega) _ _ _ _ _ _ _, setB_cellB k2_4 (show w.heap.size < x1.heap.size by omega) _ _ _ _ _ _ _, setB_cellB k2_5 (show w.heap.size < x1.heap.size by omega) _ _ _ _ _ _ _, setB_cellB k2_6 (show w.heap.size < x1.heap.size by omega) _ _ _ _ _ _ _, setB_cellB k2_7 (show w.heap.size + 1 < x1.heap.size by omega) _ _ _ _ _ _ _, setB_cellB k2_8 (show w.heap.size + 1 < x1.heap.size by omega) _ _ _ _ _ _ _⟩ | go_keep) (first | (go_at_call 7; have hc_ := toBal_sh _ m w12.drew ((hR.kept (Below.drew HB_.out) (Nat.le_refl _)).le HB_.out.size) hf; with_reducible refine hc_.mono ?_; clear hc_; rintro e x0 ⟨v2, rfl, in2, hb⟩; have hp0 : Below w12.heap.size w12 x0 := Below.trans (show Below w12.heap.size w12 w12.drew from (Below.drew (Below.refl _ _))) (hb.mono (by simp)); have sp0 : w12.heap.size ≤ x0.heap.size := hp0.size; have hx0 : Below w12.heap.size w12 x0 := hp0; have k0_0 := bC hx0 bxac0 hk_bxa; have k0_1 := bC hx0 bxac1 hk_bxa; have k0_2 := bC hx0 bxac2 hk_bxa; have k0_3 := bC hx0 bxac3 hk_bxa; have k0_4 := bC hx0 bxac4 hk_bxa; have k0_5 := bC hx0 bxac5 hk_bxa; have k0_6 := bC hx0 bxac6 hk_bxa; have k0_7 := bC hx0 bxcc0 hk_bxc; have k0_8 := bC hx0 bxcc1 hk_bxc; (try have hzl0_0 := (Array.getElem?_eq_some_iff.1 hZ0_0).1); clear hb) | (go_at_call 7; have hc_ := toBal_sh _ m (w12.alloc (.cells #[.int .i64 0, .slice none 0 0, .int .i64 0, .int .i64 0, .slice none 0 0, .slice none 0 0, .slice none 0 0] 47)).drew ((hR.kept (Below.drew (HB_.out.alloc HB_.out.size _)) (Nat.le_refl _)).le (Nat.le_trans HB_.out.size (by simp))) hf; with_reducible refine hc_.mono ?_; clear hc_; rintro e x0 ⟨v2, rfl, in2, hb⟩; have hp0 : Below w12.heap.size w12 x0 := Below.trans (show Below w12.heap.size w12 (w12.alloc (.cells #[.int .i64 0, .slice none 0 0, .int .i64 0, .int .i64 0, .slice none 0 0, .slice none 0 0, .slice none 0 0] 47)).drew from (Below.drew ((Below.refl _ _).alloc (Nat.le_refl _) _))) (hb.mono (by simp)); have sp0 : w12.heap.size ≤ x0.heap.size := hp0.size; have hx0 : Below w12.heap.size w12 x0 := hp0; have k0_0 := bC hx0 bxac0 hk_bxa; have k0_1 := bC hx0 bxac1 hk_bxa; have k0_2 := bC hx0 bxac2 hk_bxa; have k0_3 := bC hx0 bxac3 hk_bxa; have k0_4 := bC hx0 bxac4 hk_bxa; have k0_5 := bC hx0 bxac5 hk_bxa; have k0_6 := bC hx0 bxac6 hk_bxa; have k0_7 := bC hx0 bxcc0 hk_bxc; have k0_8 := bC hx0 bxcc1 hk_bxc; have hZ0_0 : x0.heap[w12.heap.size]? = some (.cells #[.int .i64 0, .slice none 0 0, .int .i64 0, .int .i64 0, .slice none 0 0, .slice none 0 0, .slice none 0 0] 47 (0, 0)) := (box_newE0 hb); (try have hzl0_0 := (Array.getElem?_eq_some_iff.1 hZ0_0).1); clear hb) | (go_at_call 8; have hc_ := toFlow_any a p x0; with_reducible refine hc_.mono ?_; clear hc_; rintro e x1 ⟨rfl, hb⟩; have hp1 : Below x0.heap.size x0 x1 := hb; have sp1 : x0.heap.size ≤ x1.heap.size := hp1.size; have hx1 : Below w12.heap.size w12 x1 := hx0.trans (hp1.mono hx0.size); have k1_0 := bC hx1 bxac0 hk_bxa; have k1_1 := bC hx1 bxac1 hk_bxa; have k1_2 := bC hx1 bxac2 hk_bxa; have k1_3 := bC hx1 bxac3 hk_bxa; have k1_4 := bC hx1 bxac4 hk_bxa; have k1_5 := bC hx1 bxac5 hk_bxa; have k1_6 := bC hx1 bxac6 hk_bxa; have k1_7 := bC hx1 bxcc0 hk_bxc; have k1_8 := bC hx1 bxcc1 hk_bxc; (try have hZ1_0 := (hp1.block _ (Array.getElem?_eq_some_iff.1 hZ0_0).1).trans hZ0_0); (try have hzl1_0 := (Array.getElem?_eq_some_iff.1 hZ1_0).1); (try have hzl1_1 := (Array.getElem?_eq_some_iff.1 hZ1_1).1); have rdb := in2.step (Stp.of (lo := 0) (hi := 0) hp1) (.inl (Nat.zero_le _)); clear hb) | (go_at_call 8; have hc_ := toFlow_any a p (x0.alloc (.cells #[.int .i64 0, .slice none 0 0, .int .i64 0, .int .i64 0, .slice none 0 0, .slice none 0 0, .slice none 0 0] 47)); with_reducible refine hc_.mono ?_; clear hc_; rintro e x1 ⟨rfl, hb⟩; have hp1 : Below x0.heap.size x0 x1 := Below.trans (show Below x0.heap.size x0 (x0.alloc (.cells #[.int .i64 0, .slice none 0 0, .int .i64 0, .int .i64 0, .slice none 0 0, .slice none 0 0, .slice none 0 0] 47)) from ((Below.refl _ _).alloc (Nat.le_refl _) _)) (hb.mono (by simp)); have sp1 : x0.heap.size ≤ x1.heap.size := hp1.size; have hx1 : Below w12.heap.size w12 x1 := hx0.trans (hp1.mono hx0.size); have k1_0 := bC hx1 bxac0 hk_bxa; have k1_1 := bC hx1 bxac1 hk_bxa; have k1_2 := bC hx1 bxac2 hk_bxa; have k1_3 := bC hx1 bxac3 hk_bxa; have k1_4 := bC hx1 bxac4 hk_bxa; have k1_5 := bC hx1 bxac5 hk_bxa; have k1_6 := bC hx1 bxac6 hk_bxa; have k1_7 := bC hx1 bxcc0 hk_bxc; have k1_8 := bC hx1 bxcc1 hk_bxc; (try have hZ1_0 := (hp1.block _ (Array.getElem?_eq_some_iff.1 hZ0_0).1).trans hZ0_0); have hZ1_1 : x1.heap[x0.heap.size]? = some (.cells #[.int .i64 0, .slice none 0 0, .int .i64 0, .int .i64 0, .slice none 0 0, .slice none 0 0, .slice none 0 0] 47 (0, 0)) := (box_newE hb); (try have hzl1_0 := (Array.getElem?_eq_some_iff.1 hZ1_0).1); (try have hzl1_1 := (Array.getElem?_eq_some_iff.1 hZ1_1).1); have rdb := in2.step (Stp.of (lo := 0) (hi := 0) hp1) (.inl (Nat.zero_le _)); clear hb) | (go_at_call 9; have hc_ := HI.out _ _ _ x1 rdb (by omega); with_reducible refine hc_.mono ?_; clear hc_; rintro e x2 ⟨vh, rfl, inh, hb⟩; have hp2 : Below x1.heap.size x1 x2 := hb; have sp2 : x1.heap.size ≤ x2.heap.size := hp2.size; have hx2 : Below w12.heap.size w12 x2 := hx1.trans (hp2.mono hx1.size); have k2_0 := bC hx2 bxac0 hk_bxa; have k2_1 := bC hx2 bxac1 hk_bxa; have k2_2 := bC hx2 bxac2 hk_bxa; have k2_3 := bC hx2 bxac3 hk_bxa; have k2_4 := bC hx2 bxac4 hk_bxa; have k2_5 := bC hx2 bxac5 hk_bxa; have k2_6 := bC hx2 bxac6 hk_bxa; have k2_7 := bC hx2 bxcc0 hk_bxc; have k2_8 := bC hx2 bxcc1 hk_bxc; (try have hZ2_0 := (hp2.block _ (Array.getElem?_eq_some_iff.1 hZ1_0).1).trans hZ1_0); (try have hZ2_1 := (hp2.block _ (Array.getElem?_eq_some_iff.1 hZ1_1).1).trans hZ1_1); (try have hzl2_0 := (Array.getElem?_eq_some_iff.1 hZ2_0).1); (try have hzl2_1 := (Array.getElem?_eq_some_iff.1 hZ2_1).1); (try have hzl2_2 := (Array.getElem?_eq_some_iff.1 hZ2_2).1); obtain ⟨oh, ch, obh, cbh, oRh, cRh, oth, cth, hve⟩ := inh.rd.opn; subst hve; (try (have hq9 := cells7 hZ2_0; obtain ⟨hzc0_0, hzc0_1, hzc0_2, hzc0_3, hzc0_4, hzc0_5, hzc0_6, hzf0_0, hzf0_1, hzf0_2, hzf0_3, hzf0_4, hzf0_5, hzf0_6⟩ := hq9)); (try (have hq9 := cells7 hZ2_1; obtain ⟨hzc1_0, hzc1_1, hzc1_2, hzc1_3, hzc1_4, hzc1_5, hzc1_6, hzf1_0, hzf1_1, hzf1_2, hzf1_3, hzf1_4, hzf1_5, hzf1_6⟩ := hq9)); (try (have hq9 := cells7 hZ2_2; obtain ⟨hzc2_0, hzc2_1, hzc2_2, hzc2_3, hzc2_4, hzc2_5, hzc2_6, hzf2_0, hzf2_1, hzf2_2, hzf2_3, hzf2_4, hzf2_5, hzf2_6⟩ := hq9)); clear hb) | (go_at_call 9; have hc_ := HI.out _ _ _ (x1.alloc (.cells #[.int .i64 0, .slice none 0 0, .int .i64 0, .int .i64 0, .slice none 0 0, .slice none 0 0, .slice none 0 0] 47)) (rdb.step (Stp.of (lo := 0) (hi := 0) ((Below.refl _ _).alloc (Nat.le_refl _) _)) (.inl (Nat.zero_le _))) (by simp; omega); with_reducible refine hc_.mono ?_; clear hc_; rintro e x2 ⟨vh, rfl, inh, hb⟩; have hp2 : Below x1.heap.size x1 x2 := Below.trans (show Below x1.heap.size x1 (x1.alloc (.cells #[.int .i64 0, .slice none 0 0, .int .i64 0, .int .i64 0, .slice none 0 0, .slice none 0 0, .slice none 0 0] 47)) from ((Below.refl _ _).alloc (Nat.le_refl _) _)) (hb.mono (by simp)); have sp2 : x1.heap.size ≤ x2.heap.size := hp2.size; have hx2 : Below w12.heap.size w12 x2 := hx1.trans (hp2.mono hx1.size); have k2_0 := bC hx2 bxac0 hk_bxa; have k2_1 := bC hx2 bxac1 hk_bxa; have k2_2 := bC hx2 bxac2 hk_bxa; have k2_3 := bC hx2 bxac3 hk_bxa; have k2_4 := bC hx2 bxac4 hk_bxa; have k2_5 := bC hx2 bxac5 hk_bxa; have k2_6 := bC hx2 bxac6 hk_bxa; have k2_7 := bC hx2 bxcc0 hk_bxc; have k2_8 := bC hx2 bxcc1 hk_bxc; (try have hZ2_0 := (hp2.block _ (Array.getElem?_eq_some_iff.1 hZ1_0).1).trans hZ1_0); (try have hZ2_1 := (hp2.block _ (Array.getElem?_eq_some_iff.1 hZ1_1).1).trans hZ1_1); have hZ2_2 : x2.heap[x1.heap.size]? = some (.cells #[.int .i64 0, .slice none 0 0, .int .i64 0, .int .i64 0, .slice none 0 0, .slice none 0 0, .slice none 0 0] 47 (0, 0)) := (box_newE hb); (try have hzl2_0 := (Array.getElem?_eq_some_iff.1 hZ2_0).1); (try have hzl2_1 := (Array.getElem?_eq_some_iff.1 hZ2_1).1); (try have hzl2_2 := (Array.getElem?_eq_some_iff.1 hZ2_2).1); obtain ⟨oh, ch, obh, cbh, oRh, cRh, oth, cth, hve⟩ := inh.rd.opn; subst hve; (try (have hq9 := cells7 hZ2_0; obtain ⟨hzc0_0, hzc0_1, hzc0_2, hzc0_3, hzc0_4, hzc0_5, hzc0_6, hzf0_0, hzf0_1, hzf0_2, hzf0_3, hzf0_4, hzf0_5, hzf0_6⟩ := hq9)); (try (have hq9 := cells7 hZ2_1; obtain ⟨hzc1_0, hzc1_1, hzc1_2, hzc1_3, hzc1_4, hzc1_5, hzc1_6, hzf1_0, hzf1_1, hzf1_2, hzf1_3, hzf1_4, hzf1_5, hzf1_6⟩ := hq9)); (try (have hq9 := cells7 hZ2_2; obtain ⟨hzc2_0, hzc2_1, hzc2_2, hzc2_3, hzc2_4, hzc2_5, hzc2_6, hzf2_0, hzf2_1, hzf2_2, hzf2_3, hzf2_4, hzf2_5, hzf2_6⟩ := hq9)); clear hb))
   all_goals (go_wp2_with fail; go_meet)
   all_goals first
    | with_reducible exact finBal InBm.stps hZ2_0 hx2 (by omega) inh (by (try simp) <;> omega) (Nat.le_refl _) (by (try simp) <;> omega)
    | with_reducible exact finBal InBm.stps hZ2_1 hx2 (by omega) inh (by (try simp) <;> omega) (Nat.le_refl _) (by (try simp) <;> omega)
    | with_reducible exact finBal InBm.stps hZ2_2 hx2 (by omega) inh (by (try simp) <;> omega) (Nat.le_refl _) (by (try simp) <;> omega)
    | with_reducible exact finBaln InBm.stps hx2 inh (by (try simp) <;> omega) (Nat.le_refl _)
  case rest =>
  obtain ⟨Bh, loh, hih, oh, ch, obh, cbh, oRh, cRh, oth, cth, rfl, rfl, Hbx_, Hbl_, hB1_h, hB2_h, Hin_, hl1_h, hl2_h, hl3_h⟩ := hcut
  have bxh := Hbx_.out
  have hbl_ := Hbl_.out
  clear Hbx_ Hbl_
  have inh := Hin_.out
  clear Hin_
  clear bxac0 bxac1 bxac2 bxac3 bxac4 bxac5 bxac6
  clear bxcc0 bxcc1
  replace bxa := bxa.out
  replace bxc := bxc.out
  replace bxw := bxw.out
  replace inw := inw.out
  replace bxg := bxg.out
  replace ing := ing.out
  have B_w12 := HB_.out
  clear HB_
  obtain ⟨w13, hwc⟩ : ∃ W, W = wc := ⟨_, rfl⟩
  subst hwc
  replace bxa := (hbl_.block _ (by omega)).trans bxa
  replace bxc := (hbl_.block _ (by omega)).trans bxc
  replace bxw := (hbl_.block _ (by omega)).trans bxw
  replace inw := inw.step (Stp.of (lo := 0) (hi := 0) hbl_) (.inl (Nat.zero_le _))
  replace bxg := (hbl_.block _ (by omega)).trans bxg
  replace ing := ing.step (Stp.of (lo := 0) (hi := 0) hbl_) (.inl (Nat.zero_le _))
  have B_w13 : Below w.heap.size w w13 := B_w12.trans (hbl_.mono B_w12.size)
  have hs_w13 : w12.heap.size ≤ w13.heap.size := hbl_.size
  clear hbl_ B_w12
  obtain ⟨bxhc0, bxhc1, bxhc2, bxhc3, bxhc4, bxhc5, bxhc6⟩ := cellsM7 bxh
  obtain ⟨bxwc0, bxwc1, bxwc2, bxwc3, bxwc4, bxwc5, bxwc6⟩ := cellsM7 bxw
  replace bxa := hide bxa
  replace bxc := hide bxc
  replace bxw := hide bxw
  replace inw := hide inw
  replace bxg := hide bxg
  replace ing := hide ing
  replace bxh := hide bxh
  replace inh := hide inh
  have HB_ := hide B_w13
  clear B_w13
  go_wp2_with fail
  clear bxhc0 bxhc1 bxhc2 bxhc3 bxhc4 bxhc5 bxhc6
  clear bxwc0 bxwc1 bxwc2 bxwc3 bxwc4 bxwc5 bxwc6
  replace bxa := bxa.out
  replace bxc := bxc.out
  replace bxw := bxw.out
  replace inw := inw.out
  replace bxg := bxg.out
  replace ing := ing.out
  replace bxh := bxh.out
  replace inh := inh.out
  have B_w13 := HB_.out
  clear HB_
  refine (eqBal_sh _ _ mr w13 (inh.rd.le (by omega)) (inw.rd.le (by omega)) hmr.b0).mono ?_
  rintro e w14 ⟨rfl, hb_w14⟩
  replace bxa := (hb_w14.block _ (by omega)).trans bxa
  replace bxc := (hb_w14.block _ (by omega)).trans bxc
  replace bxw := (hb_w14.block _ (by omega)).trans bxw
  replace inw := inw.step (Stp.of (lo := 0) (hi := 0) hb_w14) (.inl (Nat.zero_le _))
  replace bxg := (hb_w14.block _ (by omega)).trans bxg
  replace ing := ing.step (Stp.of (lo := 0) (hi := 0) hb_w14) (.inl (Nat.zero_le _))
  replace bxh := (hb_w14.block _ (by omega)).trans bxh
  replace inh := inh.step (Stp.of (lo := 0) (hi := 0) hb_w14) (.inl (Nat.zero_le _))
  have B_w14 : Below w.heap.size w w14 := B_w13.trans (hb_w14.mono B_w13.size)
  have hs_w14 : w13.heap.size ≤ w14.heap.size := hb_w14.size
  clear hb_w14 B_w13
  clear inh
  clear bxh
  obtain ⟨bxgc0, bxgc1, bxgc2, bxgc3, bxgc4, bxgc5, bxgc6⟩ := cellsM7 bxg
  replace bxa := hide bxa
  replace bxc := hide bxc
  replace bxw := hide bxw
  replace inw := hide inw
  replace bxg := hide bxg
  replace ing := hide ing
  have HB_ := hide B_w14
  clear B_w14
  go_wp2_with fail
  clear bxgc0 bxgc1 bxgc2 bxgc3 bxgc4 bxgc5 bxgc6
  replace bxa := bxa.out
  replace bxc := bxc.out
  replace bxw := bxw.out
  replace inw := inw.out
  replace bxg := bxg.out
  replace ing := ing.out
  have B_w14 := HB_.out
  clear HB_
  refine (heldBal_sh0 _ mr 1 w14 (ing.rd.le (by omega)) (by omega) (by omega) hmr.b0).mono ?_
  rintro e w15 ⟨rfl, hb_w15⟩
  replace bxa := (hb_w15.block _ (by omega)).trans bxa
  replace bxc := (hb_w15.block _ (by omega)).trans bxc
  replace bxw := (hb_w15.block _ (by omega)).trans bxw
  replace inw := inw.step (Stp.of (lo := 0) (hi := 0) hb_w15) (.inl (Nat.zero_le _))
  replace bxg := (hb_w15.block _ (by omega)).trans bxg
  replace ing := ing.step (Stp.of (lo := 0) (hi := 0) hb_w15) (.inl (Nat.zero_le _))
  have B_w15 : Below w.heap.size w w15 := B_w14.trans (hb_w15.mono B_w14.size)
  have hs_w15 : w14.heap.size ≤ w15.heap.size := hb_w15.size
  clear hb_w15 B_w14
  replace bxa := hide bxa
  replace bxc := hide bxc
  replace bxw := hide bxw
  replace inw := hide inw
  replace bxg := hide bxg
  replace ing := hide ing
  have HB_ := hide B_w15
  clear B_w15
  go_wp2
  go_ret
  exact ⟨rfl, HB_.out⟩

theorem walkFnExactLearn (v : Value) (m : Bm) (now a p bk : Int) (w : World) (hR : RdBm w.heap.size w v m) (hl : lenBm m) :
  Calls Tryz.prog 3 #[v, .int .i64 now, flow a p, .int .i64 bk] w fun e w' => e = .returned (.bool true) ∧ Below w.heap.size w w' := lawFnExactLearn v m now a p bk w hR hl

end Go.Proofs.YtpjkcgaohoinaaaGreat

