/- Several texts in one: SBLearn, CutB, OpenB. -/
import Derived.Test.YtmmhgkkcpjhiiaaGreatQLearn48
import Derived.Test.YtmmhgkkcpjhiiaaGreatQLearn49
import Derived.Test.YtmmhgkkcpjhiiaaGreatQLearn43
import Derived.Test.YtmmhgkkcpjhiiaaGreatQLearn41
namespace Go.Proofs.YtmmhgkkcpjhiiaaGreat
open Go.ChangeShapes Go.WideShapes Go.ChangeAt Go.RowKit Go.Joins
set_option linter.unusedVariables false
set_option linter.unusedSimpArgs false


set_option maxRecDepth 100000 in
set_option maxHeartbeats 4000000 in
theorem implLearn_any (kj : Int) (o : Option Addr) (nj c : Nat) (sj kp : Int) (ob : Option Addr) (np cb : Nat) (oR : Option Addr) (nr cR : Nat) (ot : Option Addr) (nt ct : Nat) (lj : List Cd) (lb : List Bk) (lr : List (List (List Int))) (lt : List Sl) (now a p v : Int) (w : World)
  (hnj : nj = lj.length) (hnt : nt = lt.length) (h1 : RdC w.heap.size w o lj) (h1c : o = none → c = 0) (h2 : RdPm w.heap.size w (plv kp (.slice ob np cb) (.slice oR nr cR)) ⟨kp, lb, lr⟩) (h4 : RdS w.heap.size w ot lt) (hf : fitB0 ⟨⟨kj, lj, sj⟩, ⟨kp, lb, lr⟩, lt⟩) :
  Calls Tryz.prog 34 #[balv kj (.slice o nj c) sj kp (.slice ob np cb) (.slice oR nr cR) (.slice ot nt ct), .int .i64 now, flow a p, .int .i64 v] w fun e w' => ∃ v', e = .returned (.tuple #[v', .bool (learnB ⟨⟨kj, lj, sj⟩, ⟨kp, lb, lr⟩, lt⟩ now a p v)]) ∧ InBm w.heap.size w'.heap.size w' v' (learn0M ⟨⟨kj, lj, sj⟩, ⟨kp, lb, lr⟩, lt⟩ now a p v) ∧ Below w.heap.size w w' := by
 have HBF := hide (fun W (hb : Below w.heap.size w W) => balFrom_any kj o nj c sj kp ob np cb oR nr cR ot nt ct lj lb lr lt W hnj hnt ((h1.kept hb (Nat.le_refl _)).le hb.size) h1c ((h2.kept hb (Nat.le_refl _)).le hb.size) ((h4.kept hb (Nat.le_refl _)).le hb.size) hf)
 have f7 : lt.length ≤ 1048576 := hf.2.2
 have HBP := hide (fun h => balB_pos (m := ⟨⟨kj, lj, sj⟩, ⟨kp, lb, lr⟩, lt⟩) h)
 have HSM := hide (fun h => balB_same (m := ⟨⟨kj, lj, sj⟩, ⟨kp, lb, lr⟩, lt⟩) h)
 have HTB := hide (fun h => balB_tab (m := ⟨⟨kj, lj, sj⟩, ⟨kp, lb, lr⟩, lt⟩) h)
 have HM := hide (show learn0M ⟨⟨kj, lj, sj⟩, ⟨kp, lb, lr⟩, lt⟩ now a p v = if (balB ⟨⟨kj, lj, sj⟩, ⟨kp, lb, lr⟩, lt⟩ && ((decide (0 ≤ now) && decide (now ≤ 100000)) && (flowOkB a p && (decide (0 ≤ v) && decide (v < 6))))) = true then ⟨⟨kj, lj, sj⟩, ⟨kp, lb, lr⟩, learnL lt now a p v⟩ else bm0 from rfl)
 have HN := hide (show learnB ⟨⟨kj, lj, sj⟩, ⟨kp, lb, lr⟩, lt⟩ now a p v = (balB ⟨⟨kj, lj, sj⟩, ⟨kp, lb, lr⟩, lt⟩ && ((decide (0 ≤ now) && decide (now ≤ 100000)) && (flowOkB a p && (decide (0 ≤ v) && decide (v < 6))))) from rfl)
 dsimp only at HBP HSM HTB
 clear h1 h2 h4 hnj hnt hf
 obtain ⟨bb, hbb⟩ : ∃ x, balB ⟨⟨kj, lj, sj⟩, ⟨kp, lb, lr⟩, lt⟩ = x := ⟨_, rfl⟩
 obtain ⟨mr, hmr⟩ : ∃ r, learn0M ⟨⟨kj, lj, sj⟩, ⟨kp, lb, lr⟩, lt⟩ now a p v = r := ⟨_, rfl⟩
 obtain ⟨nr9, hnr⟩ : ∃ r, learnB ⟨⟨kj, lj, sj⟩, ⟨kp, lb, lr⟩, lt⟩ now a p v = r := ⟨_, rfl⟩
 have HSTB : Hid ((decide (0 ≤ now) && decide (now ≤ 100000)) = true → 0 ≤ now ∧ now ≤ 100000) := fun h => by simpa using h
 obtain ⟨sb, hsb⟩ : ∃ r, (decide (0 ≤ now) && decide (now ≤ 100000)) = r := ⟨_, rfl⟩
 have HFLB : Hid (flowOkB a p = flowOkB a p) := rfl
 obtain ⟨fb, hfb⟩ : ∃ r, flowOkB a p = r := ⟨_, rfl⟩
 obtain ⟨vb9, hvb⟩ : ∃ r, (decide (0 ≤ v) && decide (v < 6)) = r := ⟨_, rfl⟩
 have HST := hide (fun W => isStamp_any now W)
 have HFO := hide (fun W => implFlowOk_any a p W)
 have HIB := hide (fun W => isBack_any v W)
 have HLN := hide (fun (g xc base : Nat) (W : World) (htb : tableOkB lt = true) (hfl : flowOkB a p = true) (hnow : 0 ≤ now ∧ now ≤ 100000) (hrow : W.ownsRow base CellT 5 (.slice (some ⟨g, 0, none⟩) lt.length xc) lt.length (lt.flatMap layS.cs)) => learnH_any g xc base lt.length lt now a p v W rfl htb hfl hnow hrow)
 rw [hmr, hnr]
 rw [hbb] at HBF HBP HSM HTB HM HN
 rw [hmr] at HM
 rw [hnr] at HN
 rw [hsb] at HM HN HST HSTB
 rw [hfb] at HM HN HFO HLN
 rw [hvb] at HM HN HIB
 clear hbb hmr hnr hsb hfb hvb HFLB
 obtain ⟨W0, hW0⟩ : ∃ W, (((w.alloc (.cells #[.int .i64 kj, .slice o nj c, .int .i64 sj, .int .i64 kp, .slice ob np cb, .slice oR nr cR, .slice ot nt ct] 34)).alloc (.cells #[.int .i64 a, .int .i64 p] 36)).alloc (.cells #[.int .i64 0, .slice none 0 0, .int .i64 0, .int .i64 0, .slice none 0 0, .slice none 0 0, .slice none 0 0] 34)) = W := ⟨_, rfl⟩
 have hb_W0 : Below w.heap.size w W0 := by rw [← hW0]; exact ((((Below.refl _ _).alloc (Nat.le_refl _) _).alloc (by simp <;> omega) _).alloc (by simp <;> omega) _)
 have HB := hide hb_W0
 clear hb_W0
 have zz : w.heap.size < W0.heap.size := by rw [← hW0]; simp <;> omega
 have z0 : W0.cell? ⟨w.heap.size, 0, none⟩ = some (.int .i64 kj) := by rw [← hW0]; simp [go_sem]
 have z1 : W0.cell? ⟨w.heap.size, 1, none⟩ = some (.slice o nj c) := by rw [← hW0]; simp [go_sem]
 have z2 : W0.cell? ⟨w.heap.size, 2, none⟩ = some (.int .i64 sj) := by rw [← hW0]; simp [go_sem]
 have z3 : W0.cell? ⟨w.heap.size, 3, none⟩ = some (.int .i64 kp) := by rw [← hW0]; simp [go_sem]
 have z4 : W0.cell? ⟨w.heap.size, 4, none⟩ = some (.slice ob np cb) := by rw [← hW0]; simp [go_sem]
 have z5 : W0.cell? ⟨w.heap.size, 5, none⟩ = some (.slice oR nr cR) := by rw [← hW0]; simp [go_sem]
 have z6 : W0.cell? ⟨w.heap.size, 6, none⟩ = some (.slice ot nt ct) := by rw [← hW0]; simp [go_sem]
 have zc : w.heap.size + 1 < W0.heap.size := by rw [← hW0]; simp <;> omega
 have c0 : W0.cell? ⟨w.heap.size + 1, 0, none⟩ = some (.int .i64 a) := by rw [← hW0]; simp [go_sem]
 have c1 : W0.cell? ⟨w.heap.size + 1, 1, none⟩ = some (.int .i64 p) := by rw [← hW0]; simp [go_sem]
 have zr : w.heap.size + 1 + 1 < W0.heap.size := by rw [← hW0]; simp
 have r0 : W0.cell? ⟨w.heap.size + 1 + 1, 0, none⟩ = some (.int .i64 0) := by rw [← hW0]; simp [go_sem]
 have r1 : W0.cell? ⟨w.heap.size + 1 + 1, 1, none⟩ = some (.slice none 0 0) := by rw [← hW0]; simp [go_sem]
 have r2 : W0.cell? ⟨w.heap.size + 1 + 1, 2, none⟩ = some (.int .i64 0) := by rw [← hW0]; simp [go_sem]
 have r3 : W0.cell? ⟨w.heap.size + 1 + 1, 3, none⟩ = some (.int .i64 0) := by rw [← hW0]; simp [go_sem]
 have r4 : W0.cell? ⟨w.heap.size + 1 + 1, 4, none⟩ = some (.slice none 0 0) := by rw [← hW0]; simp [go_sem]
 have r5 : W0.cell? ⟨w.heap.size + 1 + 1, 5, none⟩ = some (.slice none 0 0) := by rw [← hW0]; simp [go_sem]
 have r6 : W0.cell? ⟨w.heap.size + 1 + 1, 6, none⟩ = some (.slice none 0 0) := by rw [← hW0]; simp [go_sem]
 have fr0 : W0.frozen? ⟨w.heap.size + 1 + 1, 0, none⟩ = false := by rw [← hW0]; simp [go_sem]
 have fr1 : W0.frozen? ⟨w.heap.size + 1 + 1, 1, none⟩ = false := by rw [← hW0]; simp [go_sem]
 have fr2 : W0.frozen? ⟨w.heap.size + 1 + 1, 2, none⟩ = false := by rw [← hW0]; simp [go_sem]
 have fr3 : W0.frozen? ⟨w.heap.size + 1 + 1, 3, none⟩ = false := by rw [← hW0]; simp [go_sem]
 have fr4 : W0.frozen? ⟨w.heap.size + 1 + 1, 4, none⟩ = false := by rw [← hW0]; simp [go_sem]
 have fr5 : W0.frozen? ⟨w.heap.size + 1 + 1, 5, none⟩ = false := by rw [← hW0]; simp [go_sem]
 have fr6 : W0.frozen? ⟨w.heap.size + 1 + 1, 6, none⟩ = false := by rw [← hW0]; simp [go_sem]
 have hzr : w.heap.size + 1 + 1 < W0.heap.size := zr
 go_enter Tryz.func34, Tryz.ntmps34
 go_wp2_with fail
 refine (HBF.out W0 HB.out).mono ?_
 rintro e v1 ⟨xo, xn, xc, kq, yo, yn, yc, sq, kr, uo, un, uc, vo, vn, vc, rfl, hin, hb⟩
 have HIN := hide hin
 have hs1 := hb.size
 clear hin HBF
 replace z0 := bC hb z0 zz
 replace z1 := bC hb z1 zz
 replace z2 := bC hb z2 zz
 replace z3 := bC hb z3 zz
 replace z4 := bC hb z4 zz
 replace z5 := bC hb z5 zz
 replace z6 := bC hb z6 zz
 replace zz := Nat.lt_of_lt_of_le zz hb.size
 replace c0 := bC hb c0 zc
 replace c1 := bC hb c1 zc
 replace zc := Nat.lt_of_lt_of_le zc hb.size
 replace r0 := bC hb r0 zr
 replace r1 := bC hb r1 zr
 replace r2 := bC hb r2 zr
 replace r3 := bC hb r3 zr
 replace r4 := bC hb r4 zr
 replace r5 := bC hb r5 zr
 replace r6 := bC hb r6 zr
 replace fr0 := bF hb fr0 zr
 replace fr1 := bF hb fr1 zr
 replace fr2 := bF hb fr2 zr
 replace fr3 := bF hb fr3 zr
 replace fr4 := bF hb fr4 zr
 replace fr5 := bF hb fr5 zr
 replace fr6 := bF hb fr6 zr
 replace zr := Nat.lt_of_lt_of_le zr hb.size
 replace HB := hide (HB.out.trans (hb.mono HB.out.size))
 clear hb
 cases bb with
 | false =>
  obtain ⟨W2, hW2⟩ : ∃ W, (v1.alloc (.cells #[.slice xo xn xc, .int .i64 kq, .slice yo yn yc, .int .i64 sq, .int .i64 kr, .slice uo un uc, .slice vo vn vc] 152)) = W := ⟨_, rfl⟩
  have hb_W2 : Below v1.heap.size v1 W2 := by rw [← hW2]; exact ((Below.refl _ _).alloc (Nat.le_refl _) _)
  replace z0 := bC hb_W2 z0 zz
  replace z1 := bC hb_W2 z1 zz
  replace z2 := bC hb_W2 z2 zz
  replace z3 := bC hb_W2 z3 zz
  replace z4 := bC hb_W2 z4 zz
  replace z5 := bC hb_W2 z5 zz
  replace z6 := bC hb_W2 z6 zz
  replace zz := Nat.lt_of_lt_of_le zz hb_W2.size
  replace c0 := bC hb_W2 c0 zc
  replace c1 := bC hb_W2 c1 zc
  replace zc := Nat.lt_of_lt_of_le zc hb_W2.size
  replace r0 := bC hb_W2 r0 zr
  replace r1 := bC hb_W2 r1 zr
  replace r2 := bC hb_W2 r2 zr
  replace r3 := bC hb_W2 r3 zr
  replace r4 := bC hb_W2 r4 zr
  replace r5 := bC hb_W2 r5 zr
  replace r6 := bC hb_W2 r6 zr
  replace fr0 := bF hb_W2 fr0 zr
  replace fr1 := bF hb_W2 fr1 zr
  replace fr2 := bF hb_W2 fr2 zr
  replace fr3 := bF hb_W2 fr3 zr
  replace fr4 := bF hb_W2 fr4 zr
  replace fr5 := bF hb_W2 fr5 zr
  replace fr6 := bF hb_W2 fr6 zr
  replace zr := Nat.lt_of_lt_of_le zr hb_W2.size
  replace HB := hide (HB.out.trans (hb_W2.mono HB.out.size))
  clear hb_W2
  have zx : v1.heap.size < W2.heap.size := by rw [← hW2]; simp
  have x0 : W2.cell? ⟨v1.heap.size, 0, none⟩ = some (.slice xo xn xc) := by rw [← hW2]; simp [go_sem]
  have x1 : W2.cell? ⟨v1.heap.size, 1, none⟩ = some (.int .i64 kq) := by rw [← hW2]; simp [go_sem]
  have x2 : W2.cell? ⟨v1.heap.size, 2, none⟩ = some (.slice yo yn yc) := by rw [← hW2]; simp [go_sem]
  have x3 : W2.cell? ⟨v1.heap.size, 3, none⟩ = some (.int .i64 sq) := by rw [← hW2]; simp [go_sem]
  have x4 : W2.cell? ⟨v1.heap.size, 4, none⟩ = some (.int .i64 kr) := by rw [← hW2]; simp [go_sem]
  have x5 : W2.cell? ⟨v1.heap.size, 5, none⟩ = some (.slice uo un uc) := by rw [← hW2]; simp [go_sem]
  have x6 : W2.cell? ⟨v1.heap.size, 6, none⟩ = some (.slice vo vn vc) := by rw [← hW2]; simp [go_sem]
  clear HIN
  have e0 : nr9 = false := by rw [HN.out]; simp
  subst e0
  go_wp2
  refine bodyPost_ret (v := .tuple #[balv 0 (.slice none 0 0) 0 0 (.slice none 0 0) (.slice none 0 0) (.slice none 0 0), .bool false]) (by simp [results, Tryz.results34, go_sem, r0, r1, r2, r3, r4, r5, r6]) rfl ⟨_, rfl, ?_, setB_below HB.out (by omega) _ _ _ _ _ _ _⟩
  rw [HM.out, setB_size]
  exact bm0_in _ _ _ (by have := HB.out.size; omega)
 | true =>
  have hn := HBP.out rfl
  have hsm := HSM.out rfl
  have htb := HTB.out rfl
  obtain ⟨g, rfl, rfl, hgl, bx⟩ := Bx.of (HIN.out rfl) hn
  rw [← hsm] at bx
  have HBX := hide bx
  have HTAB := hide htb
  clear bx HIN HBP HSM HTB hsm htb
  obtain ⟨W2, hW2⟩ : ∃ W, (v1.alloc (.cells #[.slice (some ⟨g, 0, none⟩) lt.length xc, .int .i64 kq, .slice yo yn yc, .int .i64 sq, .int .i64 kr, .slice uo un uc, .slice vo vn vc] 152)) = W := ⟨_, rfl⟩
  have hb_W2 : Below v1.heap.size v1 W2 := by rw [← hW2]; exact ((Below.refl _ _).alloc (Nat.le_refl _) _)
  replace z0 := bC hb_W2 z0 zz
  replace z1 := bC hb_W2 z1 zz
  replace z2 := bC hb_W2 z2 zz
  replace z3 := bC hb_W2 z3 zz
  replace z4 := bC hb_W2 z4 zz
  replace z5 := bC hb_W2 z5 zz
  replace z6 := bC hb_W2 z6 zz
  replace zz := Nat.lt_of_lt_of_le zz hb_W2.size
  replace c0 := bC hb_W2 c0 zc
  replace c1 := bC hb_W2 c1 zc
  replace zc := Nat.lt_of_lt_of_le zc hb_W2.size
  replace r0 := bC hb_W2 r0 zr
  replace r1 := bC hb_W2 r1 zr
  replace r2 := bC hb_W2 r2 zr
  replace r3 := bC hb_W2 r3 zr
  replace r4 := bC hb_W2 r4 zr
  replace r5 := bC hb_W2 r5 zr
  replace r6 := bC hb_W2 r6 zr
  replace fr0 := bF hb_W2 fr0 zr
  replace fr1 := bF hb_W2 fr1 zr
  replace fr2 := bF hb_W2 fr2 zr
  replace fr3 := bF hb_W2 fr3 zr
  replace fr4 := bF hb_W2 fr4 zr
  replace fr5 := bF hb_W2 fr5 zr
  replace fr6 := bF hb_W2 fr6 zr
  replace zr := Nat.lt_of_lt_of_le zr hb_W2.size
  replace HB := hide (HB.out.trans (hb_W2.mono HB.out.size))
  clear hb_W2
  have zx : v1.heap.size < W2.heap.size := by rw [← hW2]; simp
  have x0 : W2.cell? ⟨v1.heap.size, 0, none⟩ = some (.slice (some ⟨g, 0, none⟩) lt.length xc) := by rw [← hW2]; simp [go_sem]
  have x1 : W2.cell? ⟨v1.heap.size, 1, none⟩ = some (.int .i64 kq) := by rw [← hW2]; simp [go_sem]
  have x2 : W2.cell? ⟨v1.heap.size, 2, none⟩ = some (.slice yo yn yc) := by rw [← hW2]; simp [go_sem]
  have x3 : W2.cell? ⟨v1.heap.size, 3, none⟩ = some (.int .i64 sq) := by rw [← hW2]; simp [go_sem]
  have x4 : W2.cell? ⟨v1.heap.size, 4, none⟩ = some (.int .i64 kr) := by rw [← hW2]; simp [go_sem]
  have x5 : W2.cell? ⟨v1.heap.size, 5, none⟩ = some (.slice uo un uc) := by rw [← hW2]; simp [go_sem]
  have x6 : W2.cell? ⟨v1.heap.size, 6, none⟩ = some (.slice vo vn vc) := by rw [← hW2]; simp [go_sem]
  replace HBX := hide (HBX.out.kept (show Below v1.heap.size v1 W2 by rw [← hW2]; exact (Below.refl _ _).alloc (Nat.le_refl _) _))
  have hs2 : v1.heap.size < W2.heap.size := zx
  have HXB : Hid (W2.heap[v1.heap.size]? = some (.cells #[.slice (some ⟨g, 0, none⟩) lt.length xc, .int .i64 kq, .slice yo yn yc, .int .i64 sq, .int .i64 kr, .slice uo un uc, .slice vo vn vc] 152 (0, 0))) := by rw [← hW2]; exact World.alloc_heap_new v1 _
  have hck := HST.out W2
  cases sb with
  | false =>
   go_wp2_with fail
   refine hck.mono ?_
   rintro e _ ⟨rfl, rfl⟩
   clear hck HBX HXB
   have e0 : nr9 = false := by rw [HN.out]; simp
   subst e0
   go_wp2
   refine bodyPost_ret (v := .tuple #[balv 0 (.slice none 0 0) 0 0 (.slice none 0 0) (.slice none 0 0) (.slice none 0 0), .bool false]) (by simp [results, Tryz.results34, go_sem, r0, r1, r2, r3, r4, r5, r6]) rfl ⟨_, rfl, ?_, setB_below HB.out (by omega) _ _ _ _ _ _ _⟩
   rw [HM.out, setB_size]
   exact bm0_in _ _ _ (by have := HB.out.size; omega)
  | true =>
   have hfk := HFO.out W2
   go_wp2_with fail
   refine hck.mono ?_
   rintro e _ ⟨rfl, rfl⟩
   clear hck
   cases fb with
   | false =>
    go_wp2_with fail
    refine (hfk).mono ?_
    rintro e v2 ⟨rfl, hb⟩
    clear HBX HXB
    replace z0 := bC hb z0 zz
    replace z1 := bC hb z1 zz
    replace z2 := bC hb z2 zz
    replace z3 := bC hb z3 zz
    replace z4 := bC hb z4 zz
    replace z5 := bC hb z5 zz
    replace z6 := bC hb z6 zz
    replace zz := Nat.lt_of_lt_of_le zz hb.size
    replace c0 := bC hb c0 zc
    replace c1 := bC hb c1 zc
    replace zc := Nat.lt_of_lt_of_le zc hb.size
    replace r0 := bC hb r0 zr
    replace r1 := bC hb r1 zr
    replace r2 := bC hb r2 zr
    replace r3 := bC hb r3 zr
    replace r4 := bC hb r4 zr
    replace r5 := bC hb r5 zr
    replace r6 := bC hb r6 zr
    replace fr0 := bF hb fr0 zr
    replace fr1 := bF hb fr1 zr
    replace fr2 := bF hb fr2 zr
    replace fr3 := bF hb fr3 zr
    replace fr4 := bF hb fr4 zr
    replace fr5 := bF hb fr5 zr
    replace fr6 := bF hb fr6 zr
    replace zr := Nat.lt_of_lt_of_le zr hb.size
    replace x0 := bC hb x0 zx
    replace x1 := bC hb x1 zx
    replace x2 := bC hb x2 zx
    replace x3 := bC hb x3 zx
    replace x4 := bC hb x4 zx
    replace x5 := bC hb x5 zx
    replace x6 := bC hb x6 zx
    replace zx := Nat.lt_of_lt_of_le zx hb.size
    replace HB := hide (HB.out.trans (hb.mono HB.out.size))
    clear hb
    clear hfk
    have e0 : nr9 = false := by rw [HN.out]; simp
    subst e0
    go_wp2
    refine bodyPost_ret (v := .tuple #[balv 0 (.slice none 0 0) 0 0 (.slice none 0 0) (.slice none 0 0) (.slice none 0 0), .bool false]) (by simp [results, Tryz.results34, go_sem, r0, r1, r2, r3, r4, r5, r6]) rfl ⟨_, rfl, ?_, setB_below HB.out (by omega) _ _ _ _ _ _ _⟩
    rw [HM.out, setB_size]
    exact bm0_in _ _ _ (by have := HB.out.size; omega)
   | true =>
    go_wp2_with fail
    refine (hfk).mono ?_
    rintro e v2 ⟨rfl, hb⟩
    replace HBX := hide (HBX.out.kept hb)
    replace HXB := hide ((hb.block _ (by omega)).trans HXB.out)
    have hs3 := hb.size
    replace z0 := bC hb z0 zz
    replace z1 := bC hb z1 zz
    replace z2 := bC hb z2 zz
    replace z3 := bC hb z3 zz
    replace z4 := bC hb z4 zz
    replace z5 := bC hb z5 zz
    replace z6 := bC hb z6 zz
    replace zz := Nat.lt_of_lt_of_le zz hb.size
    replace c0 := bC hb c0 zc
    replace c1 := bC hb c1 zc
    replace zc := Nat.lt_of_lt_of_le zc hb.size
    replace r0 := bC hb r0 zr
    replace r1 := bC hb r1 zr
    replace r2 := bC hb r2 zr
    replace r3 := bC hb r3 zr
    replace r4 := bC hb r4 zr
    replace r5 := bC hb r5 zr
    replace r6 := bC hb r6 zr
    replace fr0 := bF hb fr0 zr
    replace fr1 := bF hb fr1 zr
    replace fr2 := bF hb fr2 zr
    replace fr3 := bF hb fr3 zr
    replace fr4 := bF hb fr4 zr
    replace fr5 := bF hb fr5 zr
    replace fr6 := bF hb fr6 zr
    replace zr := Nat.lt_of_lt_of_le zr hb.size
    replace x0 := bC hb x0 zx
    replace x1 := bC hb x1 zx
    replace x2 := bC hb x2 zx
    replace x3 := bC hb x3 zx
    replace x4 := bC hb x4 zx
    replace x5 := bC hb x5 zx
    replace x6 := bC hb x6 zx
    replace zx := Nat.lt_of_lt_of_le zx hb.size
    replace HB := hide (HB.out.trans (hb.mono HB.out.size))
    clear hb
    clear hfk
    have hbk := HIB.out v2
    cases vb9 with
    | false =>
     go_wp2_with fail
     refine hbk.mono ?_
     rintro e _ ⟨rfl, rfl⟩
     clear hbk HBX HXB
     have e0 : nr9 = false := by rw [HN.out]; simp
     subst e0
     go_wp2
     refine bodyPost_ret (v := .tuple #[balv 0 (.slice none 0 0) 0 0 (.slice none 0 0) (.slice none 0 0) (.slice none 0 0), .bool false]) (by simp [results, Tryz.results34, go_sem, r0, r1, r2, r3, r4, r5, r6]) rfl ⟨_, rfl, ?_, setB_below HB.out (by omega) _ _ _ _ _ _ _⟩
     rw [HM.out, setB_size]
     exact bm0_in _ _ _ (by have := HB.out.size; omega)
    | true =>
     go_wp2_with fail
     refine hbk.mono ?_
     rintro e _ ⟨rfl, rfl⟩
     clear hbk
     obtain ⟨base, hbs, hrow⟩ := rowOf HBX.out
     dsimp only at hrow
     have hgv : g ≠ v1.heap.size := by
      intro h6
      rcases hrow.2 with ⟨h8, _⟩ | ⟨g9, c9, cur9, h8, _, h9, _⟩
      ·simp at h8
      ·simp at h8
       have h10 := HXB.out
       rw [← h8.1, h6, h10] at h9
       injection h9 with h9
       injection h9 with _ h9 _
       exact absurd h9 (by decide)
     have HDD := hide (HLN.out g xc base v2 HTAB.out (by trivial) (HSTB.out (by trivial)) hrow)
     have HEL := hide (learnL_len lt now a p v)
     have hgW := (hrow.lt g rfl).2
     clear hrow HXB
     have hw0 : w.heap.size < W0.heap.size := by omega
     have hq1 : w.heap.size + 1 + 1 < v1.heap.size := by omega
     have hgw0 : W0.heap.size ≤ g := by omega
     obtain ⟨rl, hrl⟩ : ∃ x, learnL lt now a p v = x := ⟨_, rfl⟩
     rw [hrl] at HDD HEL HM
     clear hrl HLN
     have e0 : nr9 = true := by rw [HN.out]; rfl
     subst e0
     clear HN
     go_wp2_with fail
     refine (HDD.out).mono ?_
     rintro e w5 ⟨rfl, ho5, s5⟩
     have hs5 := s5.size
     replace x0 := s5.cellP x0 (by (try dsimp only); omega)
     replace x1 := s5.cellP x1 (by (try dsimp only); omega)
     replace x2 := s5.cellP x2 (by (try dsimp only); omega)
     replace x3 := s5.cellP x3 (by (try dsimp only); omega)
     replace x4 := s5.cellP x4 (by (try dsimp only); omega)
     replace x5 := s5.cellP x5 (by (try dsimp only); omega)
     replace x6 := s5.cellP x6 (by (try dsimp only); omega)
     replace r0 := s5.cellP r0 (.inl (by (try dsimp only); omega))
     replace r1 := s5.cellP r1 (.inl (by (try dsimp only); omega))
     replace r2 := s5.cellP r2 (.inl (by (try dsimp only); omega))
     replace r3 := s5.cellP r3 (.inl (by (try dsimp only); omega))
     replace r4 := s5.cellP r4 (.inl (by (try dsimp only); omega))
     replace r5 := s5.cellP r5 (.inl (by (try dsimp only); omega))
     replace r6 := s5.cellP r6 (.inl (by (try dsimp only); omega))
     replace fr0 := Stp.frozen s5 fr0 (by omega) (.inl (by (try dsimp only); omega))
     replace fr1 := Stp.frozen s5 fr1 (by omega) (.inl (by (try dsimp only); omega))
     replace fr2 := Stp.frozen s5 fr2 (by omega) (.inl (by (try dsimp only); omega))
     replace fr3 := Stp.frozen s5 fr3 (by omega) (.inl (by (try dsimp only); omega))
     replace fr4 := Stp.frozen s5 fr4 (by omega) (.inl (by (try dsimp only); omega))
     replace fr5 := Stp.frozen s5 fr5 (by omega) (.inl (by (try dsimp only); omega))
     replace fr6 := Stp.frozen s5 fr6 (by omega) (.inl (by (try dsimp only); omega))
     replace HB := hide (HB.out.trans (s5.below (by omega) HB.out.size))
     replace HBX := hide (Bx.turn HBX.out s5 HEL.out base hbs ho5)
     clear ho5 s5 HDD c0 c1 z0 z1 z2 z3 z4 z5 z6 zx zc hW2
     have HPL := hide (plainB_any W0.heap.size g lt.length xc kq yo yn yc sq kr uo un uc vo vn vc ⟨⟨kj, lj, sj⟩, ⟨kp, lb, lr⟩, rl⟩ w5 HEL.out.symm (by dsimp only; rw [HEL.out]; exact f7) (by omega) HBX.out)
     clear HBX
     go_wp2_with fail
     refine (HPL.out).mono ?_
     rintro e w6 ⟨tO, tn, tc, rfl, in6, hb6⟩
     have hs6 := hb6.size
     replace r0 := bC hb6 r0 (by omega)
     replace r1 := bC hb6 r1 (by omega)
     replace r2 := bC hb6 r2 (by omega)
     replace r3 := bC hb6 r3 (by omega)
     replace r4 := bC hb6 r4 (by omega)
     replace r5 := bC hb6 r5 (by omega)
     replace r6 := bC hb6 r6 (by omega)
     replace fr0 := bF hb6 fr0 (by omega)
     replace fr1 := bF hb6 fr1 (by omega)
     replace fr2 := bF hb6 fr2 (by omega)
     replace fr3 := bF hb6 fr3 (by omega)
     replace fr4 := bF hb6 fr4 (by omega)
     replace fr5 := bF hb6 fr5 (by omega)
     replace fr6 := bF hb6 fr6 (by omega)
     replace HB := hide (HB.out.trans (hb6.mono HB.out.size))
     have HI6 := hide in6
     clear in6 hb6 HPL x0 x1 x2 x3 x4 x5 x6
     go_wp2
     refine bodyPost_ret (v := .tuple #[balv kq (.slice yo yn yc) sq kr (.slice uo un uc) (.slice vo vn vc) (.slice tO tn tc), .bool true]) (by simp [results, Tryz.results34, go_sem, r0, r1, r2, r3, r4, r5, r6]) rfl ⟨_, rfl, ?_, setB_below HB.out (by omega) _ _ _ _ _ _ _⟩
     rw [HM.out, setB_size]
     exact (HI6.out.step (stp_setB _ _ _ _ _ _ _ _ _) (.inl (by omega))).mono (by omega) (Nat.le_refl _)

end Go.Proofs.YtmmhgkkcpjhiiaaGreat

namespace Go.Proofs.YtmmhgkkcpjhiiaaGreat
open Go.ChangeShapes Go.WideShapes Go.ChangeAt Go.RowKit Go.Joins
set_option linter.unusedVariables false
set_option linter.unusedSimpArgs false

theorem InBm.stps : Stps InBm := ⟨fun h s hd => InBm.step h s hd⟩
theorem OwBm.stps : Stps OwBm := ⟨fun h s hd => OwBm.step h s hd⟩
theorem setB_cellB {W : World} {B b j : Nat} {u : Value} (h : W.cell? ⟨b, j, none⟩ = some u) (hb : b < B) (x0 x1 x2 x3 x4 x5 x6 : Value) : (setB W B x0 x1 x2 x3 x4 x5 x6).cell? ⟨b, j, none⟩ = some u := (stp_setB W B x0 x1 x2 x3 x4 x5 x6).cellP h (.inl hb)
theorem box_newE {w new : World} {c : Array Value} {T : TypeId} (hb : Below (w.alloc (.cells c T)).heap.size (w.alloc (.cells c T)) new) : new.heap[w.heap.size]? = some (.cells c T (0, 0)) :=
 (hb.block w.heap.size (by simp)).trans (World.alloc_heap_new w (.cells c T))
theorem box_newE0 {w new : World} {c : Array Value} {T : TypeId} (hb : Below ((w.alloc (.cells c T)).drew).heap.size (w.alloc (.cells c T)).drew new) : new.heap[w.heap.size]? = some (.cells c T (0, 0)) := by
 have h1 := hb.block w.heap.size (by simp)
 have h2 : (w.alloc (.cells c T)).drew.heap[w.heap.size]? = (w.alloc (.cells c T)).heap[w.heap.size]? := rfl
 exact h1.trans (h2.trans (World.alloc_heap_new w (.cells c T)))
theorem setB_box {W : World} {R : Nat} {z0 z1 z2 z3 z4 z5 z6 : Value} {T : TypeId} (h : W.heap[R]? = some (.cells #[z0, z1, z2, z3, z4, z5, z6] T (0, 0))) (x0 x1 x2 x3 x4 x5 x6 : Value) : (setB W R x0 x1 x2 x3 x4 x5 x6).heap[R]? = some (.cells #[x0, x1, x2, x3, x4, x5, x6] T (0, 0)) := by
 have h0 : (W.setCell ⟨R, 0, none⟩ x0).heap[R]? = some (.cells #[x0, z1, z2, z3, z4, z5, z6] T (0, 0)) := box_put h 0 x0
 have h1 : ((W.setCell ⟨R, 0, none⟩ x0).setCell ⟨R, 1, none⟩ x1).heap[R]? = some (.cells #[x0, x1, z2, z3, z4, z5, z6] T (0, 0)) := box_put h0 1 x1
 have h2 : (((W.setCell ⟨R, 0, none⟩ x0).setCell ⟨R, 1, none⟩ x1).setCell ⟨R, 2, none⟩ x2).heap[R]? = some (.cells #[x0, x1, x2, z3, z4, z5, z6] T (0, 0)) := box_put h1 2 x2
 have h3 : ((((W.setCell ⟨R, 0, none⟩ x0).setCell ⟨R, 1, none⟩ x1).setCell ⟨R, 2, none⟩ x2).setCell ⟨R, 3, none⟩ x3).heap[R]? = some (.cells #[x0, x1, x2, x3, z4, z5, z6] T (0, 0)) := box_put h2 3 x3
 have h4 : (((((W.setCell ⟨R, 0, none⟩ x0).setCell ⟨R, 1, none⟩ x1).setCell ⟨R, 2, none⟩ x2).setCell ⟨R, 3, none⟩ x3).setCell ⟨R, 4, none⟩ x4).heap[R]? = some (.cells #[x0, x1, x2, x3, x4, z5, z6] T (0, 0)) := box_put h3 4 x4
 have h5 : ((((((W.setCell ⟨R, 0, none⟩ x0).setCell ⟨R, 1, none⟩ x1).setCell ⟨R, 2, none⟩ x2).setCell ⟨R, 3, none⟩ x3).setCell ⟨R, 4, none⟩ x4).setCell ⟨R, 5, none⟩ x5).heap[R]? = some (.cells #[x0, x1, x2, x3, x4, x5, z6] T (0, 0)) := box_put h4 5 x5
 have h6 : (((((((W.setCell ⟨R, 0, none⟩ x0).setCell ⟨R, 1, none⟩ x1).setCell ⟨R, 2, none⟩ x2).setCell ⟨R, 3, none⟩ x3).setCell ⟨R, 4, none⟩ x4).setCell ⟨R, 5, none⟩ x5).setCell ⟨R, 6, none⟩ x6).heap[R]? = some (.cells #[x0, x1, x2, x3, x4, x5, x6] T (0, 0)) := box_put h5 6 x6
 exact h6
theorem cells7 {W : World} {B : Nat} {z0 z1 z2 z3 z4 z5 z6 : Value} {T : TypeId} (h : W.heap[B]? = some (.cells #[z0, z1, z2, z3, z4, z5, z6] T (0, 0))) : W.cell? ⟨B, 0, none⟩ = some z0 ∧ W.cell? ⟨B, 1, none⟩ = some z1 ∧ W.cell? ⟨B, 2, none⟩ = some z2 ∧ W.cell? ⟨B, 3, none⟩ = some z3 ∧ W.cell? ⟨B, 4, none⟩ = some z4 ∧ W.cell? ⟨B, 5, none⟩ = some z5 ∧ W.cell? ⟨B, 6, none⟩ = some z6 ∧ W.frozen? ⟨B, 0, none⟩ = false ∧ W.frozen? ⟨B, 1, none⟩ = false ∧ W.frozen? ⟨B, 2, none⟩ = false ∧ W.frozen? ⟨B, 3, none⟩ = false ∧ W.frozen? ⟨B, 4, none⟩ = false ∧ W.frozen? ⟨B, 5, none⟩ = false ∧ W.frozen? ⟨B, 6, none⟩ = false :=
 ⟨bx_cell h 0 _ rfl, bx_cell h 1 _ rfl, bx_cell h 2 _ rfl, bx_cell h 3 _ rfl, bx_cell h 4 _ rfl, bx_cell h 5 _ rfl, bx_cell h 6 _ rfl, bx_frozen h 0, bx_frozen h 1, bx_frozen h 2, bx_frozen h 3, bx_frozen h 4, bx_frozen h 5, bx_frozen h 6⟩
theorem cellsM7 {W : World} {B : Nat} {z0 z1 z2 z3 z4 z5 z6 : Value} {T : TypeId} (h : W.heap[B]? = some (.cells #[z0, z1, z2, z3, z4, z5, z6] T (0, 0))) : W.cell? ⟨B, 0, none⟩ = some z0 ∧ W.cell? ⟨B, 1, none⟩ = some z1 ∧ W.cell? ⟨B, 2, none⟩ = some z2 ∧ W.cell? ⟨B, 3, none⟩ = some z3 ∧ W.cell? ⟨B, 4, none⟩ = some z4 ∧ W.cell? ⟨B, 5, none⟩ = some z5 ∧ W.cell? ⟨B, 6, none⟩ = some z6 := ⟨bx_cell h 0 _ rfl, bx_cell h 1 _ rfl, bx_cell h 2 _ rfl, bx_cell h 3 _ rfl, bx_cell h 4 _ rfl, bx_cell h 5 _ rfl, bx_cell h 6 _ rfl⟩
theorem finBal {P : Nat → Nat → World → Value → Bm → Prop} (hP : Stps P) {cur W : World} {B lo hi : Nat} {f : Value} {mr : Bm} {o ob oR ot : Option Addr} {c cb cR ct : Nat} {z0 z1 z2 z3 z4 z5 z6 : Value} (hZ : W.heap[B]? = some (.cells #[z0, z1, z2, z3, z4, z5, z6] 34 (0, 0))) (hx : Below cur.heap.size cur W) (hB : cur.heap.size ≤ B) (hi' : P lo hi W (balv mr.j.key (.slice o mr.j.l.length c) mr.j.safe mr.p.key (.slice ob mr.p.l.length cb) (.slice oR mr.p.ring.length cR) (.slice ot mr.t.length ct)) mr) (h1 : cur.heap.size ≤ lo) (h2 : hi ≤ W.heap.size) (h3 : B < lo ∨ hi ≤ B) :
  ∃ B' lo hi o' c' ob' cb' oR' cR' ot' ct', Value.pointer (some ⟨B, 0, none⟩) = .pointer (some ⟨B', 0, none⟩) ∧ f = f ∧ Hid ((setB W B (.int .i64 mr.j.key) (.slice o mr.j.l.length c) (.int .i64 mr.j.safe) (.int .i64 mr.p.key) (.slice ob mr.p.l.length cb) (.slice oR mr.p.ring.length cR) (.slice ot mr.t.length ct)).heap[B']? = some (.cells #[.int .i64 mr.j.key, .slice o' mr.j.l.length c', .int .i64 mr.j.safe, .int .i64 mr.p.key, .slice ob' mr.p.l.length cb', .slice oR' mr.p.ring.length cR', .slice ot' mr.t.length ct'] 34 (0, 0))) ∧ Hid (Below cur.heap.size cur (setB W B (.int .i64 mr.j.key) (.slice o mr.j.l.length c) (.int .i64 mr.j.safe) (.int .i64 mr.p.key) (.slice ob mr.p.l.length cb) (.slice oR mr.p.ring.length cR) (.slice ot mr.t.length ct))) ∧ cur.heap.size ≤ B' ∧ B' < (setB W B (.int .i64 mr.j.key) (.slice o mr.j.l.length c) (.int .i64 mr.j.safe) (.int .i64 mr.p.key) (.slice ob mr.p.l.length cb) (.slice oR mr.p.ring.length cR) (.slice ot mr.t.length ct)).heap.size ∧ Hid (P lo hi (setB W B (.int .i64 mr.j.key) (.slice o mr.j.l.length c) (.int .i64 mr.j.safe) (.int .i64 mr.p.key) (.slice ob mr.p.l.length cb) (.slice oR mr.p.ring.length cR) (.slice ot mr.t.length ct)) (balv mr.j.key (.slice o' mr.j.l.length c') mr.j.safe mr.p.key (.slice ob' mr.p.l.length cb') (.slice oR' mr.p.ring.length cR') (.slice ot' mr.t.length ct')) mr) ∧ cur.heap.size ≤ lo ∧ hi ≤ (setB W B (.int .i64 mr.j.key) (.slice o mr.j.l.length c) (.int .i64 mr.j.safe) (.int .i64 mr.p.key) (.slice ob mr.p.l.length cb) (.slice oR mr.p.ring.length cR) (.slice ot mr.t.length ct)).heap.size ∧ (B' < lo ∨ hi ≤ B') := by
 have b8 := setB_box hZ (.int .i64 mr.j.key) (.slice o mr.j.l.length c) (.int .i64 mr.j.safe) (.int .i64 mr.p.key) (.slice ob mr.p.l.length cb) (.slice oR mr.p.ring.length cR) (.slice ot mr.t.length ct)
 exact ⟨B, lo, hi, o, c, ob, cb, oR, cR, ot, ct, rfl, rfl, b8, setB_below hx hB _ _ _ _ _ _ _, hB, (Array.getElem?_eq_some_iff.1 b8).1, hP.go hi' (stp_setB W B _ _ _ _ _ _ _) (by omega), h1, by rw [setB_size]; exact h2, h3⟩
theorem finBaln {P : Nat → Nat → World → Value → Bm → Prop} (hP : Stps P) {cur W : World} {lo hi : Nat} {f : Value} {mr : Bm} {o ob oR ot : Option Addr} {c cb cR ct : Nat} (hx : Below cur.heap.size cur W) (hi' : P lo hi W (balv mr.j.key (.slice o mr.j.l.length c) mr.j.safe mr.p.key (.slice ob mr.p.l.length cb) (.slice oR mr.p.ring.length cR) (.slice ot mr.t.length ct)) mr) (h1 : cur.heap.size ≤ lo) (h2 : hi ≤ W.heap.size) :
  ∃ B' lo hi o' c' ob' cb' oR' cR' ot' ct', Value.pointer (some ⟨W.heap.size, 0, none⟩) = .pointer (some ⟨B', 0, none⟩) ∧ f = f ∧ Hid ((W.alloc (.cells #[.int .i64 mr.j.key, .slice o mr.j.l.length c, .int .i64 mr.j.safe, .int .i64 mr.p.key, .slice ob mr.p.l.length cb, .slice oR mr.p.ring.length cR, .slice ot mr.t.length ct] 34)).heap[B']? = some (.cells #[.int .i64 mr.j.key, .slice o' mr.j.l.length c', .int .i64 mr.j.safe, .int .i64 mr.p.key, .slice ob' mr.p.l.length cb', .slice oR' mr.p.ring.length cR', .slice ot' mr.t.length ct'] 34 (0, 0))) ∧ Hid (Below cur.heap.size cur (W.alloc (.cells #[.int .i64 mr.j.key, .slice o mr.j.l.length c, .int .i64 mr.j.safe, .int .i64 mr.p.key, .slice ob mr.p.l.length cb, .slice oR mr.p.ring.length cR, .slice ot mr.t.length ct] 34))) ∧ cur.heap.size ≤ B' ∧ B' < (W.alloc (.cells #[.int .i64 mr.j.key, .slice o mr.j.l.length c, .int .i64 mr.j.safe, .int .i64 mr.p.key, .slice ob mr.p.l.length cb, .slice oR mr.p.ring.length cR, .slice ot mr.t.length ct] 34)).heap.size ∧ Hid (P lo hi (W.alloc (.cells #[.int .i64 mr.j.key, .slice o mr.j.l.length c, .int .i64 mr.j.safe, .int .i64 mr.p.key, .slice ob mr.p.l.length cb, .slice oR mr.p.ring.length cR, .slice ot mr.t.length ct] 34)) (balv mr.j.key (.slice o' mr.j.l.length c') mr.j.safe mr.p.key (.slice ob' mr.p.l.length cb') (.slice oR' mr.p.ring.length cR') (.slice ot' mr.t.length ct')) mr) ∧ cur.heap.size ≤ lo ∧ hi ≤ (W.alloc (.cells #[.int .i64 mr.j.key, .slice o mr.j.l.length c, .int .i64 mr.j.safe, .int .i64 mr.p.key, .slice ob mr.p.l.length cb, .slice oR mr.p.ring.length cR, .slice ot mr.t.length ct] 34)).heap.size ∧ (B' < lo ∨ hi ≤ B') :=
 ⟨W.heap.size, lo, hi, o, c, ob, cb, oR, cR, ot, ct, rfl, rfl, World.alloc_heap_new W _, hx.alloc hx.size _, hx.size, by simp, hP.go hi' (Stp.of (lo := 0) (hi := 0) ((Below.refl _ _).alloc (Nat.le_refl _) _)) (.inl (Nat.zero_le _)), h1, by simp; omega, .inr h2⟩

end Go.Proofs.YtmmhgkkcpjhiiaaGreat

namespace Go.Proofs.YtmmhgkkcpjhiiaaGreat
open Go.ChangeShapes Go.WideShapes Go.ChangeAt Go.RowKit Go.Joins
set_option linter.unusedVariables false
set_option linter.unusedSimpArgs false


theorem cellsLawsBal : Tryz.prog.cellsOf 93 = 7 := by kernel_rfl
theorem cellsIntB : Tryz.prog.cellsOf 3 = 1 := by kernel_rfl
theorem cellsLawsBackSB : Tryz.prog.cellsOf 86 = 1 := by kernel_rfl
theorem cellsIntSSSB : Tryz.prog.cellsOf 27 = 1 := by kernel_rfl
theorem array7 {α : Type} {cs : Array α} (h : cs.size = 7) : ∃ c0 c1 c2 c3 c4 c5 c6, cs = #[c0, c1, c2, c3, c4, c5, c6] := by
 match cs, h with
 | ⟨[c0, c1, c2, c3, c4, c5, c6]⟩, _ => exact ⟨c0, c1, c2, c3, c4, c5, c6, rfl⟩
set_option maxRecDepth 100000 in
set_option maxHeartbeats 1000000 in
theorem open_bal {H : Type} {enc : TypeId × Value → H} {W : World} {base : Nat} {v : Value} {d : DataW H} {p : List MemPlace}
  (hv : Value.okWide Tryz.prog W .any base 93 v) (h : DataW.Trod enc Tryz.prog W 0 (fun _ => true) true 93 v d p) :
  ∃ m : Bm, RdBm W.heap.size W v m ∧ lenBm m := by
 obtain ⟨cs, rfl, hsz⟩ := okWide_struct Tryz.underlying93 hv
 obtain ⟨c0, c1, c2, c3, c4, c5, c6, rfl⟩ := array7 (hsz.trans cellsLawsBal)
 obtain ⟨fuel, hf⟩ := h
 obtain ⟨y0, y1, y2, n, _, _, h0, h1, h2⟩ := Go.Deep.trod_struct3 (cs := [c0, c1, c2, c3, c4, c5, c6]) Tryz.underlying93 (by simpa [Value.cells] using hf)
 simp [cellsLawsJ, cellsLawsPool, cellsLawsT] at h0 h1 h2
 obtain ⟨z0, z1, z2, n0, _, _, q0, q1, q2⟩ := Go.Deep.trod_struct3 Tryz.underlying85 h0
 simp [cellsIntB, cellsLawsCmdS] at q0 q1 q2
 obtain ⟨t0, t1, t2, n1, _, _, r0, r1, r2⟩ := Go.Deep.trod_struct3 Tryz.underlying88 h1
 simp [cellsIntB, cellsLawsBackSB, cellsIntSSSB] at r0 r1 r2
 obtain ⟨a, e0, _, _⟩ := DataW.trod_int Tryz.underlying3 q0
 obtain ⟨o, cap, l, e1, l1, rd1⟩ := open_cmds_cells q1
 obtain ⟨b, e2, _, _⟩ := DataW.trod_int Tryz.underlying3 q2
 obtain ⟨k, e3, _, _⟩ := DataW.trod_int Tryz.underlying3 r0
 obtain ⟨o2, cap2, l2, e4, ll2, rd2⟩ := open_backs_cells r1
 obtain ⟨oR, cR, ll, e5, l3, rr, l4, l5⟩ := open_rows3_cells r2
 obtain ⟨o6, cap6, l6, e6, ll6, rd6⟩ := open_table_cells rfl h2
 simp at e0 e1 e2 e3 e4 e5 e6
 subst e0 e1 e2 e3 e4 e5 e6
 exact ⟨⟨⟨a, l, b⟩, ⟨k, l2, ll⟩, l6⟩, ⟨_, _, _, _, rfl, ⟨_, rfl, _, _, rfl, rd1⟩, ⟨_, _, rfl, RiV.of rd2, rr⟩, ⟨_, rfl, _, _, rfl, rd6⟩⟩, ⟨l1, ⟨ll2, l3, l4, l5⟩, ll6⟩⟩

end Go.Proofs.YtmmhgkkcpjhiiaaGreat

