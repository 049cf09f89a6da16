/- Several texts in one: SBTick, CutB, OpenB. -/
import Derived.Test.YtmmhgkkcpjhiiaaGreatQBalTick36
import Derived.Test.YtmmhgkkcpjhiiaaGreatQBalTick40
import Derived.Test.YtmmhgkkcpjhiiaaGreatQBalTick43
import Derived.Test.YtmmhgkkcpjhiiaaGreatQBalTick47
import Derived.Test.YtmmhgkkcpjhiiaaGreatQBalTick41
/- What is due goes: the program's BalTick. -/
namespace Go.Proofs.YtmmhgkkcpjhiiaaGreat
open Go.ChangeShapes Go.WideShapes Go.ChangeAt Go.RowKit Go.Joins
set_option linter.unusedVariables false
set_option linter.unusedSimpArgs false


/-- The hints' row has turned, and nothing else. -/
theorem Bx.turn {lo : Nat} {w w' : World} {g xc : Nat} {kj : Int} {vl : Value} {sj kp : Int} {vb vr : Value} {m : Bm} {t : List Sl} (h : Bx lo w g xc kj vl sj kp vb vr m) (s : Stp g (g + 1) w w') (hl : t.length = m.t.length) (base : Nat) (hb : lo ≤ base) (ho : w'.ownsRow base CellT 5 (.slice (some ⟨g, 0, none⟩) m.t.length xc) m.t.length (t.flatMap layS.cs)) : Bx lo w' g xc kj vl sj kp vb vr ⟨m.j, m.p, t⟩ := by
 obtain ⟨h1, h2, h3, _, ⟨j0, j1, p0, p1, k1, k2, k3, k4, k5, k6, k7, i1, i2⟩⟩ := h
 have hs := s.size
 exact ⟨h1, h2, h3, ⟨base, hb, by dsimp only; rw [hl]; exact ho⟩, ⟨j0, j1, p0, p1, k1, by omega, k3, by omega, k5, k6, k7, i1.step s (by omega), i2.step s (by omega)⟩⟩
theorem rowOf {lo : Nat} {w : World} {g xc : Nat} {kj : Int} {vl : Value} {sj kp : Int} {vb vr : Value} {m : Bm} (h : Bx lo w g xc kj vl sj kp vb vr m) : ∃ base, lo ≤ base ∧ w.ownsRow base CellT 5 (.slice (some ⟨g, 0, none⟩) m.t.length xc) m.t.length (m.t.flatMap layS.cs) := h.row

set_option maxRecDepth 100000 in
set_option maxHeartbeats 4000000 in
theorem implBalTick_any (kj : Int) (o : Option Addr) (nj c : Nat) (sj kp : Int) (ob : Option Addr) (np cb : Nat) (oR : Option Addr) (nr cR : Nat) (ot : Option Addr) (nt ct : Nat) (lj : List Cd) (lb : List Bk) (lr : List (List (List Int))) (lt : List Sl) (now : Int) (w : World)
  (hnj : nj = lj.length) (hnt : nt = lt.length) (h1 : RdC w.heap.size w o lj) (h1c : o = none → c = 0) (h2 : RdPm w.heap.size w (plv kp (.slice ob np cb) (.slice oR nr cR)) ⟨kp, lb, lr⟩) (h4 : RdS w.heap.size w ot lt) (hf : fitB0 ⟨⟨kj, lj, sj⟩, ⟨kp, lb, lr⟩, lt⟩) :
  Calls Tryz.prog 44 #[balv kj (.slice o nj c) sj kp (.slice ob np cb) (.slice oR nr cR) (.slice ot nt ct), .int .i64 now] w fun e w' => ∃ v', e = .returned (.tuple #[v', .int .i64 (tickBN ⟨⟨kj, lj, sj⟩, ⟨kp, lb, lr⟩, lt⟩ now)]) ∧ InBm w.heap.size w'.heap.size w' v' (tickB0 ⟨⟨kj, lj, sj⟩, ⟨kp, lb, lr⟩, lt⟩ now) ∧ Below w.heap.size w w' := by
 have HBF := hide (fun W (hb : Below w.heap.size w W) => balFrom_any kj o nj c sj kp ob np cb oR nr cR ot nt ct lj lb lr lt W hnj hnt ((h1.kept hb (Nat.le_refl _)).le hb.size) h1c ((h2.kept hb (Nat.le_refl _)).le hb.size) ((h4.kept hb (Nat.le_refl _)).le hb.size) hf)
 have f7 : lt.length ≤ 1048576 := hf.2.2
 have HBP := hide (fun h => balB_pos (m := ⟨⟨kj, lj, sj⟩, ⟨kp, lb, lr⟩, lt⟩) h)
 have HSM := hide (fun h => balB_same (m := ⟨⟨kj, lj, sj⟩, ⟨kp, lb, lr⟩, lt⟩) h)
 have HTB := hide (fun h => balB_tab (m := ⟨⟨kj, lj, sj⟩, ⟨kp, lb, lr⟩, lt⟩) h)
 have HM := hide (show tickB0 ⟨⟨kj, lj, sj⟩, ⟨kp, lb, lr⟩, lt⟩ now = if (balB ⟨⟨kj, lj, sj⟩, ⟨kp, lb, lr⟩, lt⟩ && (decide (0 ≤ now) && decide (now ≤ 100000))) = true then ⟨⟨kj, lj, sj⟩, ⟨kp, lb, lr⟩, (expL lt now).1⟩ else bm0 from rfl)
 have HN := hide (show tickBN ⟨⟨kj, lj, sj⟩, ⟨kp, lb, lr⟩, lt⟩ now = if (balB ⟨⟨kj, lj, sj⟩, ⟨kp, lb, lr⟩, lt⟩ && (decide (0 ≤ now) && decide (now ≤ 100000))) = true then (((expL lt now).2 : Nat) : Int) else -1 from rfl)
 dsimp only at HBP HSM HTB
 clear h1 h2 h4 hnj hnt hf
 obtain ⟨bb, hbb⟩ : ∃ x, balB ⟨⟨kj, lj, sj⟩, ⟨kp, lb, lr⟩, lt⟩ = x := ⟨_, rfl⟩
 obtain ⟨mr, hmr⟩ : ∃ r, tickB0 ⟨⟨kj, lj, sj⟩, ⟨kp, lb, lr⟩, lt⟩ now = r := ⟨_, rfl⟩
 obtain ⟨nr9, hnr⟩ : ∃ r, tickBN ⟨⟨kj, lj, sj⟩, ⟨kp, lb, lr⟩, lt⟩ now = r := ⟨_, rfl⟩
 obtain ⟨sb, hsb⟩ : ∃ r, (decide (0 ≤ now) && decide (now ≤ 100000)) = r := ⟨_, rfl⟩
 have HST := hide (fun W => isStamp_any now W)
 rw [hmr, hnr]
 rw [hbb] at HBF HBP HSM HTB HM HN
 rw [hmr] at HM
 rw [hnr] at HN
 rw [hsb] at HM HN HST
 clear hbb hmr hnr hsb
 obtain ⟨W0, hW0⟩ : ∃ W, ((w.alloc (.cells #[.int .i64 kj, .slice o nj c, .int .i64 sj, .int .i64 kp, .slice ob np cb, .slice oR nr cR, .slice ot nt ct] 34)).alloc (.cells #[.int .i64 0, .slice none 0 0, .int .i64 0, .int .i64 0, .slice none 0 0, .slice none 0 0, .slice none 0 0] 34)) = W := ⟨_, rfl⟩
 have hb_W0 : Below w.heap.size w W0 := by rw [← hW0]; exact (((Below.refl _ _).alloc (Nat.le_refl _) _).alloc (by simp <;> omega) _)
 have HB := hide hb_W0
 clear hb_W0
 have zz : w.heap.size < W0.heap.size := by rw [← hW0]; simp <;> omega
 have z0 : W0.cell? ⟨w.heap.size, 0, none⟩ = some (.int .i64 kj) := by rw [← hW0]; simp [go_sem]
 have z1 : W0.cell? ⟨w.heap.size, 1, none⟩ = some (.slice o nj c) := by rw [← hW0]; simp [go_sem]
 have z2 : W0.cell? ⟨w.heap.size, 2, none⟩ = some (.int .i64 sj) := by rw [← hW0]; simp [go_sem]
 have z3 : W0.cell? ⟨w.heap.size, 3, none⟩ = some (.int .i64 kp) := by rw [← hW0]; simp [go_sem]
 have z4 : W0.cell? ⟨w.heap.size, 4, none⟩ = some (.slice ob np cb) := by rw [← hW0]; simp [go_sem]
 have z5 : W0.cell? ⟨w.heap.size, 5, none⟩ = some (.slice oR nr cR) := by rw [← hW0]; simp [go_sem]
 have z6 : W0.cell? ⟨w.heap.size, 6, none⟩ = some (.slice ot nt ct) := by rw [← hW0]; simp [go_sem]
 have zr : w.heap.size + 1 < W0.heap.size := by rw [← hW0]; simp
 have r0 : W0.cell? ⟨w.heap.size + 1, 0, none⟩ = some (.int .i64 0) := by rw [← hW0]; simp [go_sem]
 have r1 : W0.cell? ⟨w.heap.size + 1, 1, none⟩ = some (.slice none 0 0) := by rw [← hW0]; simp [go_sem]
 have r2 : W0.cell? ⟨w.heap.size + 1, 2, none⟩ = some (.int .i64 0) := by rw [← hW0]; simp [go_sem]
 have r3 : W0.cell? ⟨w.heap.size + 1, 3, none⟩ = some (.int .i64 0) := by rw [← hW0]; simp [go_sem]
 have r4 : W0.cell? ⟨w.heap.size + 1, 4, none⟩ = some (.slice none 0 0) := by rw [← hW0]; simp [go_sem]
 have r5 : W0.cell? ⟨w.heap.size + 1, 5, none⟩ = some (.slice none 0 0) := by rw [← hW0]; simp [go_sem]
 have r6 : W0.cell? ⟨w.heap.size + 1, 6, none⟩ = some (.slice none 0 0) := by rw [← hW0]; simp [go_sem]
 have fr0 : W0.frozen? ⟨w.heap.size + 1, 0, none⟩ = false := by rw [← hW0]; simp [go_sem]
 have fr1 : W0.frozen? ⟨w.heap.size + 1, 1, none⟩ = false := by rw [← hW0]; simp [go_sem]
 have fr2 : W0.frozen? ⟨w.heap.size + 1, 2, none⟩ = false := by rw [← hW0]; simp [go_sem]
 have fr3 : W0.frozen? ⟨w.heap.size + 1, 3, none⟩ = false := by rw [← hW0]; simp [go_sem]
 have fr4 : W0.frozen? ⟨w.heap.size + 1, 4, none⟩ = false := by rw [← hW0]; simp [go_sem]
 have fr5 : W0.frozen? ⟨w.heap.size + 1, 5, none⟩ = false := by rw [← hW0]; simp [go_sem]
 have fr6 : W0.frozen? ⟨w.heap.size + 1, 6, none⟩ = false := by rw [← hW0]; simp [go_sem]
 have hzr : w.heap.size + 1 < W0.heap.size := zr
 go_enter Tryz.func44, Tryz.ntmps44
 go_wp2_with fail
 refine (HBF.out W0 HB.out).mono ?_
 rintro e v1 ⟨xo, xn, xc, kq, yo, yn, yc, sq, kr, uo, un, uc, vo, vn, vc, rfl, hin, hb⟩
 have HIN := hide hin
 have hs1 := hb.size
 clear hin HBF
 replace z0 := bC hb z0 zz
 replace z1 := bC hb z1 zz
 replace z2 := bC hb z2 zz
 replace z3 := bC hb z3 zz
 replace z4 := bC hb z4 zz
 replace z5 := bC hb z5 zz
 replace z6 := bC hb z6 zz
 replace zz := Nat.lt_of_lt_of_le zz hb.size
 replace r0 := bC hb r0 zr
 replace r1 := bC hb r1 zr
 replace r2 := bC hb r2 zr
 replace r3 := bC hb r3 zr
 replace r4 := bC hb r4 zr
 replace r5 := bC hb r5 zr
 replace r6 := bC hb r6 zr
 replace fr0 := bF hb fr0 zr
 replace fr1 := bF hb fr1 zr
 replace fr2 := bF hb fr2 zr
 replace fr3 := bF hb fr3 zr
 replace fr4 := bF hb fr4 zr
 replace fr5 := bF hb fr5 zr
 replace fr6 := bF hb fr6 zr
 replace zr := Nat.lt_of_lt_of_le zr hb.size
 replace HB := hide (HB.out.trans (hb.mono HB.out.size))
 clear hb
 cases bb with
 | false =>
  obtain ⟨W2, hW2⟩ : ∃ W, (v1.alloc (.cells #[.slice xo xn xc, .int .i64 kq, .slice yo yn yc, .int .i64 sq, .int .i64 kr, .slice uo un uc, .slice vo vn vc] 152)) = W := ⟨_, rfl⟩
  have hb_W2 : Below v1.heap.size v1 W2 := by rw [← hW2]; exact ((Below.refl _ _).alloc (Nat.le_refl _) _)
  replace z0 := bC hb_W2 z0 zz
  replace z1 := bC hb_W2 z1 zz
  replace z2 := bC hb_W2 z2 zz
  replace z3 := bC hb_W2 z3 zz
  replace z4 := bC hb_W2 z4 zz
  replace z5 := bC hb_W2 z5 zz
  replace z6 := bC hb_W2 z6 zz
  replace zz := Nat.lt_of_lt_of_le zz hb_W2.size
  replace r0 := bC hb_W2 r0 zr
  replace r1 := bC hb_W2 r1 zr
  replace r2 := bC hb_W2 r2 zr
  replace r3 := bC hb_W2 r3 zr
  replace r4 := bC hb_W2 r4 zr
  replace r5 := bC hb_W2 r5 zr
  replace r6 := bC hb_W2 r6 zr
  replace fr0 := bF hb_W2 fr0 zr
  replace fr1 := bF hb_W2 fr1 zr
  replace fr2 := bF hb_W2 fr2 zr
  replace fr3 := bF hb_W2 fr3 zr
  replace fr4 := bF hb_W2 fr4 zr
  replace fr5 := bF hb_W2 fr5 zr
  replace fr6 := bF hb_W2 fr6 zr
  replace zr := Nat.lt_of_lt_of_le zr hb_W2.size
  replace HB := hide (HB.out.trans (hb_W2.mono HB.out.size))
  clear hb_W2
  have zx : v1.heap.size < W2.heap.size := by rw [← hW2]; simp
  have x0 : W2.cell? ⟨v1.heap.size, 0, none⟩ = some (.slice xo xn xc) := by rw [← hW2]; simp [go_sem]
  have x1 : W2.cell? ⟨v1.heap.size, 1, none⟩ = some (.int .i64 kq) := by rw [← hW2]; simp [go_sem]
  have x2 : W2.cell? ⟨v1.heap.size, 2, none⟩ = some (.slice yo yn yc) := by rw [← hW2]; simp [go_sem]
  have x3 : W2.cell? ⟨v1.heap.size, 3, none⟩ = some (.int .i64 sq) := by rw [← hW2]; simp [go_sem]
  have x4 : W2.cell? ⟨v1.heap.size, 4, none⟩ = some (.int .i64 kr) := by rw [← hW2]; simp [go_sem]
  have x5 : W2.cell? ⟨v1.heap.size, 5, none⟩ = some (.slice uo un uc) := by rw [← hW2]; simp [go_sem]
  have x6 : W2.cell? ⟨v1.heap.size, 6, none⟩ = some (.slice vo vn vc) := by rw [← hW2]; simp [go_sem]
  clear HIN
  have e0 : nr9 = -1 := by rw [HN.out]; rfl
  subst e0
  go_wp2
  refine bodyPost_ret (v := .tuple #[balv 0 (.slice none 0 0) 0 0 (.slice none 0 0) (.slice none 0 0) (.slice none 0 0), .int .i64 (-1)]) (by simp [results, Tryz.results44, go_sem, r0, r1, r2, r3, r4, r5, r6]) rfl ⟨_, rfl, ?_, setB_below HB.out (by omega) _ _ _ _ _ _ _⟩
  rw [HM.out, setB_size]
  exact bm0_in _ _ _ (by have := HB.out.size; omega)
 | true =>
  have hn := HBP.out rfl
  have hsm := HSM.out rfl
  have htb := HTB.out rfl
  obtain ⟨g, rfl, rfl, hgl, bx⟩ := Bx.of (HIN.out rfl) hn
  rw [← hsm] at bx
  have HBX := hide bx
  have HTAB := hide htb
  clear bx HIN HBP HSM HTB hsm htb
  obtain ⟨W2, hW2⟩ : ∃ W, (v1.alloc (.cells #[.slice (some ⟨g, 0, none⟩) lt.length xc, .int .i64 kq, .slice yo yn yc, .int .i64 sq, .int .i64 kr, .slice uo un uc, .slice vo vn vc] 152)) = W := ⟨_, rfl⟩
  have hb_W2 : Below v1.heap.size v1 W2 := by rw [← hW2]; exact ((Below.refl _ _).alloc (Nat.le_refl _) _)
  replace z0 := bC hb_W2 z0 zz
  replace z1 := bC hb_W2 z1 zz
  replace z2 := bC hb_W2 z2 zz
  replace z3 := bC hb_W2 z3 zz
  replace z4 := bC hb_W2 z4 zz
  replace z5 := bC hb_W2 z5 zz
  replace z6 := bC hb_W2 z6 zz
  replace zz := Nat.lt_of_lt_of_le zz hb_W2.size
  replace r0 := bC hb_W2 r0 zr
  replace r1 := bC hb_W2 r1 zr
  replace r2 := bC hb_W2 r2 zr
  replace r3 := bC hb_W2 r3 zr
  replace r4 := bC hb_W2 r4 zr
  replace r5 := bC hb_W2 r5 zr
  replace r6 := bC hb_W2 r6 zr
  replace fr0 := bF hb_W2 fr0 zr
  replace fr1 := bF hb_W2 fr1 zr
  replace fr2 := bF hb_W2 fr2 zr
  replace fr3 := bF hb_W2 fr3 zr
  replace fr4 := bF hb_W2 fr4 zr
  replace fr5 := bF hb_W2 fr5 zr
  replace fr6 := bF hb_W2 fr6 zr
  replace zr := Nat.lt_of_lt_of_le zr hb_W2.size
  replace HB := hide (HB.out.trans (hb_W2.mono HB.out.size))
  clear hb_W2
  have zx : v1.heap.size < W2.heap.size := by rw [← hW2]; simp
  have x0 : W2.cell? ⟨v1.heap.size, 0, none⟩ = some (.slice (some ⟨g, 0, none⟩) lt.length xc) := by rw [← hW2]; simp [go_sem]
  have x1 : W2.cell? ⟨v1.heap.size, 1, none⟩ = some (.int .i64 kq) := by rw [← hW2]; simp [go_sem]
  have x2 : W2.cell? ⟨v1.heap.size, 2, none⟩ = some (.slice yo yn yc) := by rw [← hW2]; simp [go_sem]
  have x3 : W2.cell? ⟨v1.heap.size, 3, none⟩ = some (.int .i64 sq) := by rw [← hW2]; simp [go_sem]
  have x4 : W2.cell? ⟨v1.heap.size, 4, none⟩ = some (.int .i64 kr) := by rw [← hW2]; simp [go_sem]
  have x5 : W2.cell? ⟨v1.heap.size, 5, none⟩ = some (.slice uo un uc) := by rw [← hW2]; simp [go_sem]
  have x6 : W2.cell? ⟨v1.heap.size, 6, none⟩ = some (.slice vo vn vc) := by rw [← hW2]; simp [go_sem]
  replace HBX := hide (HBX.out.kept (show Below v1.heap.size v1 W2 by rw [← hW2]; exact (Below.refl _ _).alloc (Nat.le_refl _) _))
  have hs2 : v1.heap.size < W2.heap.size := zx
  have hck := HST.out W2
  cases sb with
  | false =>
   go_wp2_with fail
   refine hck.mono ?_
   rintro e _ ⟨rfl, rfl⟩
   clear hck HBX
   have e0 : nr9 = -1 := by rw [HN.out]; rfl
   subst e0
   go_wp2
   refine bodyPost_ret (v := .tuple #[balv 0 (.slice none 0 0) 0 0 (.slice none 0 0) (.slice none 0 0) (.slice none 0 0), .int .i64 (-1)]) (by simp [results, Tryz.results44, go_sem, r0, r1, r2, r3, r4, r5, r6]) rfl ⟨_, rfl, ?_, setB_below HB.out (by omega) _ _ _ _ _ _ _⟩
   rw [HM.out, setB_size]
   exact bm0_in _ _ _ (by have := HB.out.size; omega)
  | true =>
   go_wp2_with fail
   refine hck.mono ?_
   rintro e _ ⟨rfl, rfl⟩
   clear hck
   obtain ⟨base, hbs, hrow⟩ := rowOf HBX.out
   dsimp only at hrow
   have hgv : g < v1.heap.size := by
    have h5 : g < W2.heap.size := (hrow.lt g rfl).2
    rcases Nat.lt_or_ge g v1.heap.size with h | h
    ·exact h
    ·exfalso
     have h6 : g = v1.heap.size := by have h7 : W2.heap.size = v1.heap.size + 1 := (by rw [← hW2]; simp); omega
     rcases hrow.2 with ⟨h8, _⟩ | ⟨g9, c9, cur9, h8, _, h9, _⟩
     ·simp at h8
     ·simp at h8
      have h10 : W2.heap[v1.heap.size]? = some (.cells #[.slice (some ⟨g, 0, none⟩) lt.length xc, .int .i64 kq, .slice yo yn yc, .int .i64 sq, .int .i64 kr, .slice uo un uc, .slice vo vn vc] 152 (0, 0)) := by rw [← hW2]; exact World.alloc_heap_new v1 _
      rw [← h8.1, h6, h10] at h9
      injection h9 with h9
      injection h9 with _ h9 _
      exact absurd h9 (by decide)
   have HDD := hide (dropDueH_any g xc base lt.length lt now W2 rfl HTAB.out hrow)
   have HEL := hide (expL_length lt now)
   clear hrow
   have hw0 : w.heap.size < W0.heap.size := by omega
   have hq1 : w.heap.size + 1 < v1.heap.size := by omega
   have hgw0 : W0.heap.size ≤ g := by omega
   obtain ⟨rl, hrl⟩ : ∃ x, (expL lt now).1 = x := ⟨_, rfl⟩
   obtain ⟨rn, hrn⟩ : ∃ x, (expL lt now).2 = x := ⟨_, rfl⟩
   rw [hrl] at HDD HEL HM
   rw [hrn] at HDD HN
   clear hrl hrn
   have e0 : nr9 = (rn : Int) := by rw [HN.out]; rfl
   subst e0
   clear HN
   go_wp2_with fail
   refine (HDD.out).mono ?_
   rintro e w5 ⟨rfl, ho5, s5⟩
   have hs5 := s5.size
   replace x0 := s5.cellP x0 (.inr (by (try dsimp only); omega))
   replace x1 := s5.cellP x1 (.inr (by (try dsimp only); omega))
   replace x2 := s5.cellP x2 (.inr (by (try dsimp only); omega))
   replace x3 := s5.cellP x3 (.inr (by (try dsimp only); omega))
   replace x4 := s5.cellP x4 (.inr (by (try dsimp only); omega))
   replace x5 := s5.cellP x5 (.inr (by (try dsimp only); omega))
   replace x6 := s5.cellP x6 (.inr (by (try dsimp only); omega))
   replace r0 := s5.cellP r0 (.inl (by (try dsimp only); omega))
   replace r1 := s5.cellP r1 (.inl (by (try dsimp only); omega))
   replace r2 := s5.cellP r2 (.inl (by (try dsimp only); omega))
   replace r3 := s5.cellP r3 (.inl (by (try dsimp only); omega))
   replace r4 := s5.cellP r4 (.inl (by (try dsimp only); omega))
   replace r5 := s5.cellP r5 (.inl (by (try dsimp only); omega))
   replace r6 := s5.cellP r6 (.inl (by (try dsimp only); omega))
   replace fr0 := Stp.frozen s5 fr0 (by omega) (.inl (by (try dsimp only); omega))
   replace fr1 := Stp.frozen s5 fr1 (by omega) (.inl (by (try dsimp only); omega))
   replace fr2 := Stp.frozen s5 fr2 (by omega) (.inl (by (try dsimp only); omega))
   replace fr3 := Stp.frozen s5 fr3 (by omega) (.inl (by (try dsimp only); omega))
   replace fr4 := Stp.frozen s5 fr4 (by omega) (.inl (by (try dsimp only); omega))
   replace fr5 := Stp.frozen s5 fr5 (by omega) (.inl (by (try dsimp only); omega))
   replace fr6 := Stp.frozen s5 fr6 (by omega) (.inl (by (try dsimp only); omega))
   replace HB := hide (HB.out.trans (s5.below (by omega) HB.out.size))
   replace HBX := hide (Bx.turn HBX.out s5 HEL.out base hbs ho5)
   clear ho5 s5 HDD z0 z1 z2 z3 z4 z5 z6 zx hW2
   have HPL := hide (plainB_any W0.heap.size g lt.length xc kq yo yn yc sq kr uo un uc vo vn vc ⟨⟨kj, lj, sj⟩, ⟨kp, lb, lr⟩, rl⟩ w5 HEL.out.symm (by dsimp only; rw [HEL.out]; exact f7) (by omega) HBX.out)
   clear HBX
   go_wp2_with fail
   refine (HPL.out).mono ?_
   rintro e w6 ⟨tO, tn, tc, rfl, in6, hb6⟩
   have hs6 := hb6.size
   replace r0 := bC hb6 r0 (by omega)
   replace r1 := bC hb6 r1 (by omega)
   replace r2 := bC hb6 r2 (by omega)
   replace r3 := bC hb6 r3 (by omega)
   replace r4 := bC hb6 r4 (by omega)
   replace r5 := bC hb6 r5 (by omega)
   replace r6 := bC hb6 r6 (by omega)
   replace fr0 := bF hb6 fr0 (by omega)
   replace fr1 := bF hb6 fr1 (by omega)
   replace fr2 := bF hb6 fr2 (by omega)
   replace fr3 := bF hb6 fr3 (by omega)
   replace fr4 := bF hb6 fr4 (by omega)
   replace fr5 := bF hb6 fr5 (by omega)
   replace fr6 := bF hb6 fr6 (by omega)
   replace HB := hide (HB.out.trans (hb6.mono HB.out.size))
   have HI6 := hide in6
   clear in6 hb6 HPL x0 x1 x2 x3 x4 x5 x6
   go_wp2
   refine bodyPost_ret (v := .tuple #[balv kq (.slice yo yn yc) sq kr (.slice uo un uc) (.slice vo vn vc) (.slice tO tn tc), .int .i64 rn]) (by simp [results, Tryz.results44, go_sem, r0, r1, r2, r3, r4, r5, r6]) rfl ⟨_, rfl, ?_, setB_below HB.out (by omega) _ _ _ _ _ _ _⟩
   rw [HM.out, setB_size]
   exact (HI6.out.step (stp_setB _ _ _ _ _ _ _ _ _) (.inl (by omega))).mono (by omega) (Nat.le_refl _)

end Go.Proofs.YtmmhgkkcpjhiiaaGreat

/- A box of a balancer that is laid at any place among calls: what its end wants. -/
namespace Go.Proofs.YtmmhgkkcpjhiiaaGreat
open Go.ChangeShapes Go.WideShapes Go.ChangeAt Go.RowKit Go.Joins
set_option linter.unusedVariables false
set_option linter.unusedSimpArgs false

theorem cellsM7 {W : World} {B : Nat} {z0 z1 z2 z3 z4 z5 z6 : Value} {T : TypeId} (h : W.heap[B]? = some (.cells #[z0, z1, z2, z3, z4, z5, z6] T (0, 0))) : W.cell? ⟨B, 0, none⟩ = some z0 ∧ W.cell? ⟨B, 1, none⟩ = some z1 ∧ W.cell? ⟨B, 2, none⟩ = some z2 ∧ W.cell? ⟨B, 3, none⟩ = some z3 ∧ W.cell? ⟨B, 4, none⟩ = some z4 ∧ W.cell? ⟨B, 5, none⟩ = some z5 ∧ W.cell? ⟨B, 6, none⟩ = some z6 := ⟨bx_cell h 0 _ rfl, bx_cell h 1 _ rfl, bx_cell h 2 _ rfl, bx_cell h 3 _ rfl, bx_cell h 4 _ rfl, bx_cell h 5 _ rfl, bx_cell h 6 _ rfl⟩
end Go.Proofs.YtmmhgkkcpjhiiaaGreat

/- A balancer that came in. -/
namespace Go.Proofs.YtmmhgkkcpjhiiaaGreat
open Go.ChangeShapes Go.WideShapes Go.ChangeAt Go.RowKit Go.Joins
set_option linter.unusedVariables false
set_option linter.unusedSimpArgs false


theorem cellsLawsBal : Tryz.prog.cellsOf 93 = 7 := by kernel_rfl
theorem cellsIntB : Tryz.prog.cellsOf 3 = 1 := by kernel_rfl
theorem cellsLawsBackSB : Tryz.prog.cellsOf 86 = 1 := by kernel_rfl
theorem cellsIntSSSB : Tryz.prog.cellsOf 27 = 1 := by kernel_rfl
theorem array7 {α : Type} {cs : Array α} (h : cs.size = 7) : ∃ c0 c1 c2 c3 c4 c5 c6, cs = #[c0, c1, c2, c3, c4, c5, c6] := by
 match cs, h with
 | ⟨[c0, c1, c2, c3, c4, c5, c6]⟩, _ => exact ⟨c0, c1, c2, c3, c4, c5, c6, rfl⟩
set_option maxRecDepth 100000 in
set_option maxHeartbeats 1000000 in
theorem open_bal {H : Type} {enc : TypeId × Value → H} {W : World} {base : Nat} {v : Value} {d : DataW H} {p : List MemPlace}
  (hv : Value.okWide Tryz.prog W .any base 93 v) (h : DataW.Trod enc Tryz.prog W 0 (fun _ => true) true 93 v d p) :
  ∃ m : Bm, RdBm W.heap.size W v m ∧ lenBm m := by
 obtain ⟨cs, rfl, hsz⟩ := okWide_struct Tryz.underlying93 hv
 obtain ⟨c0, c1, c2, c3, c4, c5, c6, rfl⟩ := array7 (hsz.trans cellsLawsBal)
 obtain ⟨fuel, hf⟩ := h
 obtain ⟨y0, y1, y2, n, _, _, h0, h1, h2⟩ := Go.Deep.trod_struct3 (cs := [c0, c1, c2, c3, c4, c5, c6]) Tryz.underlying93 (by simpa [Value.cells] using hf)
 simp [cellsLawsJ, cellsLawsPool, cellsLawsT] at h0 h1 h2
 obtain ⟨z0, z1, z2, n0, _, _, q0, q1, q2⟩ := Go.Deep.trod_struct3 Tryz.underlying85 h0
 simp [cellsIntB, cellsLawsCmdS] at q0 q1 q2
 obtain ⟨t0, t1, t2, n1, _, _, r0, r1, r2⟩ := Go.Deep.trod_struct3 Tryz.underlying88 h1
 simp [cellsIntB, cellsLawsBackSB, cellsIntSSSB] at r0 r1 r2
 obtain ⟨a, e0, _, _⟩ := DataW.trod_int Tryz.underlying3 q0
 obtain ⟨o, cap, l, e1, l1, rd1⟩ := open_cmds_cells q1
 obtain ⟨b, e2, _, _⟩ := DataW.trod_int Tryz.underlying3 q2
 obtain ⟨k, e3, _, _⟩ := DataW.trod_int Tryz.underlying3 r0
 obtain ⟨o2, cap2, l2, e4, ll2, rd2⟩ := open_backs_cells r1
 obtain ⟨oR, cR, ll, e5, l3, rr, l4, l5⟩ := open_rows3_cells r2
 obtain ⟨o6, cap6, l6, e6, ll6, rd6⟩ := open_table_cells rfl h2
 simp at e0 e1 e2 e3 e4 e5 e6
 subst e0 e1 e2 e3 e4 e5 e6
 exact ⟨⟨⟨a, l, b⟩, ⟨k, l2, ll⟩, l6⟩, ⟨_, _, _, _, rfl, ⟨_, rfl, _, _, rfl, rd1⟩, ⟨_, _, rfl, RiV.of rd2, rr⟩, ⟨_, rfl, _, _, rfl, rd6⟩⟩, ⟨l1, ⟨ll2, l3, l4, l5⟩, ll6⟩⟩

end Go.Proofs.YtmmhgkkcpjhiiaaGreat

