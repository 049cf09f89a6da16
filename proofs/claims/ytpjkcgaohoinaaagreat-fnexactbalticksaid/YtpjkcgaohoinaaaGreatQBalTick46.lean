/- Several texts in one: SBTick, BalTickW. -/
import Derived.Test.YtpjkcgaohoinaaaGreatQBalTick34
import Derived.Test.YtpjkcgaohoinaaaGreatQBalTick37
import Derived.Test.YtpjkcgaohoinaaaGreatQBalTick40
import Derived.Test.YtpjkcgaohoinaaaGreatQBalTick45
import Derived.Deep.RegionHeld3
import Derived.Deep.CutRange
import Derived.Test.YtpjkcgaohoinaaaGreatQBalTick39
import Derived.Test.YtpjkcgaohoinaaaGreatQBalTick29
/- What is due goes: the program's BalTick. -/
namespace Go.Proofs.YtpjkcgaohoinaaaGreat
open Go.ChangeShapes Go.WideShapes Go.ChangeAt Go.RowKit Go.Joins
set_option linter.unusedVariables false
set_option linter.unusedSimpArgs false


/-- The hints' row has turned, and nothing else. -/
theorem Bx.turn {lo : Nat} {w w' : World} {g xc : Nat} {kj : Int} {vl : Value} {sj kp : Int} {vb vr : Value} {m : Bm} {t : List Sl} (h : Bx lo w g xc kj vl sj kp vb vr m) (s : Stp g (g + 1) w w') (hl : t.length = m.t.length) (base : Nat) (hb : lo ≤ base) (ho : w'.ownsRow base CellT 5 (.slice (some ⟨g, 0, none⟩) m.t.length xc) m.t.length (t.flatMap layS.cs)) : Bx lo w' g xc kj vl sj kp vb vr ⟨m.j, m.p, t⟩ := by
 obtain ⟨h1, h2, h3, _, ⟨j0, j1, p0, p1, k1, k2, k3, k4, k5, k6, k7, i1, i2⟩⟩ := h
 have hs := s.size
 exact ⟨h1, h2, h3, ⟨base, hb, by dsimp only; rw [hl]; exact ho⟩, ⟨j0, j1, p0, p1, k1, by omega, k3, by omega, k5, k6, k7, i1.step s (by omega), i2.step s (by omega)⟩⟩
theorem rowOf {lo : Nat} {w : World} {g xc : Nat} {kj : Int} {vl : Value} {sj kp : Int} {vb vr : Value} {m : Bm} (h : Bx lo w g xc kj vl sj kp vb vr m) : ∃ base, lo ≤ base ∧ w.ownsRow base CellT 5 (.slice (some ⟨g, 0, none⟩) m.t.length xc) m.t.length (m.t.flatMap layS.cs) := h.row

set_option maxRecDepth 100000 in
set_option maxHeartbeats 4000000 in
theorem implBalTick_any (kj : Int) (o : Option Addr) (nj c : Nat) (sj kp : Int) (ob : Option Addr) (np cb : Nat) (oR : Option Addr) (nr cR : Nat) (ot : Option Addr) (nt ct : Nat) (lj : List Cd) (lb : List Bk) (lr : List (List (List Int))) (lt : List Sl) (now : Int) (w : World)
  (hnj : nj = lj.length) (hnt : nt = lt.length) (h1 : RdC w.heap.size w o lj) (h1c : o = none → c = 0) (h2 : RdPm w.heap.size w (plv kp (.slice ob np cb) (.slice oR nr cR)) ⟨kp, lb, lr⟩) (h4 : RdS w.heap.size w ot lt) (hf : fitB0 ⟨⟨kj, lj, sj⟩, ⟨kp, lb, lr⟩, lt⟩) :
  Calls Tryz.prog 14 #[balv kj (.slice o nj c) sj kp (.slice ob np cb) (.slice oR nr cR) (.slice ot nt ct), .int .i64 now] w fun e w' => ∃ v', e = .returned (.tuple #[v', .int .i64 (tickBN ⟨⟨kj, lj, sj⟩, ⟨kp, lb, lr⟩, lt⟩ now)]) ∧ InBm w.heap.size w'.heap.size w' v' (tickB0 ⟨⟨kj, lj, sj⟩, ⟨kp, lb, lr⟩, lt⟩ now) ∧ Below w.heap.size w w' := by
 have HBF := hide (fun W (hb : Below w.heap.size w W) => balFrom_any kj o nj c sj kp ob np cb oR nr cR ot nt ct lj lb lr lt W hnj hnt ((h1.kept hb (Nat.le_refl _)).le hb.size) h1c ((h2.kept hb (Nat.le_refl _)).le hb.size) ((h4.kept hb (Nat.le_refl _)).le hb.size) hf)
 have f7 : lt.length ≤ 1048576 := hf.2.2
 have HBP := hide (fun h => balB_pos (m := ⟨⟨kj, lj, sj⟩, ⟨kp, lb, lr⟩, lt⟩) h)
 have HSM := hide (fun h => balB_same (m := ⟨⟨kj, lj, sj⟩, ⟨kp, lb, lr⟩, lt⟩) h)
 have HTB := hide (fun h => balB_tab (m := ⟨⟨kj, lj, sj⟩, ⟨kp, lb, lr⟩, lt⟩) h)
 have HM := hide (show tickB0 ⟨⟨kj, lj, sj⟩, ⟨kp, lb, lr⟩, lt⟩ now = if (balB ⟨⟨kj, lj, sj⟩, ⟨kp, lb, lr⟩, lt⟩ && (decide (0 ≤ now) && decide (now ≤ 100000))) = true then ⟨⟨kj, lj, sj⟩, ⟨kp, lb, lr⟩, (expL lt now).1⟩ else bm0 from rfl)
 have HN := hide (show tickBN ⟨⟨kj, lj, sj⟩, ⟨kp, lb, lr⟩, lt⟩ now = if (balB ⟨⟨kj, lj, sj⟩, ⟨kp, lb, lr⟩, lt⟩ && (decide (0 ≤ now) && decide (now ≤ 100000))) = true then (((expL lt now).2 : Nat) : Int) else -1 from rfl)
 dsimp only at HBP HSM HTB
 clear h1 h2 h4 hnj hnt hf
 obtain ⟨bb, hbb⟩ : ∃ x, balB ⟨⟨kj, lj, sj⟩, ⟨kp, lb, lr⟩, lt⟩ = x := ⟨_, rfl⟩
 obtain ⟨mr, hmr⟩ : ∃ r, tickB0 ⟨⟨kj, lj, sj⟩, ⟨kp, lb, lr⟩, lt⟩ now = r := ⟨_, rfl⟩
 obtain ⟨nr9, hnr⟩ : ∃ r, tickBN ⟨⟨kj, lj, sj⟩, ⟨kp, lb, lr⟩, lt⟩ now = r := ⟨_, rfl⟩
 obtain ⟨sb, hsb⟩ : ∃ r, (decide (0 ≤ now) && decide (now ≤ 100000)) = r := ⟨_, rfl⟩
 have HST := hide (fun W => isStamp_any now W)
 rw [hmr, hnr]
 rw [hbb] at HBF HBP HSM HTB HM HN
 rw [hmr] at HM
 rw [hnr] at HN
 rw [hsb] at HM HN HST
 clear hbb hmr hnr hsb
 obtain ⟨W0, hW0⟩ : ∃ W, ((w.alloc (.cells #[.int .i64 kj, .slice o nj c, .int .i64 sj, .int .i64 kp, .slice ob np cb, .slice oR nr cR, .slice ot nt ct] 47)).alloc (.cells #[.int .i64 0, .slice none 0 0, .int .i64 0, .int .i64 0, .slice none 0 0, .slice none 0 0, .slice none 0 0] 47)) = W := ⟨_, rfl⟩
 have hb_W0 : Below w.heap.size w W0 := by rw [← hW0]; exact (((Below.refl _ _).alloc (Nat.le_refl _) _).alloc (by simp <;> omega) _)
 have HB := hide hb_W0
 clear hb_W0
 have zz : w.heap.size < W0.heap.size := by rw [← hW0]; simp <;> omega
 have z0 : W0.cell? ⟨w.heap.size, 0, none⟩ = some (.int .i64 kj) := by rw [← hW0]; simp [go_sem]
 have z1 : W0.cell? ⟨w.heap.size, 1, none⟩ = some (.slice o nj c) := by rw [← hW0]; simp [go_sem]
 have z2 : W0.cell? ⟨w.heap.size, 2, none⟩ = some (.int .i64 sj) := by rw [← hW0]; simp [go_sem]
 have z3 : W0.cell? ⟨w.heap.size, 3, none⟩ = some (.int .i64 kp) := by rw [← hW0]; simp [go_sem]
 have z4 : W0.cell? ⟨w.heap.size, 4, none⟩ = some (.slice ob np cb) := by rw [← hW0]; simp [go_sem]
 have z5 : W0.cell? ⟨w.heap.size, 5, none⟩ = some (.slice oR nr cR) := by rw [← hW0]; simp [go_sem]
 have z6 : W0.cell? ⟨w.heap.size, 6, none⟩ = some (.slice ot nt ct) := by rw [← hW0]; simp [go_sem]
 have zr : w.heap.size + 1 < W0.heap.size := by rw [← hW0]; simp
 have r0 : W0.cell? ⟨w.heap.size + 1, 0, none⟩ = some (.int .i64 0) := by rw [← hW0]; simp [go_sem]
 have r1 : W0.cell? ⟨w.heap.size + 1, 1, none⟩ = some (.slice none 0 0) := by rw [← hW0]; simp [go_sem]
 have r2 : W0.cell? ⟨w.heap.size + 1, 2, none⟩ = some (.int .i64 0) := by rw [← hW0]; simp [go_sem]
 have r3 : W0.cell? ⟨w.heap.size + 1, 3, none⟩ = some (.int .i64 0) := by rw [← hW0]; simp [go_sem]
 have r4 : W0.cell? ⟨w.heap.size + 1, 4, none⟩ = some (.slice none 0 0) := by rw [← hW0]; simp [go_sem]
 have r5 : W0.cell? ⟨w.heap.size + 1, 5, none⟩ = some (.slice none 0 0) := by rw [← hW0]; simp [go_sem]
 have r6 : W0.cell? ⟨w.heap.size + 1, 6, none⟩ = some (.slice none 0 0) := by rw [← hW0]; simp [go_sem]
 have fr0 : W0.frozen? ⟨w.heap.size + 1, 0, none⟩ = false := by rw [← hW0]; simp [go_sem]
 have fr1 : W0.frozen? ⟨w.heap.size + 1, 1, none⟩ = false := by rw [← hW0]; simp [go_sem]
 have fr2 : W0.frozen? ⟨w.heap.size + 1, 2, none⟩ = false := by rw [← hW0]; simp [go_sem]
 have fr3 : W0.frozen? ⟨w.heap.size + 1, 3, none⟩ = false := by rw [← hW0]; simp [go_sem]
 have fr4 : W0.frozen? ⟨w.heap.size + 1, 4, none⟩ = false := by rw [← hW0]; simp [go_sem]
 have fr5 : W0.frozen? ⟨w.heap.size + 1, 5, none⟩ = false := by rw [← hW0]; simp [go_sem]
 have fr6 : W0.frozen? ⟨w.heap.size + 1, 6, none⟩ = false := by rw [← hW0]; simp [go_sem]
 have hzr : w.heap.size + 1 < W0.heap.size := zr
 go_enter Tryz.func14, Tryz.ntmps14
 go_wp2_with fail
 refine (HBF.out W0 HB.out).mono ?_
 rintro e v1 ⟨xo, xn, xc, kq, yo, yn, yc, sq, kr, uo, un, uc, vo, vn, vc, rfl, hin, hb⟩
 have HIN := hide hin
 have hs1 := hb.size
 clear hin HBF
 replace z0 := bC hb z0 zz
 replace z1 := bC hb z1 zz
 replace z2 := bC hb z2 zz
 replace z3 := bC hb z3 zz
 replace z4 := bC hb z4 zz
 replace z5 := bC hb z5 zz
 replace z6 := bC hb z6 zz
 replace zz := Nat.lt_of_lt_of_le zz hb.size
 replace r0 := bC hb r0 zr
 replace r1 := bC hb r1 zr
 replace r2 := bC hb r2 zr
 replace r3 := bC hb r3 zr
 replace r4 := bC hb r4 zr
 replace r5 := bC hb r5 zr
 replace r6 := bC hb r6 zr
 replace fr0 := bF hb fr0 zr
 replace fr1 := bF hb fr1 zr
 replace fr2 := bF hb fr2 zr
 replace fr3 := bF hb fr3 zr
 replace fr4 := bF hb fr4 zr
 replace fr5 := bF hb fr5 zr
 replace fr6 := bF hb fr6 zr
 replace zr := Nat.lt_of_lt_of_le zr hb.size
 replace HB := hide (HB.out.trans (hb.mono HB.out.size))
 clear hb
 cases bb with
 | false =>
  obtain ⟨W2, hW2⟩ : ∃ W, (v1.alloc (.cells #[.slice xo xn xc, .int .i64 kq, .slice yo yn yc, .int .i64 sq, .int .i64 kr, .slice uo un uc, .slice vo vn vc] 76)) = W := ⟨_, rfl⟩
  have hb_W2 : Below v1.heap.size v1 W2 := by rw [← hW2]; exact ((Below.refl _ _).alloc (Nat.le_refl _) _)
  replace z0 := bC hb_W2 z0 zz
  replace z1 := bC hb_W2 z1 zz
  replace z2 := bC hb_W2 z2 zz
  replace z3 := bC hb_W2 z3 zz
  replace z4 := bC hb_W2 z4 zz
  replace z5 := bC hb_W2 z5 zz
  replace z6 := bC hb_W2 z6 zz
  replace zz := Nat.lt_of_lt_of_le zz hb_W2.size
  replace r0 := bC hb_W2 r0 zr
  replace r1 := bC hb_W2 r1 zr
  replace r2 := bC hb_W2 r2 zr
  replace r3 := bC hb_W2 r3 zr
  replace r4 := bC hb_W2 r4 zr
  replace r5 := bC hb_W2 r5 zr
  replace r6 := bC hb_W2 r6 zr
  replace fr0 := bF hb_W2 fr0 zr
  replace fr1 := bF hb_W2 fr1 zr
  replace fr2 := bF hb_W2 fr2 zr
  replace fr3 := bF hb_W2 fr3 zr
  replace fr4 := bF hb_W2 fr4 zr
  replace fr5 := bF hb_W2 fr5 zr
  replace fr6 := bF hb_W2 fr6 zr
  replace zr := Nat.lt_of_lt_of_le zr hb_W2.size
  replace HB := hide (HB.out.trans (hb_W2.mono HB.out.size))
  clear hb_W2
  have zx : v1.heap.size < W2.heap.size := by rw [← hW2]; simp
  have x0 : W2.cell? ⟨v1.heap.size, 0, none⟩ = some (.slice xo xn xc) := by rw [← hW2]; simp [go_sem]
  have x1 : W2.cell? ⟨v1.heap.size, 1, none⟩ = some (.int .i64 kq) := by rw [← hW2]; simp [go_sem]
  have x2 : W2.cell? ⟨v1.heap.size, 2, none⟩ = some (.slice yo yn yc) := by rw [← hW2]; simp [go_sem]
  have x3 : W2.cell? ⟨v1.heap.size, 3, none⟩ = some (.int .i64 sq) := by rw [← hW2]; simp [go_sem]
  have x4 : W2.cell? ⟨v1.heap.size, 4, none⟩ = some (.int .i64 kr) := by rw [← hW2]; simp [go_sem]
  have x5 : W2.cell? ⟨v1.heap.size, 5, none⟩ = some (.slice uo un uc) := by rw [← hW2]; simp [go_sem]
  have x6 : W2.cell? ⟨v1.heap.size, 6, none⟩ = some (.slice vo vn vc) := by rw [← hW2]; simp [go_sem]
  clear HIN
  have e0 : nr9 = -1 := by rw [HN.out]; rfl
  subst e0
  go_wp2
  refine bodyPost_ret (v := .tuple #[balv 0 (.slice none 0 0) 0 0 (.slice none 0 0) (.slice none 0 0) (.slice none 0 0), .int .i64 (-1)]) (by simp [results, Tryz.results14, go_sem, r0, r1, r2, r3, r4, r5, r6]) rfl ⟨_, rfl, ?_, setB_below HB.out (by omega) _ _ _ _ _ _ _⟩
  rw [HM.out, setB_size]
  exact bm0_in _ _ _ (by have := HB.out.size; omega)
 | true =>
  have hn := HBP.out rfl
  have hsm := HSM.out rfl
  have htb := HTB.out rfl
  obtain ⟨g, rfl, rfl, hgl, bx⟩ := Bx.of (HIN.out rfl) hn
  rw [← hsm] at bx
  have HBX := hide bx
  have HTAB := hide htb
  clear bx HIN HBP HSM HTB hsm htb
  obtain ⟨W2, hW2⟩ : ∃ W, (v1.alloc (.cells #[.slice (some ⟨g, 0, none⟩) lt.length xc, .int .i64 kq, .slice yo yn yc, .int .i64 sq, .int .i64 kr, .slice uo un uc, .slice vo vn vc] 76)) = W := ⟨_, rfl⟩
  have hb_W2 : Below v1.heap.size v1 W2 := by rw [← hW2]; exact ((Below.refl _ _).alloc (Nat.le_refl _) _)
  replace z0 := bC hb_W2 z0 zz
  replace z1 := bC hb_W2 z1 zz
  replace z2 := bC hb_W2 z2 zz
  replace z3 := bC hb_W2 z3 zz
  replace z4 := bC hb_W2 z4 zz
  replace z5 := bC hb_W2 z5 zz
  replace z6 := bC hb_W2 z6 zz
  replace zz := Nat.lt_of_lt_of_le zz hb_W2.size
  replace r0 := bC hb_W2 r0 zr
  replace r1 := bC hb_W2 r1 zr
  replace r2 := bC hb_W2 r2 zr
  replace r3 := bC hb_W2 r3 zr
  replace r4 := bC hb_W2 r4 zr
  replace r5 := bC hb_W2 r5 zr
  replace r6 := bC hb_W2 r6 zr
  replace fr0 := bF hb_W2 fr0 zr
  replace fr1 := bF hb_W2 fr1 zr
  replace fr2 := bF hb_W2 fr2 zr
  replace fr3 := bF hb_W2 fr3 zr
  replace fr4 := bF hb_W2 fr4 zr
  replace fr5 := bF hb_W2 fr5 zr
  replace fr6 := bF hb_W2 fr6 zr
  replace zr := Nat.lt_of_lt_of_le zr hb_W2.size
  replace HB := hide (HB.out.trans (hb_W2.mono HB.out.size))
  clear hb_W2
  have zx : v1.heap.size < W2.heap.size := by rw [← hW2]; simp
  have x0 : W2.cell? ⟨v1.heap.size, 0, none⟩ = some (.slice (some ⟨g, 0, none⟩) lt.length xc) := by rw [← hW2]; simp [go_sem]
  have x1 : W2.cell? ⟨v1.heap.size, 1, none⟩ = some (.int .i64 kq) := by rw [← hW2]; simp [go_sem]
  have x2 : W2.cell? ⟨v1.heap.size, 2, none⟩ = some (.slice yo yn yc) := by rw [← hW2]; simp [go_sem]
  have x3 : W2.cell? ⟨v1.heap.size, 3, none⟩ = some (.int .i64 sq) := by rw [← hW2]; simp [go_sem]
  have x4 : W2.cell? ⟨v1.heap.size, 4, none⟩ = some (.int .i64 kr) := by rw [← hW2]; simp [go_sem]
  have x5 : W2.cell? ⟨v1.heap.size, 5, none⟩ = some (.slice uo un uc) := by rw [← hW2]; simp [go_sem]
  have x6 : W2.cell? ⟨v1.heap.size, 6, none⟩ = some (.slice vo vn vc) := by rw [← hW2]; simp [go_sem]
  replace HBX := hide (HBX.out.kept (show Below v1.heap.size v1 W2 by rw [← hW2]; exact (Below.refl _ _).alloc (Nat.le_refl _) _))
  have hs2 : v1.heap.size < W2.heap.size := zx
  have hck := HST.out W2
  cases sb with
  | false =>
   go_wp2_with fail
   refine hck.mono ?_
   rintro e _ ⟨rfl, rfl⟩
   clear hck HBX
   have e0 : nr9 = -1 := by rw [HN.out]; rfl
   subst e0
   go_wp2
   refine bodyPost_ret (v := .tuple #[balv 0 (.slice none 0 0) 0 0 (.slice none 0 0) (.slice none 0 0) (.slice none 0 0), .int .i64 (-1)]) (by simp [results, Tryz.results14, go_sem, r0, r1, r2, r3, r4, r5, r6]) rfl ⟨_, rfl, ?_, setB_below HB.out (by omega) _ _ _ _ _ _ _⟩
   rw [HM.out, setB_size]
   exact bm0_in _ _ _ (by have := HB.out.size; omega)
  | true =>
   go_wp2_with fail
   refine hck.mono ?_
   rintro e _ ⟨rfl, rfl⟩
   clear hck
   obtain ⟨base, hbs, hrow⟩ := rowOf HBX.out
   dsimp only at hrow
   have hgv : g < v1.heap.size := by
    have h5 : g < W2.heap.size := (hrow.lt g rfl).2
    rcases Nat.lt_or_ge g v1.heap.size with h | h
    ·exact h
    ·exfalso
     have h6 : g = v1.heap.size := by have h7 : W2.heap.size = v1.heap.size + 1 := (by rw [← hW2]; simp); omega
     rcases hrow.2 with ⟨h8, _⟩ | ⟨g9, c9, cur9, h8, _, h9, _⟩
     ·simp at h8
     ·simp at h8
      have h10 : W2.heap[v1.heap.size]? = some (.cells #[.slice (some ⟨g, 0, none⟩) lt.length xc, .int .i64 kq, .slice yo yn yc, .int .i64 sq, .int .i64 kr, .slice uo un uc, .slice vo vn vc] 76 (0, 0)) := by rw [← hW2]; exact World.alloc_heap_new v1 _
      rw [← h8.1, h6, h10] at h9
      injection h9 with h9
      injection h9 with _ h9 _
      exact absurd h9 (by decide)
   have HDD := hide (dropDueH_any g xc base lt.length lt now W2 rfl HTAB.out hrow)
   have HEL := hide (expL_length lt now)
   clear hrow
   have hw0 : w.heap.size < W0.heap.size := by omega
   have hq1 : w.heap.size + 1 < v1.heap.size := by omega
   have hgw0 : W0.heap.size ≤ g := by omega
   obtain ⟨rl, hrl⟩ : ∃ x, (expL lt now).1 = x := ⟨_, rfl⟩
   obtain ⟨rn, hrn⟩ : ∃ x, (expL lt now).2 = x := ⟨_, rfl⟩
   rw [hrl] at HDD HEL HM
   rw [hrn] at HDD HN
   clear hrl hrn
   have e0 : nr9 = (rn : Int) := by rw [HN.out]; rfl
   subst e0
   clear HN
   go_wp2_with fail
   refine (HDD.out).mono ?_
   rintro e w5 ⟨rfl, ho5, s5⟩
   have hs5 := s5.size
   replace x0 := s5.cellP x0 (.inr (by (try dsimp only); omega))
   replace x1 := s5.cellP x1 (.inr (by (try dsimp only); omega))
   replace x2 := s5.cellP x2 (.inr (by (try dsimp only); omega))
   replace x3 := s5.cellP x3 (.inr (by (try dsimp only); omega))
   replace x4 := s5.cellP x4 (.inr (by (try dsimp only); omega))
   replace x5 := s5.cellP x5 (.inr (by (try dsimp only); omega))
   replace x6 := s5.cellP x6 (.inr (by (try dsimp only); omega))
   replace r0 := s5.cellP r0 (.inl (by (try dsimp only); omega))
   replace r1 := s5.cellP r1 (.inl (by (try dsimp only); omega))
   replace r2 := s5.cellP r2 (.inl (by (try dsimp only); omega))
   replace r3 := s5.cellP r3 (.inl (by (try dsimp only); omega))
   replace r4 := s5.cellP r4 (.inl (by (try dsimp only); omega))
   replace r5 := s5.cellP r5 (.inl (by (try dsimp only); omega))
   replace r6 := s5.cellP r6 (.inl (by (try dsimp only); omega))
   replace fr0 := Stp.frozen s5 fr0 (by omega) (.inl (by (try dsimp only); omega))
   replace fr1 := Stp.frozen s5 fr1 (by omega) (.inl (by (try dsimp only); omega))
   replace fr2 := Stp.frozen s5 fr2 (by omega) (.inl (by (try dsimp only); omega))
   replace fr3 := Stp.frozen s5 fr3 (by omega) (.inl (by (try dsimp only); omega))
   replace fr4 := Stp.frozen s5 fr4 (by omega) (.inl (by (try dsimp only); omega))
   replace fr5 := Stp.frozen s5 fr5 (by omega) (.inl (by (try dsimp only); omega))
   replace fr6 := Stp.frozen s5 fr6 (by omega) (.inl (by (try dsimp only); omega))
   replace HB := hide (HB.out.trans (s5.below (by omega) HB.out.size))
   replace HBX := hide (Bx.turn HBX.out s5 HEL.out base hbs ho5)
   clear ho5 s5 HDD z0 z1 z2 z3 z4 z5 z6 zx hW2
   have HPL := hide (plainB_any W0.heap.size g lt.length xc kq yo yn yc sq kr uo un uc vo vn vc ⟨⟨kj, lj, sj⟩, ⟨kp, lb, lr⟩, rl⟩ w5 HEL.out.symm (by dsimp only; rw [HEL.out]; exact f7) (by omega) HBX.out)
   clear HBX
   go_wp2_with fail
   refine (HPL.out).mono ?_
   rintro e w6 ⟨tO, tn, tc, rfl, in6, hb6⟩
   have hs6 := hb6.size
   replace r0 := bC hb6 r0 (by omega)
   replace r1 := bC hb6 r1 (by omega)
   replace r2 := bC hb6 r2 (by omega)
   replace r3 := bC hb6 r3 (by omega)
   replace r4 := bC hb6 r4 (by omega)
   replace r5 := bC hb6 r5 (by omega)
   replace r6 := bC hb6 r6 (by omega)
   replace fr0 := bF hb6 fr0 (by omega)
   replace fr1 := bF hb6 fr1 (by omega)
   replace fr2 := bF hb6 fr2 (by omega)
   replace fr3 := bF hb6 fr3 (by omega)
   replace fr4 := bF hb6 fr4 (by omega)
   replace fr5 := bF hb6 fr5 (by omega)
   replace fr6 := bF hb6 fr6 (by omega)
   replace HB := hide (HB.out.trans (hb6.mono HB.out.size))
   have HI6 := hide in6
   clear in6 hb6 HPL x0 x1 x2 x3 x4 x5 x6
   go_wp2
   refine bodyPost_ret (v := .tuple #[balv kq (.slice yo yn yc) sq kr (.slice uo un uc) (.slice vo vn vc) (.slice tO tn tc), .int .i64 rn]) (by simp [results, Tryz.results14, go_sem, r0, r1, r2, r3, r4, r5, r6]) rfl ⟨_, rfl, ?_, setB_below HB.out (by omega) _ _ _ _ _ _ _⟩
   rw [HM.out, setB_size]
   exact (HI6.out.step (stp_setB _ _ _ _ _ _ _ _ _) (.inl (by omega))).mono (by omega) (Nat.le_refl _)

end Go.Proofs.YtpjkcgaohoinaaaGreat

/- The walk of the law beside. -/
namespace Go.Proofs.YtpjkcgaohoinaaaGreat
open Go.ChangeShapes Go.WideShapes Go.ChangeAt Go.RowKit Go.Joins
set_option linter.unusedVariables false
set_option linter.unusedSimpArgs false

theorem tick0_fit (m : Bm) (now : Int) : fitBm (tickB0 m now) := by
 unfold tickB0
 split
 ·next h =>
  unfold tickBB at h
  rw [Bool.and_eq_true] at h
  exact ⟨by have := (journal_facts (balB_jrn h.1)).2.1; show m.j.l.length ≤ _; omega, (show fitPm m.p from balB_fit h.1), by show (expL m.t now).1.length ≤ _; rw [expL_length]; have := (tableOkB_iff.1 (balB_tab h.1)).2.1; omega⟩
 ·exact ⟨by simp [bm0, jm0], by have h := pnew_fit (-1); have e : pnewM (-1) = pm0 := (by rfl); rw [e] at h; exact h, by simp [bm0]⟩
theorem specBalTick_in (lo hi : Nat) (v : Value) (m : Bm) (now : Int) (w : World) (h : InBm lo hi w v m) (hh : hi ≤ w.heap.size) (hf : fitB0 m) :
  Calls Tryz.prog 13 #[v, .int .i64 now] w fun e w' => ∃ v', e = .returned (.tuple #[v', .int .i64 (tickBN m now)]) ∧ OwBm w.heap.size w'.heap.size w' v' (tickB0 m now) ∧ Below w.heap.size w w' := by
 have hO := h.ow.mono (Nat.le_refl _) hh
 obtain ⟨o, c, ob, cb, oR, cR, ot, ct, rfl, r1, r2, r3, r4⟩ := balIn_open h hh
 exact specBalTick_any m.j.key o m.j.l.length c m.j.safe m.p.key ob m.p.l.length cb oR m.p.ring.length cR ot m.t.length ct m.j.l m.p.l m.p.ring m.t now w rfl rfl r1 r2 r3 r4 hf hO
theorem implBalTick_in (lo hi : Nat) (v : Value) (m : Bm) (now : Int) (w : World) (h : InBm lo hi w v m) (hh : hi ≤ w.heap.size) (hf : fitB0 m) :
  Calls Tryz.prog 14 #[v, .int .i64 now] w fun e w' => ∃ v', e = .returned (.tuple #[v', .int .i64 (tickBN m now)]) ∧ InBm w.heap.size w'.heap.size w' v' (tickB0 m now) ∧ Below w.heap.size w w' := by
 have hO := h.ow.mono (Nat.le_refl _) hh
 obtain ⟨o, c, ob, cb, oR, cR, ot, ct, rfl, r1, r2, r3, r4⟩ := balIn_open h hh
 exact implBalTick_any m.j.key o m.j.l.length c m.j.safe m.p.key ob m.p.l.length cb oR m.p.ring.length cR ot m.t.length ct m.j.l m.p.l m.p.ring m.t now w rfl rfl r1 r2 r3 r4 hf

set_option maxRecDepth 100000 in
set_option maxHeartbeats 32000000 in
theorem lawFnExactBalTick (v : Value) (m : Bm) (now : Int) (w : World) (hR : RdBm w.heap.size w v m) (hl : lenBm m) :
  Calls Tryz.prog 4 #[v, .int .i64 now] w fun e w' => e = .returned (.bool true) ∧ Below w.heap.size w w' := by
 obtain ⟨oa, ca, oba, cba, oRa, cRa, ota, cta, eva⟩ := hR.opn
 subst eva
 obtain ⟨w0, hw0⟩ : ∃ W, (w.alloc (.cells #[.int .i64 m.j.key, .slice oa m.j.l.length ca, .int .i64 m.j.safe, .int .i64 m.p.key, .slice oba m.p.l.length cba, .slice oRa m.p.ring.length cRa, .slice ota m.t.length cta] 33)) = W := ⟨_, rfl⟩
 have B_w0 : Below w.heap.size w w0 := by rw [← hw0]; exact ((Below.refl _ _).alloc (Nat.le_refl _) _)
 have hz_w0 : w.heap.size < w0.heap.size := by rw [← hw0]; simp
 have bxa : w0.heap[w.heap.size]? = some (.cells #[.int .i64 m.j.key, .slice oa m.j.l.length ca, .int .i64 m.j.safe, .int .i64 m.p.key, .slice oba m.p.l.length cba, .slice oRa m.p.ring.length cRa, .slice ota m.t.length cta] 33 (0, 0)) := by
  have h := World.alloc_heap_new w (.cells #[.int .i64 m.j.key, .slice oa m.j.l.length ca, .int .i64 m.j.safe, .int .i64 m.p.key, .slice oba m.p.l.length cba, .slice oRa m.p.ring.length cRa, .slice ota m.t.length cta] 33)
  (try rw [World.size_alloc] at h)
  (try rw [World.size_alloc] at h)
  rw [← hw0]
  exact h
 have HR := hide hR
 clear hR
 obtain ⟨bxac0, bxac1, bxac2, bxac3, bxac4, bxac5, bxac6⟩ := cellsM7 bxa
 replace bxa := hide bxa
 have HB_ := hide B_w0
 clear B_w0
 go_enter Tryz.func4, Tryz.ntmps4
 go_wp2_with fail
 clear bxac0 bxac1 bxac2 bxac3 bxac4 bxac5 bxac6
 replace bxa := bxa.out
 have B_w0 := HB_.out
 clear HB_
 clear hw0
 have hR := HR.out
 clear HR
 refine (szBal_sh _ m w0 ((hR.kept B_w0 (Nat.le_refl _)).le B_w0.size) hl).mono ?_
 rintro e w1 ⟨⟨zz, rfl, hz⟩, hb_w1⟩
 replace bxa := (hb_w1.block _ (by omega)).trans bxa
 have B_w1 : Below w.heap.size w w1 := B_w0.trans (hb_w1.mono B_w0.size)
 have hs_w1 : w0.heap.size ≤ w1.heap.size := hb_w1.size
 clear hb_w1 B_w0
 rcases hz with ⟨hz1, hz2⟩ | ⟨hz1, hz2, hf⟩
 ·replace bxa := hide bxa
  have HB_ := hide B_w1
  clear B_w1
  go_wp2
  go_ret
  exact ⟨rfl, HB_.out⟩
 ·have HS := hide (fun lo hi v w h hh => specBalTick_in lo hi v m now w h hh hf)
  have HI := hide (fun lo hi v w h hh => implBalTick_in lo hi v m now w h hh hf)
  have hmr := tick0_fit m now
  generalize tickB0 m now = mr at *
  generalize tickBN m now = t at *
  obtain ⟨bxac0, bxac1, bxac2, bxac3, bxac4, bxac5, bxac6⟩ := cellsM7 bxa
  replace bxa := hide bxa
  have HB_ := hide B_w1
  clear B_w1
  go_wp2_with fail
  clear bxac0 bxac1 bxac2 bxac3 bxac4 bxac5 bxac6
  replace bxa := bxa.out
  have B_w1 := HB_.out
  clear HB_
  refine (toBal_sh _ m w1 ((hR.kept B_w1 (Nat.le_refl _)).le B_w1.size) hf).mono ?_
  rintro e w2 ⟨v2, rfl, in2, hb_w2⟩
  replace bxa := (hb_w2.block _ (by omega)).trans bxa
  have B_w2 : Below w.heap.size w w2 := B_w1.trans (hb_w2.mono B_w1.size)
  have hs_w2 : w1.heap.size ≤ w2.heap.size := hb_w2.size
  clear hb_w2 B_w1
  replace bxa := hide bxa
  replace in2 := hide in2
  have HB_ := hide B_w2
  clear B_w2
  go_wp2_with fail
  replace bxa := bxa.out
  replace in2 := in2.out
  have B_w2 := HB_.out
  clear HB_
  refine (HS.out _ _ _ w2 in2 (by omega)).mono ?_
  rintro e w3 ⟨vw, rfl, inw, hb_w3⟩
  replace bxa := (hb_w3.block _ (by omega)).trans bxa
  replace in2 := in2.step (Stp.of (lo := 0) (hi := 0) hb_w3) (.inl (Nat.zero_le _))
  have B_w3 : Below w.heap.size w w3 := B_w2.trans (hb_w3.mono B_w2.size)
  have hs_w3 : w2.heap.size ≤ w3.heap.size := hb_w3.size
  clear hb_w3 B_w2
  clear in2
  obtain ⟨ow, cw, obw, cbw, oRw, cRw, otw, ctw, evw⟩ := inw.rd.opn
  subst evw
  have bxw : (w3.alloc (.cells #[.int .i64 mr.j.key, .slice ow mr.j.l.length cw, .int .i64 mr.j.safe, .int .i64 mr.p.key, .slice obw mr.p.l.length cbw, .slice oRw mr.p.ring.length cRw, .slice otw mr.t.length ctw] 47)).heap[w3.heap.size]? = some (.cells #[.int .i64 mr.j.key, .slice ow mr.j.l.length cw, .int .i64 mr.j.safe, .int .i64 mr.p.key, .slice obw mr.p.l.length cbw, .slice oRw mr.p.ring.length cRw, .slice otw mr.t.length ctw] 47 (0, 0)) := World.alloc_heap_new w3 (.cells #[.int .i64 mr.j.key, .slice ow mr.j.l.length cw, .int .i64 mr.j.safe, .int .i64 mr.p.key, .slice obw mr.p.l.length cbw, .slice oRw mr.p.ring.length cRw, .slice otw mr.t.length ctw] 47)
  have hb_w4 : Below w3.heap.size w3 (w3.alloc (.cells #[.int .i64 mr.j.key, .slice ow mr.j.l.length cw, .int .i64 mr.j.safe, .int .i64 mr.p.key, .slice obw mr.p.l.length cbw, .slice oRw mr.p.ring.length cRw, .slice otw mr.t.length ctw] 47)) := (Below.refl _ _).alloc (Nat.le_refl _) _
  have hz_w4 : w3.heap.size < (w3.alloc (.cells #[.int .i64 mr.j.key, .slice ow mr.j.l.length cw, .int .i64 mr.j.safe, .int .i64 mr.p.key, .slice obw mr.p.l.length cbw, .slice oRw mr.p.ring.length cRw, .slice otw mr.t.length ctw] 47)).heap.size := by simp
  have bxaW := (hb_w4.block _ (by omega)).trans bxa
  have bxac0 : (w3.alloc (.cells #[.int .i64 mr.j.key, .slice ow mr.j.l.length cw, .int .i64 mr.j.safe, .int .i64 mr.p.key, .slice obw mr.p.l.length cbw, .slice oRw mr.p.ring.length cRw, .slice otw mr.t.length ctw] 47)).cell? ⟨w.heap.size, 0, none⟩ = some (.int .i64 m.j.key) := block_cellB bxaW 0 _ rfl
  have bxac1 : (w3.alloc (.cells #[.int .i64 mr.j.key, .slice ow mr.j.l.length cw, .int .i64 mr.j.safe, .int .i64 mr.p.key, .slice obw mr.p.l.length cbw, .slice oRw mr.p.ring.length cRw, .slice otw mr.t.length ctw] 47)).cell? ⟨w.heap.size, 1, none⟩ = some (.slice oa m.j.l.length ca) := block_cellB bxaW 1 _ rfl
  have bxac2 : (w3.alloc (.cells #[.int .i64 mr.j.key, .slice ow mr.j.l.length cw, .int .i64 mr.j.safe, .int .i64 mr.p.key, .slice obw mr.p.l.length cbw, .slice oRw mr.p.ring.length cRw, .slice otw mr.t.length ctw] 47)).cell? ⟨w.heap.size, 2, none⟩ = some (.int .i64 m.j.safe) := block_cellB bxaW 2 _ rfl
  have bxac3 : (w3.alloc (.cells #[.int .i64 mr.j.key, .slice ow mr.j.l.length cw, .int .i64 mr.j.safe, .int .i64 mr.p.key, .slice obw mr.p.l.length cbw, .slice oRw mr.p.ring.length cRw, .slice otw mr.t.length ctw] 47)).cell? ⟨w.heap.size, 3, none⟩ = some (.int .i64 m.p.key) := block_cellB bxaW 3 _ rfl
  have bxac4 : (w3.alloc (.cells #[.int .i64 mr.j.key, .slice ow mr.j.l.length cw, .int .i64 mr.j.safe, .int .i64 mr.p.key, .slice obw mr.p.l.length cbw, .slice oRw mr.p.ring.length cRw, .slice otw mr.t.length ctw] 47)).cell? ⟨w.heap.size, 4, none⟩ = some (.slice oba m.p.l.length cba) := block_cellB bxaW 4 _ rfl
  have bxac5 : (w3.alloc (.cells #[.int .i64 mr.j.key, .slice ow mr.j.l.length cw, .int .i64 mr.j.safe, .int .i64 mr.p.key, .slice obw mr.p.l.length cbw, .slice oRw mr.p.ring.length cRw, .slice otw mr.t.length ctw] 47)).cell? ⟨w.heap.size, 5, none⟩ = some (.slice oRa m.p.ring.length cRa) := block_cellB bxaW 5 _ rfl
  have bxac6 : (w3.alloc (.cells #[.int .i64 mr.j.key, .slice ow mr.j.l.length cw, .int .i64 mr.j.safe, .int .i64 mr.p.key, .slice obw mr.p.l.length cbw, .slice oRw mr.p.ring.length cRw, .slice otw mr.t.length ctw] 47)).cell? ⟨w.heap.size, 6, none⟩ = some (.slice ota m.t.length cta) := block_cellB bxaW 6 _ rfl
  clear bxaW
  have bxwc0 : (w3.alloc (.cells #[.int .i64 mr.j.key, .slice ow mr.j.l.length cw, .int .i64 mr.j.safe, .int .i64 mr.p.key, .slice obw mr.p.l.length cbw, .slice oRw mr.p.ring.length cRw, .slice otw mr.t.length ctw] 47)).cell? ⟨w3.heap.size, 0, none⟩ = some (.int .i64 mr.j.key) := block_cellB bxw 0 _ rfl
  have bxwc1 : (w3.alloc (.cells #[.int .i64 mr.j.key, .slice ow mr.j.l.length cw, .int .i64 mr.j.safe, .int .i64 mr.p.key, .slice obw mr.p.l.length cbw, .slice oRw mr.p.ring.length cRw, .slice otw mr.t.length ctw] 47)).cell? ⟨w3.heap.size, 1, none⟩ = some (.slice ow mr.j.l.length cw) := block_cellB bxw 1 _ rfl
  have bxwc2 : (w3.alloc (.cells #[.int .i64 mr.j.key, .slice ow mr.j.l.length cw, .int .i64 mr.j.safe, .int .i64 mr.p.key, .slice obw mr.p.l.length cbw, .slice oRw mr.p.ring.length cRw, .slice otw mr.t.length ctw] 47)).cell? ⟨w3.heap.size, 2, none⟩ = some (.int .i64 mr.j.safe) := block_cellB bxw 2 _ rfl
  have bxwc3 : (w3.alloc (.cells #[.int .i64 mr.j.key, .slice ow mr.j.l.length cw, .int .i64 mr.j.safe, .int .i64 mr.p.key, .slice obw mr.p.l.length cbw, .slice oRw mr.p.ring.length cRw, .slice otw mr.t.length ctw] 47)).cell? ⟨w3.heap.size, 3, none⟩ = some (.int .i64 mr.p.key) := block_cellB bxw 3 _ rfl
  have bxwc4 : (w3.alloc (.cells #[.int .i64 mr.j.key, .slice ow mr.j.l.length cw, .int .i64 mr.j.safe, .int .i64 mr.p.key, .slice obw mr.p.l.length cbw, .slice oRw mr.p.ring.length cRw, .slice otw mr.t.length ctw] 47)).cell? ⟨w3.heap.size, 4, none⟩ = some (.slice obw mr.p.l.length cbw) := block_cellB bxw 4 _ rfl
  have bxwc5 : (w3.alloc (.cells #[.int .i64 mr.j.key, .slice ow mr.j.l.length cw, .int .i64 mr.j.safe, .int .i64 mr.p.key, .slice obw mr.p.l.length cbw, .slice oRw mr.p.ring.length cRw, .slice otw mr.t.length ctw] 47)).cell? ⟨w3.heap.size, 5, none⟩ = some (.slice oRw mr.p.ring.length cRw) := block_cellB bxw 5 _ rfl
  have bxwc6 : (w3.alloc (.cells #[.int .i64 mr.j.key, .slice ow mr.j.l.length cw, .int .i64 mr.j.safe, .int .i64 mr.p.key, .slice obw mr.p.l.length cbw, .slice oRw mr.p.ring.length cRw, .slice otw mr.t.length ctw] 47)).cell? ⟨w3.heap.size, 6, none⟩ = some (.slice otw mr.t.length ctw) := block_cellB bxw 6 _ rfl
  have Hbxw := hide bxw
  have Hb_ := hide hb_w4
  clear bxw hb_w4
  replace bxa := hide bxa
  replace inw := hide inw
  have HB_ := hide B_w3
  clear B_w3
  go_wp2_with fail
  clear bxac0 bxac1 bxac2 bxac3 bxac4 bxac5 bxac6
  clear bxwc0 bxwc1 bxwc2 bxwc3 bxwc4 bxwc5 bxwc6
  replace bxa := bxa.out
  replace inw := inw.out
  have B_w3 := HB_.out
  clear HB_
  have bxw := Hbxw.out
  have hb_w4 := Hb_.out
  clear Hbxw Hb_
  generalize w3.alloc (.cells #[.int .i64 mr.j.key, .slice ow mr.j.l.length cw, .int .i64 mr.j.safe, .int .i64 mr.p.key, .slice obw mr.p.l.length cbw, .slice oRw mr.p.ring.length cRw, .slice otw mr.t.length ctw] 47) = w4 at *
  replace bxa := (hb_w4.block _ (by omega)).trans bxa
  replace inw := inw.step (Stp.of (lo := 0) (hi := 0) hb_w4) (.inl (Nat.zero_le _))
  have B_w4 : Below w.heap.size w w4 := B_w3.trans (hb_w4.mono B_w3.size)
  have hs_w4 : w3.heap.size ≤ w4.heap.size := hb_w4.size
  clear hb_w4 B_w3
  refine (toBal_sh _ m w4 ((hR.kept B_w4 (Nat.le_refl _)).le B_w4.size) hf).mono ?_
  rintro e w5 ⟨vx, rfl, inx, hb_w5⟩
  replace bxa := (hb_w5.block _ (by omega)).trans bxa
  replace inw := inw.step (Stp.of (lo := 0) (hi := 0) hb_w5) (.inl (Nat.zero_le _))
  replace bxw := (hb_w5.block _ (by omega)).trans bxw
  have B_w5 : Below w.heap.size w w5 := B_w4.trans (hb_w5.mono B_w4.size)
  have hs_w5 : w4.heap.size ≤ w5.heap.size := hb_w5.size
  clear hb_w5 B_w4
  obtain ⟨ox, cx, obx, cbx, oRx, cRx, otx, ctx, evx⟩ := inx.rd.opn
  subst evx
  have bxx : (w5.alloc (.cells #[.int .i64 m.j.key, .slice ox m.j.l.length cx, .int .i64 m.j.safe, .int .i64 m.p.key, .slice obx m.p.l.length cbx, .slice oRx m.p.ring.length cRx, .slice otx m.t.length ctx] 47)).heap[w5.heap.size]? = some (.cells #[.int .i64 m.j.key, .slice ox m.j.l.length cx, .int .i64 m.j.safe, .int .i64 m.p.key, .slice obx m.p.l.length cbx, .slice oRx m.p.ring.length cRx, .slice otx m.t.length ctx] 47 (0, 0)) := World.alloc_heap_new w5 (.cells #[.int .i64 m.j.key, .slice ox m.j.l.length cx, .int .i64 m.j.safe, .int .i64 m.p.key, .slice obx m.p.l.length cbx, .slice oRx m.p.ring.length cRx, .slice otx m.t.length ctx] 47)
  have hb_w6 : Below w5.heap.size w5 (w5.alloc (.cells #[.int .i64 m.j.key, .slice ox m.j.l.length cx, .int .i64 m.j.safe, .int .i64 m.p.key, .slice obx m.p.l.length cbx, .slice oRx m.p.ring.length cRx, .slice otx m.t.length ctx] 47)) := (Below.refl _ _).alloc (Nat.le_refl _) _
  have hz_w6 : w5.heap.size < (w5.alloc (.cells #[.int .i64 m.j.key, .slice ox m.j.l.length cx, .int .i64 m.j.safe, .int .i64 m.p.key, .slice obx m.p.l.length cbx, .slice oRx m.p.ring.length cRx, .slice otx m.t.length ctx] 47)).heap.size := by simp
  have bxxc0 : (w5.alloc (.cells #[.int .i64 m.j.key, .slice ox m.j.l.length cx, .int .i64 m.j.safe, .int .i64 m.p.key, .slice obx m.p.l.length cbx, .slice oRx m.p.ring.length cRx, .slice otx m.t.length ctx] 47)).cell? ⟨w5.heap.size, 0, none⟩ = some (.int .i64 m.j.key) := block_cellB bxx 0 _ rfl
  have bxxc1 : (w5.alloc (.cells #[.int .i64 m.j.key, .slice ox m.j.l.length cx, .int .i64 m.j.safe, .int .i64 m.p.key, .slice obx m.p.l.length cbx, .slice oRx m.p.ring.length cRx, .slice otx m.t.length ctx] 47)).cell? ⟨w5.heap.size, 1, none⟩ = some (.slice ox m.j.l.length cx) := block_cellB bxx 1 _ rfl
  have bxxc2 : (w5.alloc (.cells #[.int .i64 m.j.key, .slice ox m.j.l.length cx, .int .i64 m.j.safe, .int .i64 m.p.key, .slice obx m.p.l.length cbx, .slice oRx m.p.ring.length cRx, .slice otx m.t.length ctx] 47)).cell? ⟨w5.heap.size, 2, none⟩ = some (.int .i64 m.j.safe) := block_cellB bxx 2 _ rfl
  have bxxc3 : (w5.alloc (.cells #[.int .i64 m.j.key, .slice ox m.j.l.length cx, .int .i64 m.j.safe, .int .i64 m.p.key, .slice obx m.p.l.length cbx, .slice oRx m.p.ring.length cRx, .slice otx m.t.length ctx] 47)).cell? ⟨w5.heap.size, 3, none⟩ = some (.int .i64 m.p.key) := block_cellB bxx 3 _ rfl
  have bxxc4 : (w5.alloc (.cells #[.int .i64 m.j.key, .slice ox m.j.l.length cx, .int .i64 m.j.safe, .int .i64 m.p.key, .slice obx m.p.l.length cbx, .slice oRx m.p.ring.length cRx, .slice otx m.t.length ctx] 47)).cell? ⟨w5.heap.size, 4, none⟩ = some (.slice obx m.p.l.length cbx) := block_cellB bxx 4 _ rfl
  have bxxc5 : (w5.alloc (.cells #[.int .i64 m.j.key, .slice ox m.j.l.length cx, .int .i64 m.j.safe, .int .i64 m.p.key, .slice obx m.p.l.length cbx, .slice oRx m.p.ring.length cRx, .slice otx m.t.length ctx] 47)).cell? ⟨w5.heap.size, 5, none⟩ = some (.slice oRx m.p.ring.length cRx) := block_cellB bxx 5 _ rfl
  have bxxc6 : (w5.alloc (.cells #[.int .i64 m.j.key, .slice ox m.j.l.length cx, .int .i64 m.j.safe, .int .i64 m.p.key, .slice obx m.p.l.length cbx, .slice oRx m.p.ring.length cRx, .slice otx m.t.length ctx] 47)).cell? ⟨w5.heap.size, 6, none⟩ = some (.slice otx m.t.length ctx) := block_cellB bxx 6 _ rfl
  have Hbxx := hide bxx
  have Hb_ := hide hb_w6
  clear bxx hb_w6
  replace bxa := hide bxa
  replace inw := hide inw
  replace bxw := hide bxw
  replace inx := hide inx
  have HB_ := hide B_w5
  clear B_w5
  go_wp2_with fail
  clear bxxc0 bxxc1 bxxc2 bxxc3 bxxc4 bxxc5 bxxc6
  replace bxa := bxa.out
  replace inw := inw.out
  replace bxw := bxw.out
  replace inx := inx.out
  have B_w5 := HB_.out
  clear HB_
  have bxx := Hbxx.out
  have hb_w6 := Hb_.out
  clear Hbxx Hb_
  generalize w5.alloc (.cells #[.int .i64 m.j.key, .slice ox m.j.l.length cx, .int .i64 m.j.safe, .int .i64 m.p.key, .slice obx m.p.l.length cbx, .slice oRx m.p.ring.length cRx, .slice otx m.t.length ctx] 47) = w6 at *
  replace bxa := (hb_w6.block _ (by omega)).trans bxa
  replace inw := inw.step (Stp.of (lo := 0) (hi := 0) hb_w6) (.inl (Nat.zero_le _))
  replace bxw := (hb_w6.block _ (by omega)).trans bxw
  replace inx := inx.step (Stp.of (lo := 0) (hi := 0) hb_w6) (.inl (Nat.zero_le _))
  have B_w6 : Below w.heap.size w w6 := B_w5.trans (hb_w6.mono B_w5.size)
  have hs_w6 : w5.heap.size ≤ w6.heap.size := hb_w6.size
  clear hb_w6 B_w5
  refine (HI.out _ _ _ w6 inx (by omega)).mono ?_
  rintro e w7 ⟨vg, rfl, ing, hb_w7⟩
  replace bxa := (hb_w7.block _ (by omega)).trans bxa
  replace inw := inw.step (Stp.of (lo := 0) (hi := 0) hb_w7) (.inl (Nat.zero_le _))
  replace bxw := (hb_w7.block _ (by omega)).trans bxw
  replace inx := inx.step (Stp.of (lo := 0) (hi := 0) hb_w7) (.inl (Nat.zero_le _))
  replace bxx := (hb_w7.block _ (by omega)).trans bxx
  have B_w7 : Below w.heap.size w w7 := B_w6.trans (hb_w7.mono B_w6.size)
  have hs_w7 : w6.heap.size ≤ w7.heap.size := hb_w7.size
  clear hb_w7 B_w6
  obtain ⟨og, cg, obg, cbg, oRg, cRg, otg, ctg, evg⟩ := ing.rd.opn
  subst evg
  have bxg : (w7.alloc (.cells #[.int .i64 mr.j.key, .slice og mr.j.l.length cg, .int .i64 mr.j.safe, .int .i64 mr.p.key, .slice obg mr.p.l.length cbg, .slice oRg mr.p.ring.length cRg, .slice otg mr.t.length ctg] 47)).heap[w7.heap.size]? = some (.cells #[.int .i64 mr.j.key, .slice og mr.j.l.length cg, .int .i64 mr.j.safe, .int .i64 mr.p.key, .slice obg mr.p.l.length cbg, .slice oRg mr.p.ring.length cRg, .slice otg mr.t.length ctg] 47 (0, 0)) := World.alloc_heap_new w7 (.cells #[.int .i64 mr.j.key, .slice og mr.j.l.length cg, .int .i64 mr.j.safe, .int .i64 mr.p.key, .slice obg mr.p.l.length cbg, .slice oRg mr.p.ring.length cRg, .slice otg mr.t.length ctg] 47)
  have hb_w8 : Below w7.heap.size w7 (w7.alloc (.cells #[.int .i64 mr.j.key, .slice og mr.j.l.length cg, .int .i64 mr.j.safe, .int .i64 mr.p.key, .slice obg mr.p.l.length cbg, .slice oRg mr.p.ring.length cRg, .slice otg mr.t.length ctg] 47)) := (Below.refl _ _).alloc (Nat.le_refl _) _
  have hz_w8 : w7.heap.size < (w7.alloc (.cells #[.int .i64 mr.j.key, .slice og mr.j.l.length cg, .int .i64 mr.j.safe, .int .i64 mr.p.key, .slice obg mr.p.l.length cbg, .slice oRg mr.p.ring.length cRg, .slice otg mr.t.length ctg] 47)).heap.size := by simp
  have bxwW := (hb_w8.block _ (by omega)).trans bxw
  have bxwc0 : (w7.alloc (.cells #[.int .i64 mr.j.key, .slice og mr.j.l.length cg, .int .i64 mr.j.safe, .int .i64 mr.p.key, .slice obg mr.p.l.length cbg, .slice oRg mr.p.ring.length cRg, .slice otg mr.t.length ctg] 47)).cell? ⟨w3.heap.size, 0, none⟩ = some (.int .i64 mr.j.key) := block_cellB bxwW 0 _ rfl
  have bxwc1 : (w7.alloc (.cells #[.int .i64 mr.j.key, .slice og mr.j.l.length cg, .int .i64 mr.j.safe, .int .i64 mr.p.key, .slice obg mr.p.l.length cbg, .slice oRg mr.p.ring.length cRg, .slice otg mr.t.length ctg] 47)).cell? ⟨w3.heap.size, 1, none⟩ = some (.slice ow mr.j.l.length cw) := block_cellB bxwW 1 _ rfl
  have bxwc2 : (w7.alloc (.cells #[.int .i64 mr.j.key, .slice og mr.j.l.length cg, .int .i64 mr.j.safe, .int .i64 mr.p.key, .slice obg mr.p.l.length cbg, .slice oRg mr.p.ring.length cRg, .slice otg mr.t.length ctg] 47)).cell? ⟨w3.heap.size, 2, none⟩ = some (.int .i64 mr.j.safe) := block_cellB bxwW 2 _ rfl
  have bxwc3 : (w7.alloc (.cells #[.int .i64 mr.j.key, .slice og mr.j.l.length cg, .int .i64 mr.j.safe, .int .i64 mr.p.key, .slice obg mr.p.l.length cbg, .slice oRg mr.p.ring.length cRg, .slice otg mr.t.length ctg] 47)).cell? ⟨w3.heap.size, 3, none⟩ = some (.int .i64 mr.p.key) := block_cellB bxwW 3 _ rfl
  have bxwc4 : (w7.alloc (.cells #[.int .i64 mr.j.key, .slice og mr.j.l.length cg, .int .i64 mr.j.safe, .int .i64 mr.p.key, .slice obg mr.p.l.length cbg, .slice oRg mr.p.ring.length cRg, .slice otg mr.t.length ctg] 47)).cell? ⟨w3.heap.size, 4, none⟩ = some (.slice obw mr.p.l.length cbw) := block_cellB bxwW 4 _ rfl
  have bxwc5 : (w7.alloc (.cells #[.int .i64 mr.j.key, .slice og mr.j.l.length cg, .int .i64 mr.j.safe, .int .i64 mr.p.key, .slice obg mr.p.l.length cbg, .slice oRg mr.p.ring.length cRg, .slice otg mr.t.length ctg] 47)).cell? ⟨w3.heap.size, 5, none⟩ = some (.slice oRw mr.p.ring.length cRw) := block_cellB bxwW 5 _ rfl
  have bxwc6 : (w7.alloc (.cells #[.int .i64 mr.j.key, .slice og mr.j.l.length cg, .int .i64 mr.j.safe, .int .i64 mr.p.key, .slice obg mr.p.l.length cbg, .slice oRg mr.p.ring.length cRg, .slice otg mr.t.length ctg] 47)).cell? ⟨w3.heap.size, 6, none⟩ = some (.slice otw mr.t.length ctw) := block_cellB bxwW 6 _ rfl
  clear bxwW
  have bxgc0 : (w7.alloc (.cells #[.int .i64 mr.j.key, .slice og mr.j.l.length cg, .int .i64 mr.j.safe, .int .i64 mr.p.key, .slice obg mr.p.l.length cbg, .slice oRg mr.p.ring.length cRg, .slice otg mr.t.length ctg] 47)).cell? ⟨w7.heap.size, 0, none⟩ = some (.int .i64 mr.j.key) := block_cellB bxg 0 _ rfl
  have bxgc1 : (w7.alloc (.cells #[.int .i64 mr.j.key, .slice og mr.j.l.length cg, .int .i64 mr.j.safe, .int .i64 mr.p.key, .slice obg mr.p.l.length cbg, .slice oRg mr.p.ring.length cRg, .slice otg mr.t.length ctg] 47)).cell? ⟨w7.heap.size, 1, none⟩ = some (.slice og mr.j.l.length cg) := block_cellB bxg 1 _ rfl
  have bxgc2 : (w7.alloc (.cells #[.int .i64 mr.j.key, .slice og mr.j.l.length cg, .int .i64 mr.j.safe, .int .i64 mr.p.key, .slice obg mr.p.l.length cbg, .slice oRg mr.p.ring.length cRg, .slice otg mr.t.length ctg] 47)).cell? ⟨w7.heap.size, 2, none⟩ = some (.int .i64 mr.j.safe) := block_cellB bxg 2 _ rfl
  have bxgc3 : (w7.alloc (.cells #[.int .i64 mr.j.key, .slice og mr.j.l.length cg, .int .i64 mr.j.safe, .int .i64 mr.p.key, .slice obg mr.p.l.length cbg, .slice oRg mr.p.ring.length cRg, .slice otg mr.t.length ctg] 47)).cell? ⟨w7.heap.size, 3, none⟩ = some (.int .i64 mr.p.key) := block_cellB bxg 3 _ rfl
  have bxgc4 : (w7.alloc (.cells #[.int .i64 mr.j.key, .slice og mr.j.l.length cg, .int .i64 mr.j.safe, .int .i64 mr.p.key, .slice obg mr.p.l.length cbg, .slice oRg mr.p.ring.length cRg, .slice otg mr.t.length ctg] 47)).cell? ⟨w7.heap.size, 4, none⟩ = some (.slice obg mr.p.l.length cbg) := block_cellB bxg 4 _ rfl
  have bxgc5 : (w7.alloc (.cells #[.int .i64 mr.j.key, .slice og mr.j.l.length cg, .int .i64 mr.j.safe, .int .i64 mr.p.key, .slice obg mr.p.l.length cbg, .slice oRg mr.p.ring.length cRg, .slice otg mr.t.length ctg] 47)).cell? ⟨w7.heap.size, 5, none⟩ = some (.slice oRg mr.p.ring.length cRg) := block_cellB bxg 5 _ rfl
  have bxgc6 : (w7.alloc (.cells #[.int .i64 mr.j.key, .slice og mr.j.l.length cg, .int .i64 mr.j.safe, .int .i64 mr.p.key, .slice obg mr.p.l.length cbg, .slice oRg mr.p.ring.length cRg, .slice otg mr.t.length ctg] 47)).cell? ⟨w7.heap.size, 6, none⟩ = some (.slice otg mr.t.length ctg) := block_cellB bxg 6 _ rfl
  have Hbxg := hide bxg
  have Hb_ := hide hb_w8
  clear bxg hb_w8
  replace bxa := hide bxa
  replace inw := hide inw
  replace bxw := hide bxw
  replace inx := hide inx
  replace bxx := hide bxx
  replace ing := hide ing
  have HB_ := hide B_w7
  clear B_w7
  go_wp2_with fail
  clear bxwc0 bxwc1 bxwc2 bxwc3 bxwc4 bxwc5 bxwc6
  clear bxgc0 bxgc1 bxgc2 bxgc3 bxgc4 bxgc5 bxgc6
  replace bxa := bxa.out
  replace inw := inw.out
  replace bxw := bxw.out
  replace inx := inx.out
  replace bxx := bxx.out
  replace ing := ing.out
  have B_w7 := HB_.out
  clear HB_
  have bxg := Hbxg.out
  have hb_w8 := Hb_.out
  clear Hbxg Hb_
  generalize w7.alloc (.cells #[.int .i64 mr.j.key, .slice og mr.j.l.length cg, .int .i64 mr.j.safe, .int .i64 mr.p.key, .slice obg mr.p.l.length cbg, .slice oRg mr.p.ring.length cRg, .slice otg mr.t.length ctg] 47) = w8 at *
  replace bxa := (hb_w8.block _ (by omega)).trans bxa
  replace inw := inw.step (Stp.of (lo := 0) (hi := 0) hb_w8) (.inl (Nat.zero_le _))
  replace bxw := (hb_w8.block _ (by omega)).trans bxw
  replace inx := inx.step (Stp.of (lo := 0) (hi := 0) hb_w8) (.inl (Nat.zero_le _))
  replace bxx := (hb_w8.block _ (by omega)).trans bxx
  replace ing := ing.step (Stp.of (lo := 0) (hi := 0) hb_w8) (.inl (Nat.zero_le _))
  have B_w8 : Below w.heap.size w w8 := B_w7.trans (hb_w8.mono B_w7.size)
  have hs_w8 : w7.heap.size ≤ w8.heap.size := hb_w8.size
  clear hb_w8 B_w7
  refine (eqBal_sh _ _ mr w8 (ing.rd.le (by omega)) (inw.rd.le (by omega)) hmr.b0).mono ?_
  rintro e w9 ⟨rfl, hb_w9⟩
  replace bxa := (hb_w9.block _ (by omega)).trans bxa
  replace inw := inw.step (Stp.of (lo := 0) (hi := 0) hb_w9) (.inl (Nat.zero_le _))
  replace bxw := (hb_w9.block _ (by omega)).trans bxw
  replace inx := inx.step (Stp.of (lo := 0) (hi := 0) hb_w9) (.inl (Nat.zero_le _))
  replace bxx := (hb_w9.block _ (by omega)).trans bxx
  replace ing := ing.step (Stp.of (lo := 0) (hi := 0) hb_w9) (.inl (Nat.zero_le _))
  replace bxg := (hb_w9.block _ (by omega)).trans bxg
  have B_w9 : Below w.heap.size w w9 := B_w8.trans (hb_w9.mono B_w8.size)
  have hs_w9 : w8.heap.size ≤ w9.heap.size := hb_w9.size
  clear hb_w9 B_w8
  obtain ⟨bxac0, bxac1, bxac2, bxac3, bxac4, bxac5, bxac6⟩ := cellsM7 bxa
  obtain ⟨bxxc0, bxxc1, bxxc2, bxxc3, bxxc4, bxxc5, bxxc6⟩ := cellsM7 bxx
  replace bxa := hide bxa
  replace inw := hide inw
  replace bxw := hide bxw
  replace inx := hide inx
  replace bxx := hide bxx
  replace ing := hide ing
  replace bxg := hide bxg
  have HB_ := hide B_w9
  clear B_w9
  go_wp2
  have hk_bxa : w.heap.size < w9.heap.size := by omega
  have hk_bxx : w5.heap.size < w9.heap.size := by omega
  go_region_held3 (fun w' => w'.cell? ⟨w.heap.size, 0, none⟩ = some (.int .i64 m.j.key) ∧ w'.cell? ⟨w.heap.size, 1, none⟩ = some (.slice oa m.j.l.length ca) ∧ w'.cell? ⟨w.heap.size, 2, none⟩ = some (.int .i64 m.j.safe) ∧ w'.cell? ⟨w.heap.size, 3, none⟩ = some (.int .i64 m.p.key) ∧ w'.cell? ⟨w.heap.size, 4, none⟩ = some (.slice oba m.p.l.length cba) ∧ w'.cell? ⟨w.heap.size, 5, none⟩ = some (.slice oRa m.p.ring.length cRa) ∧ w'.cell? ⟨w.heap.size, 6, none⟩ = some (.slice ota m.t.length cta) ∧ w'.cell? ⟨w5.heap.size, 0, none⟩ = some (.int .i64 m.j.key) ∧ w'.cell? ⟨w5.heap.size, 1, none⟩ = some (.slice ox m.j.l.length cx) ∧ w'.cell? ⟨w5.heap.size, 2, none⟩ = some (.int .i64 m.j.safe) ∧ w'.cell? ⟨w5.heap.size, 3, none⟩ = some (.int .i64 m.p.key) ∧ w'.cell? ⟨w5.heap.size, 4, none⟩ = some (.slice obx m.p.l.length cbx) ∧ w'.cell? ⟨w5.heap.size, 5, none⟩ = some (.slice oRx m.p.ring.length cRx) ∧ w'.cell? ⟨w5.heap.size, 6, none⟩ = some (.slice otx m.t.length ctx)) (first | exact ⟨k1_0, k1_1, k1_2, k1_3, k1_4, k1_5, k1_6, k1_7, k1_8, k1_9, k1_10, k1_11, k1_12, k1_13⟩ | exact ⟨k0_0, k0_1, k0_2, k0_3, k0_4, k0_5, k0_6, k0_7, k0_8, k0_9, k0_10, k0_11, k0_12, k0_13⟩ | exact ⟨bxac0, bxac1, bxac2, bxac3, bxac4, bxac5, bxac6, bxxc0, bxxc1, bxxc2, bxxc3, bxxc4, bxxc5, bxxc6⟩) (first | (go_at_call 7; refine (toBal_sh _ m w9.drew ((hR.kept (Below.drew HB_.out) (Nat.le_refl _)).le HB_.out.size) hf).mono ?_; rintro e w10 ⟨va, rfl, ina, hb⟩; have hbx : Below w9.heap.size w9 w10 := (Below.drew (Below.refl _ _)).trans hb; have rdx := inx.out.rd.kept hbx (by omega); have szx := hbx.size; have hx0 : Below w9.heap.size w9 w10 := (Below.drew (Below.refl _ _)).trans hb; clear hb; have k0_0 := (hx0.cell (p := ⟨w.heap.size, 0, none⟩) hk_bxa).trans bxac0; have k0_1 := (hx0.cell (p := ⟨w.heap.size, 1, none⟩) hk_bxa).trans bxac1; have k0_2 := (hx0.cell (p := ⟨w.heap.size, 2, none⟩) hk_bxa).trans bxac2; have k0_3 := (hx0.cell (p := ⟨w.heap.size, 3, none⟩) hk_bxa).trans bxac3; have k0_4 := (hx0.cell (p := ⟨w.heap.size, 4, none⟩) hk_bxa).trans bxac4; have k0_5 := (hx0.cell (p := ⟨w.heap.size, 5, none⟩) hk_bxa).trans bxac5; have k0_6 := (hx0.cell (p := ⟨w.heap.size, 6, none⟩) hk_bxa).trans bxac6; have k0_7 := (hx0.cell (p := ⟨w5.heap.size, 0, none⟩) hk_bxx).trans bxxc0; have k0_8 := (hx0.cell (p := ⟨w5.heap.size, 1, none⟩) hk_bxx).trans bxxc1; have k0_9 := (hx0.cell (p := ⟨w5.heap.size, 2, none⟩) hk_bxx).trans bxxc2; have k0_10 := (hx0.cell (p := ⟨w5.heap.size, 3, none⟩) hk_bxx).trans bxxc3; have k0_11 := (hx0.cell (p := ⟨w5.heap.size, 4, none⟩) hk_bxx).trans bxxc4; have k0_12 := (hx0.cell (p := ⟨w5.heap.size, 5, none⟩) hk_bxx).trans bxxc5; have k0_13 := (hx0.cell (p := ⟨w5.heap.size, 6, none⟩) hk_bxx).trans bxxc6) | (go_at_call 10; refine (eqBal_sh _ _ m w10 (rdx.le (by omega)) (ina.rd.le (Nat.le_refl _)) hf).mono ?_; rintro e w11 ⟨rfl, hb⟩; have hx1 : Below w9.heap.size w9 w11 := hx0.trans (hb.mono hx0.size); clear hb; have k1_0 := (hx1.cell (p := ⟨w.heap.size, 0, none⟩) hk_bxa).trans bxac0; have k1_1 := (hx1.cell (p := ⟨w.heap.size, 1, none⟩) hk_bxa).trans bxac1; have k1_2 := (hx1.cell (p := ⟨w.heap.size, 2, none⟩) hk_bxa).trans bxac2; have k1_3 := (hx1.cell (p := ⟨w.heap.size, 3, none⟩) hk_bxa).trans bxac3; have k1_4 := (hx1.cell (p := ⟨w.heap.size, 4, none⟩) hk_bxa).trans bxac4; have k1_5 := (hx1.cell (p := ⟨w.heap.size, 5, none⟩) hk_bxa).trans bxac5; have k1_6 := (hx1.cell (p := ⟨w.heap.size, 6, none⟩) hk_bxa).trans bxac6; have k1_7 := (hx1.cell (p := ⟨w5.heap.size, 0, none⟩) hk_bxx).trans bxxc0; have k1_8 := (hx1.cell (p := ⟨w5.heap.size, 1, none⟩) hk_bxx).trans bxxc1; have k1_9 := (hx1.cell (p := ⟨w5.heap.size, 2, none⟩) hk_bxx).trans bxxc2; have k1_10 := (hx1.cell (p := ⟨w5.heap.size, 3, none⟩) hk_bxx).trans bxxc3; have k1_11 := (hx1.cell (p := ⟨w5.heap.size, 4, none⟩) hk_bxx).trans bxxc4; have k1_12 := (hx1.cell (p := ⟨w5.heap.size, 5, none⟩) hk_bxx).trans bxxc5; have k1_13 := (hx1.cell (p := ⟨w5.heap.size, 6, none⟩) hk_bxx).trans bxxc6))
  clear k0_0 k0_1 k0_2 k0_3 k0_4 k0_5 k0_6 k0_7 k0_8 k0_9 k0_10 k0_11 k0_12 k0_13
  clear k1_0 k1_1 k1_2 k1_3 k1_4 k1_5 k1_6 k1_7 k1_8 k1_9 k1_10 k1_11 k1_12 k1_13
  clear hk_bxa hk_bxx hx0
  clear bxac0 bxac1 bxac2 bxac3 bxac4 bxac5 bxac6
  clear bxxc0 bxxc1 bxxc2 bxxc3 bxxc4 bxxc5 bxxc6
  replace bxa := bxa.out
  replace inw := inw.out
  replace bxw := bxw.out
  replace inx := inx.out
  replace bxx := bxx.out
  replace ing := ing.out
  replace bxg := bxg.out
  have B_w9 := HB_.out
  clear HB_
  replace bxa := (hx1.block _ (by omega)).trans bxa
  replace inw := inw.step (Stp.of (lo := 0) (hi := 0) hx1) (.inl (Nat.zero_le _))
  replace bxw := (hx1.block _ (by omega)).trans bxw
  replace inx := inx.step (Stp.of (lo := 0) (hi := 0) hx1) (.inl (Nat.zero_le _))
  replace bxx := (hx1.block _ (by omega)).trans bxx
  replace ing := ing.step (Stp.of (lo := 0) (hi := 0) hx1) (.inl (Nat.zero_le _))
  replace bxg := (hx1.block _ (by omega)).trans bxg
  have B_w11 : Below w.heap.size w w11 := B_w9.trans (hx1.mono B_w9.size)
  have hs_w11 : w9.heap.size ≤ w11.heap.size := hx1.size
  clear hx1 B_w9
  clear rdx szx ina hbx
  obtain ⟨bxxc0, bxxc1, bxxc2, bxxc3, bxxc4, bxxc5, bxxc6⟩ := cellsM7 bxx
  replace bxa := hide bxa
  replace inw := hide inw
  replace bxw := hide bxw
  replace inx := hide inx
  replace bxx := hide bxx
  replace ing := hide ing
  replace bxg := hide bxg
  have HB_ := hide B_w11
  clear B_w11
  go_wp2_with fail
  clear bxxc0 bxxc1 bxxc2 bxxc3 bxxc4 bxxc5 bxxc6
  replace bxa := bxa.out
  replace inw := inw.out
  replace bxw := bxw.out
  replace inx := inx.out
  replace bxx := bxx.out
  replace ing := ing.out
  replace bxg := bxg.out
  have B_w11 := HB_.out
  clear HB_
  refine (markBal_sh0 (w4.heap.size) (w5.heap.size) _ m 1 w11 inx (by omega) (by omega) (by omega) hf).mono ?_
  rintro e w12 ⟨rfl, _, sp_w12⟩
  clear bxx
  replace bxa := sp_w12.box bxa (by omega)
  replace inw := inw.step sp_w12 (by omega)
  replace bxw := sp_w12.box bxw (by omega)
  replace ing := ing.step sp_w12 (by omega)
  replace bxg := sp_w12.box bxg (by omega)
  have B_w12 : Below w.heap.size w w12 := B_w11.trans (sp_w12.below (by omega) (by omega))
  have hs_w12 : w11.heap.size ≤ w12.heap.size := sp_w12.size
  clear sp_w12 B_w11
  clear inx
  have hnb := nBm_bd0 hf
  have hk1 : ¬ (1 + nBm m < 0) := by omega
  have hk0 : (0 : Int) ≤ 1 + nBm m := by omega
  clear hnb
  obtain ⟨bxgc0, bxgc1, bxgc2, bxgc3, bxgc4, bxgc5, bxgc6⟩ := cellsM7 bxg
  obtain ⟨bxwc0, bxwc1, bxwc2, bxwc3, bxwc4, bxwc5, bxwc6⟩ := cellsM7 bxw
  replace bxa := hide bxa
  replace inw := hide inw
  replace bxw := hide bxw
  replace ing := hide ing
  replace bxg := hide bxg
  have HB_ := hide B_w12
  clear B_w12
  go_wp2_with fail
  clear bxgc0 bxgc1 bxgc2 bxgc3 bxgc4 bxgc5 bxgc6
  clear bxwc0 bxwc1 bxwc2 bxwc3 bxwc4 bxwc5 bxwc6
  replace bxa := bxa.out
  replace inw := inw.out
  replace bxw := bxw.out
  replace ing := ing.out
  replace bxg := bxg.out
  have B_w12 := HB_.out
  clear HB_
  refine (eqBal_sh _ _ mr w12 (ing.rd.le (by omega)) (inw.rd.le (by omega)) hmr.b0).mono ?_
  rintro e w13 ⟨rfl, hb_w13⟩
  replace bxa := (hb_w13.block _ (by omega)).trans bxa
  replace inw := inw.step (Stp.of (lo := 0) (hi := 0) hb_w13) (.inl (Nat.zero_le _))
  replace bxw := (hb_w13.block _ (by omega)).trans bxw
  replace ing := ing.step (Stp.of (lo := 0) (hi := 0) hb_w13) (.inl (Nat.zero_le _))
  replace bxg := (hb_w13.block _ (by omega)).trans bxg
  have B_w13 : Below w.heap.size w w13 := B_w12.trans (hb_w13.mono B_w12.size)
  have hs_w13 : w12.heap.size ≤ w13.heap.size := hb_w13.size
  clear hb_w13 B_w12
  obtain ⟨bxgc0, bxgc1, bxgc2, bxgc3, bxgc4, bxgc5, bxgc6⟩ := cellsM7 bxg
  replace bxa := hide bxa
  replace inw := hide inw
  replace bxw := hide bxw
  replace ing := hide ing
  replace bxg := hide bxg
  have HB_ := hide B_w13
  clear B_w13
  go_wp2_with fail
  clear bxgc0 bxgc1 bxgc2 bxgc3 bxgc4 bxgc5 bxgc6
  replace bxa := bxa.out
  replace inw := inw.out
  replace bxw := bxw.out
  replace ing := ing.out
  replace bxg := bxg.out
  have B_w13 := HB_.out
  clear HB_
  refine (markBal_sh0 (w6.heap.size) (w7.heap.size) _ mr 1 w13 ing (by omega) (by omega) (by omega) hmr.b0).mono ?_
  rintro e w14 ⟨rfl, ing', sp_w14⟩
  replace bxa := sp_w14.box bxa (by omega)
  replace inw := inw.step sp_w14 (by omega)
  replace bxw := sp_w14.box bxw (by omega)
  replace bxg := sp_w14.box bxg (by omega)
  have B_w14 : Below w.heap.size w w14 := B_w13.trans (sp_w14.below (by omega) (by omega))
  have hs_w14 : w13.heap.size ≤ w14.heap.size := sp_w14.size
  clear sp_w14 B_w13
  clear ing
  have ing := ing'
  clear ing'
  have hnb := nBm_bd0 hmr.b0
  have hk2 : (0 : Int) ≤ 1 + nBm mr ∧ 1 + nBm mr ≤ 100000000 := by omega
  have hk3 : ¬ (1 + nBm mr < 0) := by omega
  clear hnb
  obtain ⟨bxgc0, bxgc1, bxgc2, bxgc3, bxgc4, bxgc5, bxgc6⟩ := cellsM7 bxg
  replace bxa := hide bxa
  replace inw := hide inw
  replace bxw := hide bxw
  replace ing := hide ing
  replace bxg := hide bxg
  have HB_ := hide B_w14
  clear B_w14
  go_wp2_with fail
  clear bxgc0 bxgc1 bxgc2 bxgc3 bxgc4 bxgc5 bxgc6
  replace bxa := bxa.out
  replace inw := inw.out
  replace bxw := bxw.out
  replace ing := ing.out
  replace bxg := bxg.out
  have B_w14 := HB_.out
  clear HB_
  refine (heldBal_sh0 _ mr 1 w14 (ing.rd.le (by omega)) (by omega) (by omega) hmr.b0).mono ?_
  rintro e w15 ⟨rfl, hb_w15⟩
  replace bxa := (hb_w15.block _ (by omega)).trans bxa
  replace inw := inw.step (Stp.of (lo := 0) (hi := 0) hb_w15) (.inl (Nat.zero_le _))
  replace bxw := (hb_w15.block _ (by omega)).trans bxw
  replace ing := ing.step (Stp.of (lo := 0) (hi := 0) hb_w15) (.inl (Nat.zero_le _))
  replace bxg := (hb_w15.block _ (by omega)).trans bxg
  have B_w15 : Below w.heap.size w w15 := B_w14.trans (hb_w15.mono B_w14.size)
  have hs_w15 : w14.heap.size ≤ w15.heap.size := hb_w15.size
  clear hb_w15 B_w14
  obtain ⟨bxac0, bxac1, bxac2, bxac3, bxac4, bxac5, bxac6⟩ := cellsM7 bxa
  replace bxa := hide bxa
  replace inw := hide inw
  replace bxw := hide bxw
  replace ing := hide ing
  replace bxg := hide bxg
  have HB_ := hide B_w15
  clear B_w15
  go_wp2_with fail
  clear bxac0 bxac1 bxac2 bxac3 bxac4 bxac5 bxac6
  replace bxa := bxa.out
  replace inw := inw.out
  replace bxw := bxw.out
  replace ing := ing.out
  replace bxg := bxg.out
  have B_w15 := HB_.out
  clear HB_
  refine (toBal_sh _ m w15 ((hR.kept B_w15 (Nat.le_refl _)).le B_w15.size) hf).mono ?_
  rintro e w16 ⟨vy, rfl, iny, hb_w16⟩
  replace bxa := (hb_w16.block _ (by omega)).trans bxa
  replace inw := inw.step (Stp.of (lo := 0) (hi := 0) hb_w16) (.inl (Nat.zero_le _))
  replace bxw := (hb_w16.block _ (by omega)).trans bxw
  replace ing := ing.step (Stp.of (lo := 0) (hi := 0) hb_w16) (.inl (Nat.zero_le _))
  replace bxg := (hb_w16.block _ (by omega)).trans bxg
  have B_w16 : Below w.heap.size w w16 := B_w15.trans (hb_w16.mono B_w15.size)
  have hs_w16 : w15.heap.size ≤ w16.heap.size := hb_w16.size
  clear hb_w16 B_w15
  replace bxa := hide bxa
  replace inw := hide inw
  replace bxw := hide bxw
  replace ing := hide ing
  replace bxg := hide bxg
  replace iny := hide iny
  have HB_ := hide B_w16
  clear B_w16
  go_wp2_with fail
  replace bxa := bxa.out
  replace inw := inw.out
  replace bxw := bxw.out
  replace ing := ing.out
  replace bxg := bxg.out
  replace iny := iny.out
  have B_w16 := HB_.out
  clear HB_
  refine (HI.out _ _ _ w16 iny (by omega)).mono ?_
  rintro e w17 ⟨vh, rfl, inh, hb_w17⟩
  replace bxa := (hb_w17.block _ (by omega)).trans bxa
  replace inw := inw.step (Stp.of (lo := 0) (hi := 0) hb_w17) (.inl (Nat.zero_le _))
  replace bxw := (hb_w17.block _ (by omega)).trans bxw
  replace ing := ing.step (Stp.of (lo := 0) (hi := 0) hb_w17) (.inl (Nat.zero_le _))
  replace bxg := (hb_w17.block _ (by omega)).trans bxg
  replace iny := iny.step (Stp.of (lo := 0) (hi := 0) hb_w17) (.inl (Nat.zero_le _))
  have B_w17 : Below w.heap.size w w17 := B_w16.trans (hb_w17.mono B_w16.size)
  have hs_w17 : w16.heap.size ≤ w17.heap.size := hb_w17.size
  clear hb_w17 B_w16
  clear iny
  obtain ⟨oh, ch, obh, cbh, oRh, cRh, oth, cth, evh⟩ := inh.rd.opn
  subst evh
  have bxh : (w17.alloc (.cells #[.int .i64 mr.j.key, .slice oh mr.j.l.length ch, .int .i64 mr.j.safe, .int .i64 mr.p.key, .slice obh mr.p.l.length cbh, .slice oRh mr.p.ring.length cRh, .slice oth mr.t.length cth] 47)).heap[w17.heap.size]? = some (.cells #[.int .i64 mr.j.key, .slice oh mr.j.l.length ch, .int .i64 mr.j.safe, .int .i64 mr.p.key, .slice obh mr.p.l.length cbh, .slice oRh mr.p.ring.length cRh, .slice oth mr.t.length cth] 47 (0, 0)) := World.alloc_heap_new w17 (.cells #[.int .i64 mr.j.key, .slice oh mr.j.l.length ch, .int .i64 mr.j.safe, .int .i64 mr.p.key, .slice obh mr.p.l.length cbh, .slice oRh mr.p.ring.length cRh, .slice oth mr.t.length cth] 47)
  have hb_w18 : Below w17.heap.size w17 (w17.alloc (.cells #[.int .i64 mr.j.key, .slice oh mr.j.l.length ch, .int .i64 mr.j.safe, .int .i64 mr.p.key, .slice obh mr.p.l.length cbh, .slice oRh mr.p.ring.length cRh, .slice oth mr.t.length cth] 47)) := (Below.refl _ _).alloc (Nat.le_refl _) _
  have hz_w18 : w17.heap.size < (w17.alloc (.cells #[.int .i64 mr.j.key, .slice oh mr.j.l.length ch, .int .i64 mr.j.safe, .int .i64 mr.p.key, .slice obh mr.p.l.length cbh, .slice oRh mr.p.ring.length cRh, .slice oth mr.t.length cth] 47)).heap.size := by simp
  have bxwW := (hb_w18.block _ (by omega)).trans bxw
  have bxwc0 : (w17.alloc (.cells #[.int .i64 mr.j.key, .slice oh mr.j.l.length ch, .int .i64 mr.j.safe, .int .i64 mr.p.key, .slice obh mr.p.l.length cbh, .slice oRh mr.p.ring.length cRh, .slice oth mr.t.length cth] 47)).cell? ⟨w3.heap.size, 0, none⟩ = some (.int .i64 mr.j.key) := block_cellB bxwW 0 _ rfl
  have bxwc1 : (w17.alloc (.cells #[.int .i64 mr.j.key, .slice oh mr.j.l.length ch, .int .i64 mr.j.safe, .int .i64 mr.p.key, .slice obh mr.p.l.length cbh, .slice oRh mr.p.ring.length cRh, .slice oth mr.t.length cth] 47)).cell? ⟨w3.heap.size, 1, none⟩ = some (.slice ow mr.j.l.length cw) := block_cellB bxwW 1 _ rfl
  have bxwc2 : (w17.alloc (.cells #[.int .i64 mr.j.key, .slice oh mr.j.l.length ch, .int .i64 mr.j.safe, .int .i64 mr.p.key, .slice obh mr.p.l.length cbh, .slice oRh mr.p.ring.length cRh, .slice oth mr.t.length cth] 47)).cell? ⟨w3.heap.size, 2, none⟩ = some (.int .i64 mr.j.safe) := block_cellB bxwW 2 _ rfl
  have bxwc3 : (w17.alloc (.cells #[.int .i64 mr.j.key, .slice oh mr.j.l.length ch, .int .i64 mr.j.safe, .int .i64 mr.p.key, .slice obh mr.p.l.length cbh, .slice oRh mr.p.ring.length cRh, .slice oth mr.t.length cth] 47)).cell? ⟨w3.heap.size, 3, none⟩ = some (.int .i64 mr.p.key) := block_cellB bxwW 3 _ rfl
  have bxwc4 : (w17.alloc (.cells #[.int .i64 mr.j.key, .slice oh mr.j.l.length ch, .int .i64 mr.j.safe, .int .i64 mr.p.key, .slice obh mr.p.l.length cbh, .slice oRh mr.p.ring.length cRh, .slice oth mr.t.length cth] 47)).cell? ⟨w3.heap.size, 4, none⟩ = some (.slice obw mr.p.l.length cbw) := block_cellB bxwW 4 _ rfl
  have bxwc5 : (w17.alloc (.cells #[.int .i64 mr.j.key, .slice oh mr.j.l.length ch, .int .i64 mr.j.safe, .int .i64 mr.p.key, .slice obh mr.p.l.length cbh, .slice oRh mr.p.ring.length cRh, .slice oth mr.t.length cth] 47)).cell? ⟨w3.heap.size, 5, none⟩ = some (.slice oRw mr.p.ring.length cRw) := block_cellB bxwW 5 _ rfl
  have bxwc6 : (w17.alloc (.cells #[.int .i64 mr.j.key, .slice oh mr.j.l.length ch, .int .i64 mr.j.safe, .int .i64 mr.p.key, .slice obh mr.p.l.length cbh, .slice oRh mr.p.ring.length cRh, .slice oth mr.t.length cth] 47)).cell? ⟨w3.heap.size, 6, none⟩ = some (.slice otw mr.t.length ctw) := block_cellB bxwW 6 _ rfl
  clear bxwW
  have bxhc0 : (w17.alloc (.cells #[.int .i64 mr.j.key, .slice oh mr.j.l.length ch, .int .i64 mr.j.safe, .int .i64 mr.p.key, .slice obh mr.p.l.length cbh, .slice oRh mr.p.ring.length cRh, .slice oth mr.t.length cth] 47)).cell? ⟨w17.heap.size, 0, none⟩ = some (.int .i64 mr.j.key) := block_cellB bxh 0 _ rfl
  have bxhc1 : (w17.alloc (.cells #[.int .i64 mr.j.key, .slice oh mr.j.l.length ch, .int .i64 mr.j.safe, .int .i64 mr.p.key, .slice obh mr.p.l.length cbh, .slice oRh mr.p.ring.length cRh, .slice oth mr.t.length cth] 47)).cell? ⟨w17.heap.size, 1, none⟩ = some (.slice oh mr.j.l.length ch) := block_cellB bxh 1 _ rfl
  have bxhc2 : (w17.alloc (.cells #[.int .i64 mr.j.key, .slice oh mr.j.l.length ch, .int .i64 mr.j.safe, .int .i64 mr.p.key, .slice obh mr.p.l.length cbh, .slice oRh mr.p.ring.length cRh, .slice oth mr.t.length cth] 47)).cell? ⟨w17.heap.size, 2, none⟩ = some (.int .i64 mr.j.safe) := block_cellB bxh 2 _ rfl
  have bxhc3 : (w17.alloc (.cells #[.int .i64 mr.j.key, .slice oh mr.j.l.length ch, .int .i64 mr.j.safe, .int .i64 mr.p.key, .slice obh mr.p.l.length cbh, .slice oRh mr.p.ring.length cRh, .slice oth mr.t.length cth] 47)).cell? ⟨w17.heap.size, 3, none⟩ = some (.int .i64 mr.p.key) := block_cellB bxh 3 _ rfl
  have bxhc4 : (w17.alloc (.cells #[.int .i64 mr.j.key, .slice oh mr.j.l.length ch, .int .i64 mr.j.safe, .int .i64 mr.p.key, .slice obh mr.p.l.length cbh, .slice oRh mr.p.ring.length cRh, .slice oth mr.t.length cth] 47)).cell? ⟨w17.heap.size, 4, none⟩ = some (.slice obh mr.p.l.length cbh) := block_cellB bxh 4 _ rfl
  have bxhc5 : (w17.alloc (.cells #[.int .i64 mr.j.key, .slice oh mr.j.l.length ch, .int .i64 mr.j.safe, .int .i64 mr.p.key, .slice obh mr.p.l.length cbh, .slice oRh mr.p.ring.length cRh, .slice oth mr.t.length cth] 47)).cell? ⟨w17.heap.size, 5, none⟩ = some (.slice oRh mr.p.ring.length cRh) := block_cellB bxh 5 _ rfl
  have bxhc6 : (w17.alloc (.cells #[.int .i64 mr.j.key, .slice oh mr.j.l.length ch, .int .i64 mr.j.safe, .int .i64 mr.p.key, .slice obh mr.p.l.length cbh, .slice oRh mr.p.ring.length cRh, .slice oth mr.t.length cth] 47)).cell? ⟨w17.heap.size, 6, none⟩ = some (.slice oth mr.t.length cth) := block_cellB bxh 6 _ rfl
  have Hbxh := hide bxh
  have Hb_ := hide hb_w18
  clear bxh hb_w18
  replace bxa := hide bxa
  replace inw := hide inw
  replace bxw := hide bxw
  replace ing := hide ing
  replace bxg := hide bxg
  replace inh := hide inh
  have HB_ := hide B_w17
  clear B_w17
  go_wp2_with fail
  clear bxwc0 bxwc1 bxwc2 bxwc3 bxwc4 bxwc5 bxwc6
  clear bxhc0 bxhc1 bxhc2 bxhc3 bxhc4 bxhc5 bxhc6
  replace bxa := bxa.out
  replace inw := inw.out
  replace bxw := bxw.out
  replace ing := ing.out
  replace bxg := bxg.out
  replace inh := inh.out
  have B_w17 := HB_.out
  clear HB_
  have bxh := Hbxh.out
  have hb_w18 := Hb_.out
  clear Hbxh Hb_
  generalize w17.alloc (.cells #[.int .i64 mr.j.key, .slice oh mr.j.l.length ch, .int .i64 mr.j.safe, .int .i64 mr.p.key, .slice obh mr.p.l.length cbh, .slice oRh mr.p.ring.length cRh, .slice oth mr.t.length cth] 47) = w18 at *
  replace bxa := (hb_w18.block _ (by omega)).trans bxa
  replace inw := inw.step (Stp.of (lo := 0) (hi := 0) hb_w18) (.inl (Nat.zero_le _))
  replace bxw := (hb_w18.block _ (by omega)).trans bxw
  replace ing := ing.step (Stp.of (lo := 0) (hi := 0) hb_w18) (.inl (Nat.zero_le _))
  replace bxg := (hb_w18.block _ (by omega)).trans bxg
  replace inh := inh.step (Stp.of (lo := 0) (hi := 0) hb_w18) (.inl (Nat.zero_le _))
  have B_w18 : Below w.heap.size w w18 := B_w17.trans (hb_w18.mono B_w17.size)
  have hs_w18 : w17.heap.size ≤ w18.heap.size := hb_w18.size
  clear hb_w18 B_w17
  refine (eqBal_sh _ _ mr w18 (inh.rd.le (by omega)) (inw.rd.le (by omega)) hmr.b0).mono ?_
  rintro e w19 ⟨rfl, hb_w19⟩
  replace bxa := (hb_w19.block _ (by omega)).trans bxa
  replace inw := inw.step (Stp.of (lo := 0) (hi := 0) hb_w19) (.inl (Nat.zero_le _))
  replace bxw := (hb_w19.block _ (by omega)).trans bxw
  replace ing := ing.step (Stp.of (lo := 0) (hi := 0) hb_w19) (.inl (Nat.zero_le _))
  replace bxg := (hb_w19.block _ (by omega)).trans bxg
  replace inh := inh.step (Stp.of (lo := 0) (hi := 0) hb_w19) (.inl (Nat.zero_le _))
  replace bxh := (hb_w19.block _ (by omega)).trans bxh
  have B_w19 : Below w.heap.size w w19 := B_w18.trans (hb_w19.mono B_w18.size)
  have hs_w19 : w18.heap.size ≤ w19.heap.size := hb_w19.size
  clear hb_w19 B_w18
  clear inh
  clear bxh
  obtain ⟨bxgc0, bxgc1, bxgc2, bxgc3, bxgc4, bxgc5, bxgc6⟩ := cellsM7 bxg
  replace bxa := hide bxa
  replace inw := hide inw
  replace bxw := hide bxw
  replace ing := hide ing
  replace bxg := hide bxg
  have HB_ := hide B_w19
  clear B_w19
  go_wp2_with fail
  clear bxgc0 bxgc1 bxgc2 bxgc3 bxgc4 bxgc5 bxgc6
  replace bxa := bxa.out
  replace inw := inw.out
  replace bxw := bxw.out
  replace ing := ing.out
  replace bxg := bxg.out
  have B_w19 := HB_.out
  clear HB_
  refine (heldBal_sh0 _ mr 1 w19 (ing.rd.le (by omega)) (by omega) (by omega) hmr.b0).mono ?_
  rintro e w20 ⟨rfl, hb_w20⟩
  replace bxa := (hb_w20.block _ (by omega)).trans bxa
  replace inw := inw.step (Stp.of (lo := 0) (hi := 0) hb_w20) (.inl (Nat.zero_le _))
  replace bxw := (hb_w20.block _ (by omega)).trans bxw
  replace ing := ing.step (Stp.of (lo := 0) (hi := 0) hb_w20) (.inl (Nat.zero_le _))
  replace bxg := (hb_w20.block _ (by omega)).trans bxg
  have B_w20 : Below w.heap.size w w20 := B_w19.trans (hb_w20.mono B_w19.size)
  have hs_w20 : w19.heap.size ≤ w20.heap.size := hb_w20.size
  clear hb_w20 B_w19
  replace bxa := hide bxa
  replace inw := hide inw
  replace bxw := hide bxw
  replace ing := hide ing
  replace bxg := hide bxg
  have HB_ := hide B_w20
  clear B_w20
  go_wp2
  go_ret
  exact ⟨rfl, HB_.out⟩

theorem walkFnExactBalTick (v : Value) (m : Bm) (now : Int) (w : World) (hR : RdBm w.heap.size w v m) (hl : lenBm m) :
  Calls Tryz.prog 4 #[v, .int .i64 now] w fun e w' => e = .returned (.bool true) ∧ Below w.heap.size w w' := lawFnExactBalTick v m now w hR hl

end Go.Proofs.YtpjkcgaohoinaaaGreat

