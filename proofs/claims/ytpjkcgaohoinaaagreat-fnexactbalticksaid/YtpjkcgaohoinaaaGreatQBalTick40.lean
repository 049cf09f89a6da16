/- A balancer's tick: the model's side. -/
import Derived.Test.YtpjkcgaohoinaaaGreatQBalTick39
import Derived.Test.YtpjkcgaohoinaaaGreatQBalTick36
namespace Go.Proofs.YtpjkcgaohoinaaaGreat
open Go.ChangeShapes Go.WideShapes Go.ChangeAt Go.RowKit Go.Joins
set_option linter.unusedVariables false
set_option linter.unusedSimpArgs false


/-- What the model makes a balancer's copy of: journal and pool, and hints that read as m's. -/
def OrBm (w : World) (v : Value) (m : Bm) : Prop := ∃ o c ob cb oR cR bt ft ct, v = balv m.j.key (.slice o m.j.l.length c) m.j.safe m.p.key (.slice ob m.p.l.length cb) (.slice oR m.p.ring.length cR) (.slice (some ⟨bt, ft, none⟩) m.t.length ct) ∧ RdC w.heap.size w o m.j.l ∧ (o = none → c = 0) ∧ RdK w.heap.size w ob m.p.l ∧ (ob = none → cb = 0) ∧ RcR 0 w.heap.size w (.slice oR m.p.ring.length cR) m.p.ring ∧ bt < w.heap.size ∧ (∀ i, i < m.t.length → ∀ j, j < layS.k → w.cell? ⟨bt, ft + i * layS.k + j, none⟩ = (layS.cs (m.t.getD i layS.d))[j]?)
theorem stp_sameT {lo hi b j : Nat} {w w' : World} (s : Stp lo hi w w') (hb : b < w.heap.size) (hd : b < lo ∨ hi ≤ b) : w'.cell? ⟨b, j, none⟩ = w.cell? ⟨b, j, none⟩ := by
 simp only [World.cell?, s.block b hb hd]
theorem OrBm.kept {w w' : World} {v : Value} {m : Bm} (h : OrBm w v m) (hb : Below w.heap.size w w') : OrBm w' v m := by
 obtain ⟨o, c, ob, cb, oR, cR, bt, ft, ct, e, h1, h2, h3, h4, h5, h6, h7⟩ := h
 exact ⟨o, c, ob, cb, oR, cR, bt, ft, ct, e, (h1.kept hb (Nat.le_refl _)).le hb.size, h2, (h3.kept hb (Nat.le_refl _)).le hb.size, h4, RcR.mon.go (RcR.stp.go h5 (Stp.of (lo := 0) (hi := 0) hb) (.inl (Nat.zero_le _))) (Nat.le_refl _) hb.size, Nat.lt_of_lt_of_le h6 hb.size, fun i hi j hj => (hb.cell (p := ⟨bt, ft + i * layS.k + j, none⟩) h6).trans (h7 i hi j hj)⟩
theorem l7own_or {v : Value} {m : Bm} {w : World} (h : OrBm w v m) (hf : fitBm m) :
  Calls Tryz.prog 21 #[v] w fun e w' => ∃ v', e = .returned v' ∧ OwBm w.heap.size w'.heap.size w' v' m ∧ Below w.heap.size w w' := by
 obtain ⟨o, c, ob, cb, oR, cR, bt, ft, ct, e, h1, h2, h3, h4, h5, h6, h7⟩ := h
 subst e
 exact l7own_go m.j.key o _ c m.j.safe m.p.key ob _ cb oR _ cR bt ft _ ct m.j.l m.p.l m.p.ring m.t w rfl rfl rfl rfl h1 h2 h3 h4 h5 h6 h7 hf
def tickBM (m : Bm) (now : Int) : Bm := ⟨m.j, m.p, (expL m.t now).1⟩
def tickBB (m : Bm) (now : Int) : Bool := balB m && (decide (0 ≤ now) && decide (now ≤ 100000))
def tickB0 (m : Bm) (now : Int) : Bm := if tickBB m now = true then tickBM m now else bm0
def tickBN (m : Bm) (now : Int) : Int := if tickBB m now = true then ((expL m.t now).2 : Nat) else -1

set_option maxRecDepth 100000 in
set_option maxHeartbeats 8000000 in
theorem l7tick_any (kj : Int) (o : Option Addr) (nj c : Nat) (sj kp : Int) (ob : Option Addr) (np cb : Nat) (oR : Option Addr) (nr cR : Nat) (ot : Option Addr) (nt ct : Nat) (lj : List Cd) (lb : List Bk) (lr : List (List (List Int))) (lt : List Sl) (now : Int) (w : World)
  (hO : OwBm 0 w.heap.size w (balv kj (.slice o nj c) sj kp (.slice ob np cb) (.slice oR nr cR) (.slice ot nt ct)) ⟨⟨kj, lj, sj⟩, ⟨kp, lb, lr⟩, lt⟩) (hb : balB ⟨⟨kj, lj, sj⟩, ⟨kp, lb, lr⟩, lt⟩ = true) (hf : fitBm ⟨⟨kj, lj, sj⟩, ⟨kp, lb, lr⟩, lt⟩) :
  Calls Tryz.prog 41 #[balv kj (.slice o nj c) sj kp (.slice ob np cb) (.slice oR nr cR) (.slice ot nt ct), .int .i64 now] w fun e w' => ∃ v, e = .returned (.tuple #[v, .int .i64 ((expL lt now).2 : Nat)]) ∧ OrBm w' v (tickBM ⟨⟨kj, lj, sj⟩, ⟨kp, lb, lr⟩, lt⟩ now) ∧ Below w.heap.size w w' := by
 have HOW := hide (fun W (hb9 : Below w.heap.size w W) => l7own_ow ((hO.step (Stp.of (lo := 0) (hi := 0) hb9) (.inl (Nat.zero_le _))).mono (Nat.le_refl _) hb9.size) (Nat.le_refl _) (balB_pos hb) hf)
 have HTK := hide (show tableOkB lt = true from balB_tab hb)
 have HPO := hide (show 0 < lt.length from balB_pos hb)
 have HEL := hide (show (expL lt now).1.length = lt.length from expL_length lt now)
 clear hO hb hf
 obtain ⟨W0, hW0⟩ : ∃ W, ((w.alloc (.cells #[.int .i64 kj, .slice o nj c, .int .i64 sj, .int .i64 kp, .slice ob np cb, .slice oR nr cR, .slice ot nt ct] 47)).alloc (.cells #[.int .i64 0, .slice none 0 0, .int .i64 0, .int .i64 0, .slice none 0 0, .slice none 0 0, .slice none 0 0] 47)) = W := ⟨_, rfl⟩
 have hb_W0 : Below w.heap.size w W0 := by rw [← hW0]; exact (((Below.refl _ _).alloc (Nat.le_refl _) _).alloc (by simp <;> omega) _)
 have HB := hide hb_W0
 clear hb_W0
 have zz : w.heap.size < W0.heap.size := by rw [← hW0]; simp <;> omega
 have z0 : W0.cell? ⟨w.heap.size, 0, none⟩ = some (.int .i64 kj) := by rw [← hW0]; simp [go_sem]
 have z1 : W0.cell? ⟨w.heap.size, 1, none⟩ = some (.slice o nj c) := by rw [← hW0]; simp [go_sem]
 have z2 : W0.cell? ⟨w.heap.size, 2, none⟩ = some (.int .i64 sj) := by rw [← hW0]; simp [go_sem]
 have z3 : W0.cell? ⟨w.heap.size, 3, none⟩ = some (.int .i64 kp) := by rw [← hW0]; simp [go_sem]
 have z4 : W0.cell? ⟨w.heap.size, 4, none⟩ = some (.slice ob np cb) := by rw [← hW0]; simp [go_sem]
 have z5 : W0.cell? ⟨w.heap.size, 5, none⟩ = some (.slice oR nr cR) := by rw [← hW0]; simp [go_sem]
 have z6 : W0.cell? ⟨w.heap.size, 6, none⟩ = some (.slice ot nt ct) := by rw [← hW0]; simp [go_sem]
 have zr : w.heap.size + 1 < W0.heap.size := by rw [← hW0]; simp
 have r0 : W0.cell? ⟨w.heap.size + 1, 0, none⟩ = some (.int .i64 0) := by rw [← hW0]; simp [go_sem]
 have r1 : W0.cell? ⟨w.heap.size + 1, 1, none⟩ = some (.slice none 0 0) := by rw [← hW0]; simp [go_sem]
 have r2 : W0.cell? ⟨w.heap.size + 1, 2, none⟩ = some (.int .i64 0) := by rw [← hW0]; simp [go_sem]
 have r3 : W0.cell? ⟨w.heap.size + 1, 3, none⟩ = some (.int .i64 0) := by rw [← hW0]; simp [go_sem]
 have r4 : W0.cell? ⟨w.heap.size + 1, 4, none⟩ = some (.slice none 0 0) := by rw [← hW0]; simp [go_sem]
 have r5 : W0.cell? ⟨w.heap.size + 1, 5, none⟩ = some (.slice none 0 0) := by rw [← hW0]; simp [go_sem]
 have r6 : W0.cell? ⟨w.heap.size + 1, 6, none⟩ = some (.slice none 0 0) := by rw [← hW0]; simp [go_sem]
 have fr0 : W0.frozen? ⟨w.heap.size + 1, 0, none⟩ = false := by rw [← hW0]; simp [go_sem]
 have fr1 : W0.frozen? ⟨w.heap.size + 1, 1, none⟩ = false := by rw [← hW0]; simp [go_sem]
 have fr2 : W0.frozen? ⟨w.heap.size + 1, 2, none⟩ = false := by rw [← hW0]; simp [go_sem]
 have fr3 : W0.frozen? ⟨w.heap.size + 1, 3, none⟩ = false := by rw [← hW0]; simp [go_sem]
 have fr4 : W0.frozen? ⟨w.heap.size + 1, 4, none⟩ = false := by rw [← hW0]; simp [go_sem]
 have fr5 : W0.frozen? ⟨w.heap.size + 1, 5, none⟩ = false := by rw [← hW0]; simp [go_sem]
 have fr6 : W0.frozen? ⟨w.heap.size + 1, 6, none⟩ = false := by rw [← hW0]; simp [go_sem]
 have hzr : w.heap.size + 1 < W0.heap.size := zr
 go_enter Tryz.func41, Tryz.ntmps41
 go_wp2_with fail
 refine (HOW.out W0 HB.out).mono ?_
 rintro e v1 ⟨vo9, rfl, ino, hb⟩
 have HIO := hide ino
 have hs1 := hb.size
 clear ino HOW
 replace z0 := bC hb z0 zz
 replace z1 := bC hb z1 zz
 replace z2 := bC hb z2 zz
 replace z3 := bC hb z3 zz
 replace z4 := bC hb z4 zz
 replace z5 := bC hb z5 zz
 replace z6 := bC hb z6 zz
 replace zz := Nat.lt_of_lt_of_le zz hb.size
 replace r0 := bC hb r0 zr
 replace r1 := bC hb r1 zr
 replace r2 := bC hb r2 zr
 replace r3 := bC hb r3 zr
 replace r4 := bC hb r4 zr
 replace r5 := bC hb r5 zr
 replace r6 := bC hb r6 zr
 replace fr0 := bF hb fr0 zr
 replace fr1 := bF hb fr1 zr
 replace fr2 := bF hb fr2 zr
 replace fr3 := bF hb fr3 zr
 replace fr4 := bF hb fr4 zr
 replace fr5 := bF hb fr5 zr
 replace fr6 := bF hb fr6 zr
 replace zr := Nat.lt_of_lt_of_le zr hb.size
 replace HB := hide (HB.out.trans (hb.mono HB.out.size))
 clear hb
 obtain ⟨o9, c9, ob9, cb9, oR9, cR9, ot9, ct9, e9⟩ := HIO.out.rd.opn
 dsimp only at e9
 obtain ⟨nj9, hnj9⟩ : ∃ x, lj.length = x := ⟨_, rfl⟩
 obtain ⟨np9, hnp9⟩ : ∃ x, lb.length = x := ⟨_, rfl⟩
 obtain ⟨nr9, hnr9⟩ : ∃ x, lr.length = x := ⟨_, rfl⟩
 obtain ⟨nt9, hnt9⟩ : ∃ x, lt.length = x := ⟨_, rfl⟩
 rw [hnj9, hnp9, hnr9, hnt9] at e9
 subst e9
 obtain ⟨hnj8, hj8, hp8, ht8⟩ := ow_parts HIO.out
 clear hnj8
 have rt8 := ht8.row
 have rt7 := ht8.rd
 obtain ⟨vt7, et7, ot7, ct7, et8, rs7⟩ := rt7
 simp only [Value.agg.injEq, Array.mk.injEq, List.cons.injEq, and_true] at et7
 subst et7
 injection et8 with et81 et82 et83
 subst et81 et83
 obtain ⟨g9, f9, eg9, hg9, hcell9⟩ := rdS_some rs7 HPO.out
 subst eg9
 have hgl : W0.heap.size ≤ g9 := (rt8.1.lt g9 rfl).1
 have HC9 := hide hcell9
 clear rt8 rs7 hcell9 ht8 hj8 hp8 et82
 have HNN := hide (And.intro hnj9 (And.intro hnp9 (And.intro hnr9 hnt9)))
 clear hnj9 hnp9 hnr9 hnt9
 obtain ⟨W2, hW2⟩ : ∃ W, (v1.alloc (.cells #[.int .i64 kj, .slice o9 nj9 c9, .int .i64 sj, .int .i64 kp, .slice ob9 np9 cb9, .slice oR9 nr9 cR9, .slice (some ⟨g9, f9, none⟩) nt9 ct9] 47)) = W := ⟨_, rfl⟩
 have hb_W2 : Below v1.heap.size v1 W2 := by rw [← hW2]; exact ((Below.refl _ _).alloc (Nat.le_refl _) _)
 replace z0 := bC hb_W2 z0 zz
 replace z1 := bC hb_W2 z1 zz
 replace z2 := bC hb_W2 z2 zz
 replace z3 := bC hb_W2 z3 zz
 replace z4 := bC hb_W2 z4 zz
 replace z5 := bC hb_W2 z5 zz
 replace z6 := bC hb_W2 z6 zz
 replace zz := Nat.lt_of_lt_of_le zz hb_W2.size
 replace r0 := bC hb_W2 r0 zr
 replace r1 := bC hb_W2 r1 zr
 replace r2 := bC hb_W2 r2 zr
 replace r3 := bC hb_W2 r3 zr
 replace r4 := bC hb_W2 r4 zr
 replace r5 := bC hb_W2 r5 zr
 replace r6 := bC hb_W2 r6 zr
 replace fr0 := bF hb_W2 fr0 zr
 replace fr1 := bF hb_W2 fr1 zr
 replace fr2 := bF hb_W2 fr2 zr
 replace fr3 := bF hb_W2 fr3 zr
 replace fr4 := bF hb_W2 fr4 zr
 replace fr5 := bF hb_W2 fr5 zr
 replace fr6 := bF hb_W2 fr6 zr
 replace zr := Nat.lt_of_lt_of_le zr hb_W2.size
 replace HB := hide (HB.out.trans (hb_W2.mono HB.out.size))
 clear hb_W2
 have zu : v1.heap.size < W2.heap.size := by rw [← hW2]; simp
 have u0 : W2.cell? ⟨v1.heap.size, 0, none⟩ = some (.int .i64 kj) := by rw [← hW2]; simp [go_sem]
 have u1 : W2.cell? ⟨v1.heap.size, 1, none⟩ = some (.slice o9 nj9 c9) := by rw [← hW2]; simp [go_sem]
 have u2 : W2.cell? ⟨v1.heap.size, 2, none⟩ = some (.int .i64 sj) := by rw [← hW2]; simp [go_sem]
 have u3 : W2.cell? ⟨v1.heap.size, 3, none⟩ = some (.int .i64 kp) := by rw [← hW2]; simp [go_sem]
 have u4 : W2.cell? ⟨v1.heap.size, 4, none⟩ = some (.slice ob9 np9 cb9) := by rw [← hW2]; simp [go_sem]
 have u5 : W2.cell? ⟨v1.heap.size, 5, none⟩ = some (.slice oR9 nr9 cR9) := by rw [← hW2]; simp [go_sem]
 have u6 : W2.cell? ⟨v1.heap.size, 6, none⟩ = some (.slice (some ⟨g9, f9, none⟩) nt9 ct9) := by rw [← hW2]; simp [go_sem]
 have fu0 : W2.frozen? ⟨v1.heap.size, 0, none⟩ = false := by rw [← hW2]; simp [go_sem]
 have fu1 : W2.frozen? ⟨v1.heap.size, 1, none⟩ = false := by rw [← hW2]; simp [go_sem]
 have fu2 : W2.frozen? ⟨v1.heap.size, 2, none⟩ = false := by rw [← hW2]; simp [go_sem]
 have fu3 : W2.frozen? ⟨v1.heap.size, 3, none⟩ = false := by rw [← hW2]; simp [go_sem]
 have fu4 : W2.frozen? ⟨v1.heap.size, 4, none⟩ = false := by rw [← hW2]; simp [go_sem]
 have fu5 : W2.frozen? ⟨v1.heap.size, 5, none⟩ = false := by rw [← hW2]; simp [go_sem]
 have fu6 : W2.frozen? ⟨v1.heap.size, 6, none⟩ = false := by rw [← hW2]; simp [go_sem]
 have hu : v1.heap.size < W2.heap.size := zu
 have HEX := hide (l5expireW_any g9 f9 ct9 lt now W2 HTK.out (by omega) (fun i hi j hj => ((show Below v1.heap.size v1 W2 by rw [← hW2]; exact (Below.refl _ _).alloc (Nat.le_refl _) _).cell (p := ⟨g9, f9 + i * layS.k + j, none⟩) hg9).trans (HC9.out i hi j hj)))
 have HXU : Hid (W2.heap[v1.heap.size]? = some (.cells #[.int .i64 kj, .slice o9 nj9 c9, .int .i64 sj, .int .i64 kp, .slice ob9 np9 cb9, .slice oR9 nr9 cR9, .slice (some ⟨g9, f9, none⟩) nt9 ct9] 47 (0, 0))) := by rw [← hW2]; exact World.alloc_heap_new v1 _
 have hbW2 : Below v1.heap.size v1 W2 := by rw [← hW2]; exact (Below.refl _ _).alloc (Nat.le_refl _) _
 rw [HNN.out.2.2.2] at HEX
 obtain ⟨en, hen⟩ : ∃ x, ((expL lt now).2 : Nat) = x := ⟨_, rfl⟩
 obtain ⟨el, hel⟩ : ∃ x, (expL lt now).1 = x := ⟨_, rfl⟩
 rw [hen, hel] at HEX
 rw [hel] at HEL
 have HTM := hide (show tickBM ⟨⟨kj, lj, sj⟩, ⟨kp, lb, lr⟩, lt⟩ now = ⟨⟨kj, lj, sj⟩, ⟨kp, lb, lr⟩, el⟩ by rw [← hel]; rfl)
 have HEN := hide hen
 clear hen hel HC9
 go_wp2_with fail
 refine (HEX.out).mono ?_
 rintro e v2 ⟨g8, f8, ct8, rfl, hg8, hcell8, hb, hor⟩
 have HC8 := hide hcell8
 have hs3 := hb.size
 replace HXU := hide ((hb.block _ hu).trans HXU.out)
 have hb3 := hb
 clear hcell8 HEX
 replace z0 := bC hb z0 zz
 replace z1 := bC hb z1 zz
 replace z2 := bC hb z2 zz
 replace z3 := bC hb z3 zz
 replace z4 := bC hb z4 zz
 replace z5 := bC hb z5 zz
 replace z6 := bC hb z6 zz
 replace zz := Nat.lt_of_lt_of_le zz hb.size
 replace r0 := bC hb r0 zr
 replace r1 := bC hb r1 zr
 replace r2 := bC hb r2 zr
 replace r3 := bC hb r3 zr
 replace r4 := bC hb r4 zr
 replace r5 := bC hb r5 zr
 replace r6 := bC hb r6 zr
 replace fr0 := bF hb fr0 zr
 replace fr1 := bF hb fr1 zr
 replace fr2 := bF hb fr2 zr
 replace fr3 := bF hb fr3 zr
 replace fr4 := bF hb fr4 zr
 replace fr5 := bF hb fr5 zr
 replace fr6 := bF hb fr6 zr
 replace zr := Nat.lt_of_lt_of_le zr hb.size
 replace u0 := bC hb u0 zu
 replace u1 := bC hb u1 zu
 replace u2 := bC hb u2 zu
 replace u3 := bC hb u3 zu
 replace u4 := bC hb u4 zu
 replace u5 := bC hb u5 zu
 replace u6 := bC hb u6 zu
 replace fu0 := bF hb fu0 zu
 replace fu1 := bF hb fu1 zu
 replace fu2 := bF hb fu2 zu
 replace fu3 := bF hb fu3 zu
 replace fu4 := bF hb fu4 zu
 replace fu5 := bF hb fu5 zu
 replace fu6 := bF hb fu6 zu
 replace zu := Nat.lt_of_lt_of_le zu hb.size
 replace HB := hide (HB.out.trans (hb.mono HB.out.size))
 clear hb
 obtain ⟨W4, hW4⟩ : ∃ W, (v2.alloc (.cells #[.slice (some ⟨g8, f8, none⟩) nt9 ct8] 45)) = W := ⟨_, rfl⟩
 have hb_W4 : Below v2.heap.size v2 W4 := by rw [← hW4]; exact ((Below.refl _ _).alloc (Nat.le_refl _) _)
 replace z0 := bC hb_W4 z0 zz
 replace z1 := bC hb_W4 z1 zz
 replace z2 := bC hb_W4 z2 zz
 replace z3 := bC hb_W4 z3 zz
 replace z4 := bC hb_W4 z4 zz
 replace z5 := bC hb_W4 z5 zz
 replace z6 := bC hb_W4 z6 zz
 replace zz := Nat.lt_of_lt_of_le zz hb_W4.size
 replace r0 := bC hb_W4 r0 zr
 replace r1 := bC hb_W4 r1 zr
 replace r2 := bC hb_W4 r2 zr
 replace r3 := bC hb_W4 r3 zr
 replace r4 := bC hb_W4 r4 zr
 replace r5 := bC hb_W4 r5 zr
 replace r6 := bC hb_W4 r6 zr
 replace fr0 := bF hb_W4 fr0 zr
 replace fr1 := bF hb_W4 fr1 zr
 replace fr2 := bF hb_W4 fr2 zr
 replace fr3 := bF hb_W4 fr3 zr
 replace fr4 := bF hb_W4 fr4 zr
 replace fr5 := bF hb_W4 fr5 zr
 replace fr6 := bF hb_W4 fr6 zr
 replace zr := Nat.lt_of_lt_of_le zr hb_W4.size
 replace u0 := bC hb_W4 u0 zu
 replace u1 := bC hb_W4 u1 zu
 replace u2 := bC hb_W4 u2 zu
 replace u3 := bC hb_W4 u3 zu
 replace u4 := bC hb_W4 u4 zu
 replace u5 := bC hb_W4 u5 zu
 replace u6 := bC hb_W4 u6 zu
 replace fu0 := bF hb_W4 fu0 zu
 replace fu1 := bF hb_W4 fu1 zu
 replace fu2 := bF hb_W4 fu2 zu
 replace fu3 := bF hb_W4 fu3 zu
 replace fu4 := bF hb_W4 fu4 zu
 replace fu5 := bF hb_W4 fu5 zu
 replace fu6 := bF hb_W4 fu6 zu
 replace zu := Nat.lt_of_lt_of_le zu hb_W4.size
 replace HB := hide (HB.out.trans (hb_W4.mono HB.out.size))
 clear hb_W4
 have zt : v2.heap.size < W4.heap.size := by rw [← hW4]; simp
 have t0 : W4.cell? ⟨v2.heap.size, 0, none⟩ = some (.slice (some ⟨g8, f8, none⟩) nt9 ct8) := by rw [← hW4]; simp [go_sem]
 have hs4 : v2.heap.size < W4.heap.size := zt
 have hlr : w.heap.size + 1 < v1.heap.size := by omega
 have hg8n : g8 < v1.heap.size ∨ v1.heap.size + 1 ≤ g8 := by omega
 have hg8r : g8 < w.heap.size + 1 ∨ w.heap.size + 1 + 1 ≤ g8 := by omega
 have hb4 : Below v2.heap.size v2 W4 := by rw [← hW4]; exact (Below.refl _ _).alloc (Nat.le_refl _) _
 have X4 : W4.heap[v1.heap.size]? = some (.cells #[.int .i64 kj, .slice o9 nj9 c9, .int .i64 sj, .int .i64 kp, .slice ob9 np9 cb9, .slice oR9 nr9 cR9, .slice (some ⟨g9, f9, none⟩) nt9 ct9] 47 (0, 0)) := (hb4.block _ (by omega)).trans HXU.out
 have X5 : (W4.setCell ⟨v1.heap.size, 6, none⟩ (.slice (some ⟨g8, f8, none⟩) nt9 ct8)).heap[v1.heap.size]? = some (.cells #[.int .i64 kj, .slice o9 nj9 c9, .int .i64 sj, .int .i64 kp, .slice ob9 np9 cb9, .slice oR9 nr9 cR9, .slice (some ⟨g8, f8, none⟩) nt9 ct8] 47 (0, 0)) := box_put X4 6 _
 have s5 : Stp v1.heap.size (v1.heap.size + 1) W4 (W4.setCell ⟨v1.heap.size, 6, none⟩ (.slice (some ⟨g8, f8, none⟩) nt9 ct8)) := stp_set W4 v1.heap.size 6 _
 have y0 : (W4.setCell ⟨v1.heap.size, 6, none⟩ (.slice (some ⟨g8, f8, none⟩) nt9 ct8)).cell? ⟨v1.heap.size, 0, none⟩ = some (.int .i64 kj) := bx_cell X5 0 _ rfl
 have y1 : (W4.setCell ⟨v1.heap.size, 6, none⟩ (.slice (some ⟨g8, f8, none⟩) nt9 ct8)).cell? ⟨v1.heap.size, 1, none⟩ = some (.slice o9 nj9 c9) := bx_cell X5 1 _ rfl
 have y2 : (W4.setCell ⟨v1.heap.size, 6, none⟩ (.slice (some ⟨g8, f8, none⟩) nt9 ct8)).cell? ⟨v1.heap.size, 2, none⟩ = some (.int .i64 sj) := bx_cell X5 2 _ rfl
 have y3 : (W4.setCell ⟨v1.heap.size, 6, none⟩ (.slice (some ⟨g8, f8, none⟩) nt9 ct8)).cell? ⟨v1.heap.size, 3, none⟩ = some (.int .i64 kp) := bx_cell X5 3 _ rfl
 have y4 : (W4.setCell ⟨v1.heap.size, 6, none⟩ (.slice (some ⟨g8, f8, none⟩) nt9 ct8)).cell? ⟨v1.heap.size, 4, none⟩ = some (.slice ob9 np9 cb9) := bx_cell X5 4 _ rfl
 have y5 : (W4.setCell ⟨v1.heap.size, 6, none⟩ (.slice (some ⟨g8, f8, none⟩) nt9 ct8)).cell? ⟨v1.heap.size, 5, none⟩ = some (.slice oR9 nr9 cR9) := bx_cell X5 5 _ rfl
 have y6 : (W4.setCell ⟨v1.heap.size, 6, none⟩ (.slice (some ⟨g8, f8, none⟩) nt9 ct8)).cell? ⟨v1.heap.size, 6, none⟩ = some (.slice (some ⟨g8, f8, none⟩) nt9 ct8) := bx_cell X5 6 _ rfl
 have r5_0 := s5.cellP r0 (.inl hlr)
 have r5_1 := s5.cellP r1 (.inl hlr)
 have r5_2 := s5.cellP r2 (.inl hlr)
 have r5_3 := s5.cellP r3 (.inl hlr)
 have r5_4 := s5.cellP r4 (.inl hlr)
 have r5_5 := s5.cellP r5 (.inl hlr)
 have r5_6 := s5.cellP r6 (.inl hlr)
 have fr5_0 := Stp.frozen s5 fr0 (by omega) (.inl hlr)
 have fr5_1 := Stp.frozen s5 fr1 (by omega) (.inl hlr)
 have fr5_2 := Stp.frozen s5 fr2 (by omega) (.inl hlr)
 have fr5_3 := Stp.frozen s5 fr3 (by omega) (.inl hlr)
 have fr5_4 := Stp.frozen s5 fr4 (by omega) (.inl hlr)
 have fr5_5 := Stp.frozen s5 fr5 (by omega) (.inl hlr)
 have fr5_6 := Stp.frozen s5 fr6 (by omega) (.inl hlr)
 have HFN : Hid (∀ SX : World, OwBm W0.heap.size v1.heap.size SX (balv kj (.slice o9 nj9 c9) sj kp (.slice ob9 np9 cb9) (.slice oR9 nr9 cR9) (.slice (some ⟨g9, f9, none⟩) nt9 ct9)) ⟨⟨kj, lj, sj⟩, ⟨kp, lb, lr⟩, lt⟩ → (∀ i, i < el.length → ∀ j, j < layS.k → SX.cell? ⟨g8, f8 + i * layS.k + j, none⟩ = (layS.cs (el.getD i layS.d))[j]?) → v1.heap.size ≤ SX.heap.size → g8 < SX.heap.size → OrBm SX (balv kj (.slice o9 nj9 c9) sj kp (.slice ob9 np9 cb9) (.slice oR9 nr9 cR9) (.slice (some ⟨g8, f8, none⟩) nt9 ct8)) (tickBM ⟨⟨kj, lj, sj⟩, ⟨kp, lb, lr⟩, lt⟩ now)) := by
  refine hide ?_
  intro SX hO9 hcl hup hgx
  obtain ⟨e1, e2, e3, e4⟩ := HNN.out
  rw [HTM.out]
  have e5 : nt9 = el.length := by rw [HEL.out, e4]
  obtain ⟨hnj8, hj8, hp8, _⟩ := ow_parts hO9
  have cj8 := hj8.cap
  obtain ⟨vl8, el8, oj8, cc8, el9, rj8⟩ := hj8.rd
  simp only [Value.agg.injEq, Array.mk.injEq, List.cons.injEq, and_true, true_and] at el8
  subst el8
  injection el9 with el91 el92 el93
  subst el91 el93
  obtain ⟨vb8, vr8, e8, kb1, kb2, kb3, kb4⟩ := hp8
  simp only [Value.agg.injEq, Array.mk.injEq, List.cons.injEq, and_true, true_and] at e8
  obtain ⟨e81, e82⟩ := e8
  subst e81 e82
  obtain ⟨u9, uc9, e83, rk9⟩ := RiV.open kb1
  injection e83 with e831 e832 e833
  subst e831 e833
  rw [← e1, ← e2, ← e3, e5]
  rw [← e3] at kb3 kb4
  exact ⟨o9, c9, ob9, cb9, oR9, cR9, g8, f8, ct8, rfl, rj8.le hup, capJm.one cj8, rk9.le hup, (fun h => kb2 _ _ (by rw [h])), RcR.mon.go kb3 (Nat.zero_le _) hup, hgx, hcl⟩
 have HFI : Hid (OrBm (setB (W4.setCell ⟨v1.heap.size, 6, none⟩ (.slice (some ⟨g8, f8, none⟩) nt9 ct8)) (w.heap.size + 1) (.int .i64 kj) (.slice o9 nj9 c9) (.int .i64 sj) (.int .i64 kp) (.slice ob9 np9 cb9) (.slice oR9 nr9 cR9) (.slice (some ⟨g8, f8, none⟩) nt9 ct8)) (balv kj (.slice o9 nj9 c9) sj kp (.slice ob9 np9 cb9) (.slice oR9 nr9 cR9) (.slice (some ⟨g8, f8, none⟩) nt9 ct8)) (tickBM ⟨⟨kj, lj, sj⟩, ⟨kp, lb, lr⟩, lt⟩ now) ∧ Below w.heap.size w (setB (W4.setCell ⟨v1.heap.size, 6, none⟩ (.slice (some ⟨g8, f8, none⟩) nt9 ct8)) (w.heap.size + 1) (.int .i64 kj) (.slice o9 nj9 c9) (.int .i64 sj) (.int .i64 kp) (.slice ob9 np9 cb9) (.slice oR9 nr9 cR9) (.slice (some ⟨g8, f8, none⟩) nt9 ct8))) := by
  have sR := stp_setB (W4.setCell ⟨v1.heap.size, 6, none⟩ (.slice (some ⟨g8, f8, none⟩) nt9 ct8)) (w.heap.size + 1) (.int .i64 kj) (.slice o9 nj9 c9) (.int .i64 sj) (.int .i64 kp) (.slice ob9 np9 cb9) (.slice oR9 nr9 cR9) (.slice (some ⟨g8, f8, none⟩) nt9 ct8)
  have hszR : (setB (W4.setCell ⟨v1.heap.size, 6, none⟩ (.slice (some ⟨g8, f8, none⟩) nt9 ct8)) (w.heap.size + 1) (.int .i64 kj) (.slice o9 nj9 c9) (.int .i64 sj) (.int .i64 kp) (.slice ob9 np9 cb9) (.slice oR9 nr9 cR9) (.slice (some ⟨g8, f8, none⟩) nt9 ct8)).heap.size = (W4.setCell ⟨v1.heap.size, 6, none⟩ (.slice (some ⟨g8, f8, none⟩) nt9 ct8)).heap.size := setB_size _ _ _ _ _ _ _ _ _
  have hz5 := s5.size
  have hz4 := hb4.size
  have hO9 := ((HIO.out.step (Stp.of (lo := 0) (hi := 0) ((hbW2.trans (hb3.mono hbW2.size)).trans (hb4.mono (Nat.le_trans hbW2.size hb3.size)))) (.inl (Nat.zero_le _))).step s5 (.inr (Nat.le_refl _))).step sR (.inl (by omega))
  have hcl : ∀ i, i < el.length → ∀ j, j < layS.k → (setB (W4.setCell ⟨v1.heap.size, 6, none⟩ (.slice (some ⟨g8, f8, none⟩) nt9 ct8)) (w.heap.size + 1) (.int .i64 kj) (.slice o9 nj9 c9) (.int .i64 sj) (.int .i64 kp) (.slice ob9 np9 cb9) (.slice oR9 nr9 cR9) (.slice (some ⟨g8, f8, none⟩) nt9 ct8)).cell? ⟨g8, f8 + i * layS.k + j, none⟩ = (layS.cs (el.getD i layS.d))[j]? := fun i hi j hj => (stp_sameT sR (b := g8) (j := f8 + i * layS.k + j) (by omega) hg8r).trans ((stp_sameT s5 (b := g8) (j := f8 + i * layS.k + j) (by omega) hg8n).trans ((hb4.cell (p := ⟨g8, f8 + i * layS.k + j, none⟩) hg8).trans (HC8.out i hi j hj)))
  exact ⟨HFN.out _ hO9 hcl (by rw [hszR]; omega) (by rw [hszR]; omega), setB_below (HB.out.trans (s5.below (by omega) HB.out.size)) (by omega) _ _ _ _ _ _ _⟩
 clear HFN
 clear X4 X5 s5 HIO HC8 HXU hb4 hbW2 hb3
 go_wp2
 refine bodyPost_ret (v := .tuple #[balv kj (.slice o9 nj9 c9) sj kp (.slice ob9 np9 cb9) (.slice oR9 nr9 cR9) (.slice (some ⟨g8, f8, none⟩) nt9 ct8), .int .i64 (en : Nat)]) (by simp [results, Tryz.results41, go_sem, r0, r1, r2, r3, r4, r5, r6, r5_0, r5_1, r5_2, r5_3, r5_4, r5_5, r5_6]) rfl ⟨_, by rw [HEN.out], HFI.out.1, HFI.out.2⟩

theorem l6nowB_any (n : Int) (w : World) : Calls Tryz.prog 19 #[.int .i64 n] w fun e w' => e = .returned (.bool (decide (0 ≤ n) && decide (n ≤ 100000))) ∧ Below w.heap.size w w' := by
 go_enter Tryz.func19, Tryz.ntmps19
 go_wp2
 all_goals go_ret
 all_goals refine ⟨ret_bool ?_, Below.refl _ _⟩
 all_goals first | (simp [*]; done) | (simp; omega)

set_option maxRecDepth 100000 in
set_option maxHeartbeats 4000000 in
theorem specBalTick_any (kj : Int) (o : Option Addr) (nj c : Nat) (sj kp : Int) (ob : Option Addr) (np cb : Nat) (oR : Option Addr) (nr cR : Nat) (ot : Option Addr) (nt ct : Nat) (lj : List Cd) (lb : List Bk) (lr : List (List (List Int))) (lt : List Sl) (now : Int) (w : World)
  (hnj : nj = lj.length) (hnt : nt = lt.length) (h1 : RdC w.heap.size w o lj) (h1c : o = none → c = 0) (h2 : RdPm w.heap.size w (plv kp (.slice ob np cb) (.slice oR nr cR)) ⟨kp, lb, lr⟩) (h4 : RdS w.heap.size w ot lt) (hf : fitB0 ⟨⟨kj, lj, sj⟩, ⟨kp, lb, lr⟩, lt⟩) (hO : OwBm 0 w.heap.size w (balv kj (.slice o nj c) sj kp (.slice ob np cb) (.slice oR nr cR) (.slice ot nt ct)) ⟨⟨kj, lj, sj⟩, ⟨kp, lb, lr⟩, lt⟩) :
  Calls Tryz.prog 13 #[balv kj (.slice o nj c) sj kp (.slice ob np cb) (.slice oR nr cR) (.slice ot nt ct), .int .i64 now] w fun e w' => ∃ v, e = .returned (.tuple #[v, .int .i64 (tickBN ⟨⟨kj, lj, sj⟩, ⟨kp, lb, lr⟩, lt⟩ now)]) ∧ OwBm w.heap.size w'.heap.size w' v (tickB0 ⟨⟨kj, lj, sj⟩, ⟨kp, lb, lr⟩, lt⟩ now) ∧ Below w.heap.size w w' := by
 have HBO := hide (fun W (hb : Below w.heap.size w W) => specBalOk_any kj o nj c sj kp ob np cb oR nr cR ot nt ct lj lb lr lt W hnj hnt ((h1.kept hb (Nat.le_refl _)).le hb.size) h1c ((h2.kept hb (Nat.le_refl _)).le hb.size) ((h4.kept hb (Nat.le_refl _)).le hb.size) hf)
 have HFB := hide (show balB ⟨⟨kj, lj, sj⟩, ⟨kp, lb, lr⟩, lt⟩ = true → fitBm ⟨⟨kj, lj, sj⟩, ⟨kp, lb, lr⟩, lt⟩ from fun h => ⟨by have := (journal_facts (balB_jrn h)).2.1; dsimp only at this ⊢; omega, balB_fit h, by have := (tableOkB_iff.1 (balB_tab h)).2.1; dsimp only at this ⊢; omega⟩)
 have HCR := hide (fun hb9 W (hb : Below w.heap.size w W) => l7tick_any kj o nj c sj kp ob np cb oR nr cR ot nt ct lj lb lr lt now W ((hO.step (Stp.of (lo := 0) (hi := 0) hb) (.inl (Nat.zero_le _))).mono (Nat.le_refl _) hb.size) hb9 (HFB.out hb9))
 have HCF := hide (show balB ⟨⟨kj, lj, sj⟩, ⟨kp, lb, lr⟩, lt⟩ = true → fitBm (tickBM ⟨⟨kj, lj, sj⟩, ⟨kp, lb, lr⟩, lt⟩ now) from fun hb9 => ⟨(HFB.out hb9).1, (HFB.out hb9).2.1, by have h := (HFB.out hb9).2.2; show (expL lt now).1.length ≤ _; rw [expL_length]; exact h⟩)
 have HM := hide (show tickB0 ⟨⟨kj, lj, sj⟩, ⟨kp, lb, lr⟩, lt⟩ now = if (balB ⟨⟨kj, lj, sj⟩, ⟨kp, lb, lr⟩, lt⟩ && (decide (0 ≤ now) && decide (now ≤ 100000))) = true then tickBM ⟨⟨kj, lj, sj⟩, ⟨kp, lb, lr⟩, lt⟩ now else bm0 from rfl)
 have HF0 := hide (show tickBN ⟨⟨kj, lj, sj⟩, ⟨kp, lb, lr⟩, lt⟩ now = if (balB ⟨⟨kj, lj, sj⟩, ⟨kp, lb, lr⟩, lt⟩ && (decide (0 ≤ now) && decide (now ≤ 100000))) = true then (((expL lt now).2 : Nat) : Int) else (-1 : Int) from rfl)
 have HCB := hide (fun W => l6nowB_any now W)
 clear h1 h2 h4 hnj hnt hf hO HFB
 obtain ⟨bb, hbb⟩ : ∃ x, balB ⟨⟨kj, lj, sj⟩, ⟨kp, lb, lr⟩, lt⟩ = x := ⟨_, rfl⟩
 obtain ⟨mr, hmr⟩ : ∃ r, tickB0 ⟨⟨kj, lj, sj⟩, ⟨kp, lb, lr⟩, lt⟩ now = r := ⟨_, rfl⟩
 obtain ⟨fl, hfl⟩ : ∃ r, tickBN ⟨⟨kj, lj, sj⟩, ⟨kp, lb, lr⟩, lt⟩ now = r := ⟨_, rfl⟩
 obtain ⟨cb9, hcb⟩ : ∃ r, (decide (0 ≤ now) && decide (now ≤ 100000)) = r := ⟨_, rfl⟩
 obtain ⟨en, hen⟩ : ∃ r, ((expL lt now).2 : Nat) = r := ⟨_, rfl⟩
 rw [hmr, hfl]
 rw [hbb] at HBO HCR HCF HM HF0
 rw [hmr] at HM
 rw [hfl] at HF0
 rw [hcb] at HM HF0 HCB
 rw [hen] at HF0 HCR
 clear hbb hmr hfl hcb hen
 obtain ⟨W0, hW0⟩ : ∃ W, ((w.alloc (.cells #[.int .i64 kj, .slice o nj c, .int .i64 sj, .int .i64 kp, .slice ob np cb, .slice oR nr cR, .slice ot nt ct] 47)).alloc (.cells #[.int .i64 0, .slice none 0 0, .int .i64 0, .int .i64 0, .slice none 0 0, .slice none 0 0, .slice none 0 0] 47)) = W := ⟨_, rfl⟩
 have hb_W0 : Below w.heap.size w W0 := by rw [← hW0]; exact (((Below.refl _ _).alloc (Nat.le_refl _) _).alloc (by simp <;> omega) _)
 have HB := hide hb_W0
 clear hb_W0
 have zz : w.heap.size < W0.heap.size := by rw [← hW0]; simp <;> omega
 have z0 : W0.cell? ⟨w.heap.size, 0, none⟩ = some (.int .i64 kj) := by rw [← hW0]; simp [go_sem]
 have z1 : W0.cell? ⟨w.heap.size, 1, none⟩ = some (.slice o nj c) := by rw [← hW0]; simp [go_sem]
 have z2 : W0.cell? ⟨w.heap.size, 2, none⟩ = some (.int .i64 sj) := by rw [← hW0]; simp [go_sem]
 have z3 : W0.cell? ⟨w.heap.size, 3, none⟩ = some (.int .i64 kp) := by rw [← hW0]; simp [go_sem]
 have z4 : W0.cell? ⟨w.heap.size, 4, none⟩ = some (.slice ob np cb) := by rw [← hW0]; simp [go_sem]
 have z5 : W0.cell? ⟨w.heap.size, 5, none⟩ = some (.slice oR nr cR) := by rw [← hW0]; simp [go_sem]
 have z6 : W0.cell? ⟨w.heap.size, 6, none⟩ = some (.slice ot nt ct) := by rw [← hW0]; simp [go_sem]
 have zr : w.heap.size + 1 < W0.heap.size := by rw [← hW0]; simp
 have r0 : W0.cell? ⟨w.heap.size + 1, 0, none⟩ = some (.int .i64 0) := by rw [← hW0]; simp [go_sem]
 have r1 : W0.cell? ⟨w.heap.size + 1, 1, none⟩ = some (.slice none 0 0) := by rw [← hW0]; simp [go_sem]
 have r2 : W0.cell? ⟨w.heap.size + 1, 2, none⟩ = some (.int .i64 0) := by rw [← hW0]; simp [go_sem]
 have r3 : W0.cell? ⟨w.heap.size + 1, 3, none⟩ = some (.int .i64 0) := by rw [← hW0]; simp [go_sem]
 have r4 : W0.cell? ⟨w.heap.size + 1, 4, none⟩ = some (.slice none 0 0) := by rw [← hW0]; simp [go_sem]
 have r5 : W0.cell? ⟨w.heap.size + 1, 5, none⟩ = some (.slice none 0 0) := by rw [← hW0]; simp [go_sem]
 have r6 : W0.cell? ⟨w.heap.size + 1, 6, none⟩ = some (.slice none 0 0) := by rw [← hW0]; simp [go_sem]
 have fr0 : W0.frozen? ⟨w.heap.size + 1, 0, none⟩ = false := by rw [← hW0]; simp [go_sem]
 have fr1 : W0.frozen? ⟨w.heap.size + 1, 1, none⟩ = false := by rw [← hW0]; simp [go_sem]
 have fr2 : W0.frozen? ⟨w.heap.size + 1, 2, none⟩ = false := by rw [← hW0]; simp [go_sem]
 have fr3 : W0.frozen? ⟨w.heap.size + 1, 3, none⟩ = false := by rw [← hW0]; simp [go_sem]
 have fr4 : W0.frozen? ⟨w.heap.size + 1, 4, none⟩ = false := by rw [← hW0]; simp [go_sem]
 have fr5 : W0.frozen? ⟨w.heap.size + 1, 5, none⟩ = false := by rw [← hW0]; simp [go_sem]
 have fr6 : W0.frozen? ⟨w.heap.size + 1, 6, none⟩ = false := by rw [← hW0]; simp [go_sem]
 have hzr : w.heap.size + 1 < W0.heap.size := zr
 cases bb with
 | false =>
  go_enter Tryz.func13, Tryz.ntmps13
  go_wp2_with fail
  refine (HBO.out W0 HB.out).mono ?_
  rintro e v1 ⟨rfl, hb⟩
  replace z0 := bC hb z0 zz
  replace z1 := bC hb z1 zz
  replace z2 := bC hb z2 zz
  replace z3 := bC hb z3 zz
  replace z4 := bC hb z4 zz
  replace z5 := bC hb z5 zz
  replace z6 := bC hb z6 zz
  replace zz := Nat.lt_of_lt_of_le zz hb.size
  replace r0 := bC hb r0 zr
  replace r1 := bC hb r1 zr
  replace r2 := bC hb r2 zr
  replace r3 := bC hb r3 zr
  replace r4 := bC hb r4 zr
  replace r5 := bC hb r5 zr
  replace r6 := bC hb r6 zr
  replace fr0 := bF hb fr0 zr
  replace fr1 := bF hb fr1 zr
  replace fr2 := bF hb fr2 zr
  replace fr3 := bF hb fr3 zr
  replace fr4 := bF hb fr4 zr
  replace fr5 := bF hb fr5 zr
  replace fr6 := bF hb fr6 zr
  replace zr := Nat.lt_of_lt_of_le zr hb.size
  replace HB := hide (HB.out.trans (hb.mono HB.out.size))
  clear hb
  have e0 : fl = -1 := by rw [HF0.out]; simp
  subst e0
  go_wp2
  refine bodyPost_ret (v := .tuple #[balv 0 (.slice none 0 0) 0 0 (.slice none 0 0) (.slice none 0 0) (.slice none 0 0), .int .i64 (-1)]) (by simp [results, Tryz.results13, go_sem, r0, r1, r2, r3, r4, r5, r6]) rfl ⟨_, rfl, ?_, setB_below HB.out (by omega) _ _ _ _ _ _ _⟩
  rw [HM.out, setB_size]
  exact bm0_ow _ _ _
 | true =>
  cases cb9 with
  | false =>
   go_enter Tryz.func13, Tryz.ntmps13
   go_wp2_with fail
   refine (HBO.out W0 HB.out).mono ?_
   rintro e v1 ⟨rfl, hb⟩
   replace z0 := bC hb z0 zz
   replace z1 := bC hb z1 zz
   replace z2 := bC hb z2 zz
   replace z3 := bC hb z3 zz
   replace z4 := bC hb z4 zz
   replace z5 := bC hb z5 zz
   replace z6 := bC hb z6 zz
   replace zz := Nat.lt_of_lt_of_le zz hb.size
   replace r0 := bC hb r0 zr
   replace r1 := bC hb r1 zr
   replace r2 := bC hb r2 zr
   replace r3 := bC hb r3 zr
   replace r4 := bC hb r4 zr
   replace r5 := bC hb r5 zr
   replace r6 := bC hb r6 zr
   replace fr0 := bF hb fr0 zr
   replace fr1 := bF hb fr1 zr
   replace fr2 := bF hb fr2 zr
   replace fr3 := bF hb fr3 zr
   replace fr4 := bF hb fr4 zr
   replace fr5 := bF hb fr5 zr
   replace fr6 := bF hb fr6 zr
   replace zr := Nat.lt_of_lt_of_le zr hb.size
   replace HB := hide (HB.out.trans (hb.mono HB.out.size))
   clear hb
   have hck := HCB.out v1
   go_wp2_with fail
   refine (hck).mono ?_
   rintro e v2 ⟨rfl, hb⟩
   replace z0 := bC hb z0 zz
   replace z1 := bC hb z1 zz
   replace z2 := bC hb z2 zz
   replace z3 := bC hb z3 zz
   replace z4 := bC hb z4 zz
   replace z5 := bC hb z5 zz
   replace z6 := bC hb z6 zz
   replace zz := Nat.lt_of_lt_of_le zz hb.size
   replace r0 := bC hb r0 zr
   replace r1 := bC hb r1 zr
   replace r2 := bC hb r2 zr
   replace r3 := bC hb r3 zr
   replace r4 := bC hb r4 zr
   replace r5 := bC hb r5 zr
   replace r6 := bC hb r6 zr
   replace fr0 := bF hb fr0 zr
   replace fr1 := bF hb fr1 zr
   replace fr2 := bF hb fr2 zr
   replace fr3 := bF hb fr3 zr
   replace fr4 := bF hb fr4 zr
   replace fr5 := bF hb fr5 zr
   replace fr6 := bF hb fr6 zr
   replace zr := Nat.lt_of_lt_of_le zr hb.size
   replace HB := hide (HB.out.trans (hb.mono HB.out.size))
   clear hb
   clear hck
   have e0 : fl = -1 := by rw [HF0.out]; simp
   subst e0
   go_wp2
   refine bodyPost_ret (v := .tuple #[balv 0 (.slice none 0 0) 0 0 (.slice none 0 0) (.slice none 0 0) (.slice none 0 0), .int .i64 (-1)]) (by simp [results, Tryz.results13, go_sem, r0, r1, r2, r3, r4, r5, r6]) rfl ⟨_, rfl, ?_, setB_below HB.out (by omega) _ _ _ _ _ _ _⟩
   rw [HM.out, setB_size]
   exact bm0_ow _ _ _
  | true =>
   have HC2 := hide (HCR.out rfl)
   have hf9 := HCF.out rfl
   clear HCR HCF
   have e0 : fl = (en : Int) := by rw [HF0.out]; simp
   subst e0
   clear HF0
   go_enter Tryz.func13, Tryz.ntmps13
   go_wp2_with fail
   refine (HBO.out W0 HB.out).mono ?_
   rintro e v1 ⟨rfl, hb⟩
   have HS1 := hide hb.size
   replace z0 := bC hb z0 zz
   replace z1 := bC hb z1 zz
   replace z2 := bC hb z2 zz
   replace z3 := bC hb z3 zz
   replace z4 := bC hb z4 zz
   replace z5 := bC hb z5 zz
   replace z6 := bC hb z6 zz
   replace zz := Nat.lt_of_lt_of_le zz hb.size
   replace r0 := bC hb r0 zr
   replace r1 := bC hb r1 zr
   replace r2 := bC hb r2 zr
   replace r3 := bC hb r3 zr
   replace r4 := bC hb r4 zr
   replace r5 := bC hb r5 zr
   replace r6 := bC hb r6 zr
   replace fr0 := bF hb fr0 zr
   replace fr1 := bF hb fr1 zr
   replace fr2 := bF hb fr2 zr
   replace fr3 := bF hb fr3 zr
   replace fr4 := bF hb fr4 zr
   replace fr5 := bF hb fr5 zr
   replace fr6 := bF hb fr6 zr
   replace zr := Nat.lt_of_lt_of_le zr hb.size
   replace HB := hide (HB.out.trans (hb.mono HB.out.size))
   clear hb
   clear HBO
   have hck := HCB.out v1
   go_wp2_with fail
   refine (hck).mono ?_
   rintro e v2 ⟨rfl, hb⟩
   have HS2 := hide (Nat.le_trans HS1.out hb.size)
   replace z0 := bC hb z0 zz
   replace z1 := bC hb z1 zz
   replace z2 := bC hb z2 zz
   replace z3 := bC hb z3 zz
   replace z4 := bC hb z4 zz
   replace z5 := bC hb z5 zz
   replace z6 := bC hb z6 zz
   replace zz := Nat.lt_of_lt_of_le zz hb.size
   replace r0 := bC hb r0 zr
   replace r1 := bC hb r1 zr
   replace r2 := bC hb r2 zr
   replace r3 := bC hb r3 zr
   replace r4 := bC hb r4 zr
   replace r5 := bC hb r5 zr
   replace r6 := bC hb r6 zr
   replace fr0 := bF hb fr0 zr
   replace fr1 := bF hb fr1 zr
   replace fr2 := bF hb fr2 zr
   replace fr3 := bF hb fr3 zr
   replace fr4 := bF hb fr4 zr
   replace fr5 := bF hb fr5 zr
   replace fr6 := bF hb fr6 zr
   replace zr := Nat.lt_of_lt_of_le zr hb.size
   replace HB := hide (HB.out.trans (hb.mono HB.out.size))
   clear hb
   clear hck HCB
   go_wp2_with fail
   refine (HC2.out v2 HB.out).mono ?_
   rintro e v3 ⟨vc, rfl, inc, hb⟩
   have HIC := hide inc
   have HS3 := hide (Nat.le_trans HS2.out hb.size)
   clear inc
   replace z0 := bC hb z0 zz
   replace z1 := bC hb z1 zz
   replace z2 := bC hb z2 zz
   replace z3 := bC hb z3 zz
   replace z4 := bC hb z4 zz
   replace z5 := bC hb z5 zz
   replace z6 := bC hb z6 zz
   replace zz := Nat.lt_of_lt_of_le zz hb.size
   replace r0 := bC hb r0 zr
   replace r1 := bC hb r1 zr
   replace r2 := bC hb r2 zr
   replace r3 := bC hb r3 zr
   replace r4 := bC hb r4 zr
   replace r5 := bC hb r5 zr
   replace r6 := bC hb r6 zr
   replace fr0 := bF hb fr0 zr
   replace fr1 := bF hb fr1 zr
   replace fr2 := bF hb fr2 zr
   replace fr3 := bF hb fr3 zr
   replace fr4 := bF hb fr4 zr
   replace fr5 := bF hb fr5 zr
   replace fr6 := bF hb fr6 zr
   replace zr := Nat.lt_of_lt_of_le zr hb.size
   replace HB := hide (HB.out.trans (hb.mono HB.out.size))
   clear hb
   clear HC2
   obtain ⟨cm, hcm⟩ : ∃ x, tickBM ⟨⟨kj, lj, sj⟩, ⟨kp, lb, lr⟩, lt⟩ now = x := ⟨_, rfl⟩
   rw [hcm] at HIC hf9 HM
   clear hcm
   obtain ⟨kk, hkk⟩ : ∃ x, cm.j.key = x := ⟨_, rfl⟩
   obtain ⟨nn, hnn⟩ : ∃ x, cm.j.l.length = x := ⟨_, rfl⟩
   obtain ⟨ss, hss⟩ : ∃ x, cm.j.safe = x := ⟨_, rfl⟩
   obtain ⟨kk2, hkk2⟩ : ∃ x, cm.p.key = x := ⟨_, rfl⟩
   obtain ⟨nn2, hnn2⟩ : ∃ x, cm.p.l.length = x := ⟨_, rfl⟩
   obtain ⟨nn3, hnn3⟩ : ∃ x, cm.p.ring.length = x := ⟨_, rfl⟩
   obtain ⟨nn4, hnn4⟩ : ∃ x, cm.t.length = x := ⟨_, rfl⟩
   obtain ⟨o8, c8, ob8, cb8, oR8, cR8, g8, f8, ct8, e8, _⟩ := HIC.out
   rw [hkk, hnn, hss, hkk2, hnn2, hnn3, hnn4] at e8
   subst e8
   have HE7 := hide (And.intro hkk (And.intro hnn (And.intro hss (And.intro hkk2 (And.intro hnn2 (And.intro hnn3 hnn4))))))
   clear hkk hnn hss hkk2 hnn2 hnn3 hnn4
   obtain ⟨W5, hW5⟩ : ∃ W, (v3.alloc (.cells #[.int .i64 kk, .slice o8 nn c8, .int .i64 ss, .int .i64 kk2, .slice ob8 nn2 cb8, .slice oR8 nn3 cR8, .slice (some ⟨g8, f8, none⟩) nn4 ct8] 47)) = W := ⟨_, rfl⟩
   have hb_W5 : Below v3.heap.size v3 W5 := by rw [← hW5]; exact ((Below.refl _ _).alloc (Nat.le_refl _) _)
   replace z0 := bC hb_W5 z0 zz
   replace z1 := bC hb_W5 z1 zz
   replace z2 := bC hb_W5 z2 zz
   replace z3 := bC hb_W5 z3 zz
   replace z4 := bC hb_W5 z4 zz
   replace z5 := bC hb_W5 z5 zz
   replace z6 := bC hb_W5 z6 zz
   replace zz := Nat.lt_of_lt_of_le zz hb_W5.size
   replace r0 := bC hb_W5 r0 zr
   replace r1 := bC hb_W5 r1 zr
   replace r2 := bC hb_W5 r2 zr
   replace r3 := bC hb_W5 r3 zr
   replace r4 := bC hb_W5 r4 zr
   replace r5 := bC hb_W5 r5 zr
   replace r6 := bC hb_W5 r6 zr
   replace fr0 := bF hb_W5 fr0 zr
   replace fr1 := bF hb_W5 fr1 zr
   replace fr2 := bF hb_W5 fr2 zr
   replace fr3 := bF hb_W5 fr3 zr
   replace fr4 := bF hb_W5 fr4 zr
   replace fr5 := bF hb_W5 fr5 zr
   replace fr6 := bF hb_W5 fr6 zr
   replace zr := Nat.lt_of_lt_of_le zr hb_W5.size
   replace HB := hide (HB.out.trans (hb_W5.mono HB.out.size))
   clear hb_W5
   have zy : v3.heap.size < W5.heap.size := by rw [← hW5]; simp
   have y0 : W5.cell? ⟨v3.heap.size, 0, none⟩ = some (.int .i64 kk) := by rw [← hW5]; simp [go_sem]
   have y1 : W5.cell? ⟨v3.heap.size, 1, none⟩ = some (.slice o8 nn c8) := by rw [← hW5]; simp [go_sem]
   have y2 : W5.cell? ⟨v3.heap.size, 2, none⟩ = some (.int .i64 ss) := by rw [← hW5]; simp [go_sem]
   have y3 : W5.cell? ⟨v3.heap.size, 3, none⟩ = some (.int .i64 kk2) := by rw [← hW5]; simp [go_sem]
   have y4 : W5.cell? ⟨v3.heap.size, 4, none⟩ = some (.slice ob8 nn2 cb8) := by rw [← hW5]; simp [go_sem]
   have y5 : W5.cell? ⟨v3.heap.size, 5, none⟩ = some (.slice oR8 nn3 cR8) := by rw [← hW5]; simp [go_sem]
   have y6 : W5.cell? ⟨v3.heap.size, 6, none⟩ = some (.slice (some ⟨g8, f8, none⟩) nn4 ct8) := by rw [← hW5]; simp [go_sem]
   have HOW := hide (l7own_or (HIC.out.kept (show Below v3.heap.size v3 W5 by rw [← hW5]; exact (Below.refl _ _).alloc (Nat.le_refl _) _)) hf9)
   have HS5 := hide (show W0.heap.size ≤ W5.heap.size from Nat.le_trans HS3.out (Nat.le_of_lt zy))
   clear HIC hf9
   go_wp2_with fail
   refine (HOW.out).mono ?_
   rintro e v4 ⟨vo, rfl, ino, hb⟩
   have HIO := hide ino
   clear ino
   replace z0 := bC hb z0 zz
   replace z1 := bC hb z1 zz
   replace z2 := bC hb z2 zz
   replace z3 := bC hb z3 zz
   replace z4 := bC hb z4 zz
   replace z5 := bC hb z5 zz
   replace z6 := bC hb z6 zz
   replace zz := Nat.lt_of_lt_of_le zz hb.size
   replace r0 := bC hb r0 zr
   replace r1 := bC hb r1 zr
   replace r2 := bC hb r2 zr
   replace r3 := bC hb r3 zr
   replace r4 := bC hb r4 zr
   replace r5 := bC hb r5 zr
   replace r6 := bC hb r6 zr
   replace fr0 := bF hb fr0 zr
   replace fr1 := bF hb fr1 zr
   replace fr2 := bF hb fr2 zr
   replace fr3 := bF hb fr3 zr
   replace fr4 := bF hb fr4 zr
   replace fr5 := bF hb fr5 zr
   replace fr6 := bF hb fr6 zr
   replace zr := Nat.lt_of_lt_of_le zr hb.size
   replace y0 := bC hb y0 zy
   replace y1 := bC hb y1 zy
   replace y2 := bC hb y2 zy
   replace y3 := bC hb y3 zy
   replace y4 := bC hb y4 zy
   replace y5 := bC hb y5 zy
   replace y6 := bC hb y6 zy
   replace zy := Nat.lt_of_lt_of_le zy hb.size
   replace HB := hide (HB.out.trans (hb.mono HB.out.size))
   clear hb
   clear HOW
   obtain ⟨o9, c9, ob9, cb9, oR9, cR9, ot9, ct9, e9⟩ := HIO.out.rd.opn
   rw [HE7.out.1, HE7.out.2.1, HE7.out.2.2.1, HE7.out.2.2.2.1, HE7.out.2.2.2.2.1, HE7.out.2.2.2.2.2.1, HE7.out.2.2.2.2.2.2] at e9
   subst e9
   have hs9 := HS5.out
   go_wp2
   refine bodyPost_ret (v := .tuple #[balv kk (.slice o9 nn c9) ss kk2 (.slice ob9 nn2 cb9) (.slice oR9 nn3 cR9) (.slice ot9 nn4 ct9), .int .i64 (en : Int)]) (by simp [results, Tryz.results13, go_sem, r0, r1, r2, r3, r4, r5, r6]) rfl ⟨_, rfl, ?_, setB_below HB.out (by omega) _ _ _ _ _ _ _⟩
   rw [HM.out]
   exact (HIO.out.step (stp_setB _ _ _ _ _ _ _ _ _) (.inl (by omega))).mono (by omega) (by rw [setB_size]; exact Nat.le_refl _)

end Go.Proofs.YtpjkcgaohoinaaaGreat

