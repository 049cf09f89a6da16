/- Several texts in one: STickS, SLearnS, SLearnH. -/
import Derived.Test.YtpjkcgaohoinaaaGreatQLearn39
import Derived.Test.YtpjkcgaohoinaaaGreatQLearn36
import Derived.Test.YtpjkcgaohoinaaaGreatQLearn32
import Derived.Test.YtpjkcgaohoinaaaGreatQLearn35
namespace Go.Proofs.YtpjkcgaohoinaaaGreat
open Go.ChangeShapes Go.WideShapes Go.ChangeAt Go.RowKit Go.Joins
set_option linter.unusedVariables false
set_option linter.unusedSimpArgs false


def OrBm (w : World) (v : Value) (m : Bm) : Prop := ∃ o c ob cb oR cR bt ft ct, v = balv m.j.key (.slice o m.j.l.length c) m.j.safe m.p.key (.slice ob m.p.l.length cb) (.slice oR m.p.ring.length cR) (.slice (some ⟨bt, ft, none⟩) m.t.length ct) ∧ RdC w.heap.size w o m.j.l ∧ (o = none → c = 0) ∧ RdK w.heap.size w ob m.p.l ∧ (ob = none → cb = 0) ∧ RcR 0 w.heap.size w (.slice oR m.p.ring.length cR) m.p.ring ∧ bt < w.heap.size ∧ (∀ i, i < m.t.length → ∀ j, j < layS.k → w.cell? ⟨bt, ft + i * layS.k + j, none⟩ = (layS.cs (m.t.getD i layS.d))[j]?)
theorem stp_sameT {lo hi b j : Nat} {w w' : World} (s : Stp lo hi w w') (hb : b < w.heap.size) (hd : b < lo ∨ hi ≤ b) : w'.cell? ⟨b, j, none⟩ = w.cell? ⟨b, j, none⟩ := by
 simp only [World.cell?, s.block b hb hd]
theorem OrBm.kept {w w' : World} {v : Value} {m : Bm} (h : OrBm w v m) (hb : Below w.heap.size w w') : OrBm w' v m := by
 obtain ⟨o, c, ob, cb, oR, cR, bt, ft, ct, e, h1, h2, h3, h4, h5, h6, h7⟩ := h
 exact ⟨o, c, ob, cb, oR, cR, bt, ft, ct, e, (h1.kept hb (Nat.le_refl _)).le hb.size, h2, (h3.kept hb (Nat.le_refl _)).le hb.size, h4, RcR.mon.go (RcR.stp.go h5 (Stp.of (lo := 0) (hi := 0) hb) (.inl (Nat.zero_le _))) (Nat.le_refl _) hb.size, Nat.lt_of_lt_of_le h6 hb.size, fun i hi j hj => (hb.cell (p := ⟨bt, ft + i * layS.k + j, none⟩) h6).trans (h7 i hi j hj)⟩
theorem l7own_or {v : Value} {m : Bm} {w : World} (h : OrBm w v m) (hf : fitBm m) :
  Calls Tryz.prog 21 #[v] w fun e w' => ∃ v', e = .returned v' ∧ OwBm w.heap.size w'.heap.size w' v' m ∧ Below w.heap.size w w' := by
 obtain ⟨o, c, ob, cb, oR, cR, bt, ft, ct, e, h1, h2, h3, h4, h5, h6, h7⟩ := h
 subst e
 exact l7own_go m.j.key o _ c m.j.safe m.p.key ob _ cb oR _ cR bt ft _ ct m.j.l m.p.l m.p.ring m.t w rfl rfl rfl rfl h1 h2 h3 h4 h5 h6 h7 hf
theorem l6nowB_any (n : Int) (w : World) : Calls Tryz.prog 19 #[.int .i64 n] w fun e w' => e = .returned (.bool (decide (0 ≤ n) && decide (n ≤ 100000))) ∧ Below w.heap.size w w' := by
 go_enter Tryz.func19, Tryz.ntmps19
 go_wp2
 all_goals go_ret
 all_goals refine ⟨ret_bool ?_, Below.refl _ _⟩
 all_goals first | (simp [*]; done) | (simp; omega)

end Go.Proofs.YtpjkcgaohoinaaaGreat

namespace Go.Proofs.YtpjkcgaohoinaaaGreat
open Go.ChangeShapes Go.WideShapes Go.ChangeAt Go.RowKit Go.Joins
set_option linter.unusedVariables false
set_option linter.unusedSimpArgs false


def learnL (l : List Sl) (now a p v : Int) : List Sl := if 0 ≤ (endL l a p).1 then putL l a p v (now + 50) else putL (dropL l (soonL l).a (soonL l).p) a p v (now + 50)
def learnM (m : Bm) (now a p v : Int) : Bm := ⟨m.j, m.p, learnL m.t now a p v⟩
theorem putL_len (l : List Sl) (a p v t : Int) : (putL l a p v t).length = l.length := by unfold putL; split <;> simp
theorem dropL_len (l : List Sl) (a p : Int) : (dropL l a p).length = l.length := by unfold dropL; split <;> simp [dropAtL_length]

set_option maxRecDepth 100000 in
set_option maxHeartbeats 8000000 in
theorem l7learn_any (kj : Int) (o : Option Addr) (nj c : Nat) (sj kp : Int) (ob : Option Addr) (np cb : Nat) (oR : Option Addr) (nr cR : Nat) (ot : Option Addr) (nt ct : Nat) (lj : List Cd) (lb : List Bk) (lr : List (List (List Int))) (lt : List Sl) (now a p v : Int) (w : World)
  (hO : OwBm 0 w.heap.size w (balv kj (.slice o nj c) sj kp (.slice ob np cb) (.slice oR nr cR) (.slice ot nt ct)) ⟨⟨kj, lj, sj⟩, ⟨kp, lb, lr⟩, lt⟩) (hb : balB ⟨⟨kj, lj, sj⟩, ⟨kp, lb, lr⟩, lt⟩ = true) (hf : fitBm ⟨⟨kj, lj, sj⟩, ⟨kp, lb, lr⟩, lt⟩) (hn0 : 0 ≤ now) (hn1 : now ≤ 100000) (hfl : flowOkB a p = true) (hsf : (endL lt a p).1 < 0 → flowOkB (soonL lt).a (soonL lt).p = true) (hfo : flowsOk lt) :
  Calls Tryz.prog 22 #[balv kj (.slice o nj c) sj kp (.slice ob np cb) (.slice oR nr cR) (.slice ot nt ct), .int .i64 now, flow a p, .int .i64 v] w fun e w' => ∃ v', e = .returned v' ∧ OrBm w' v' (learnM ⟨⟨kj, lj, sj⟩, ⟨kp, lb, lr⟩, lt⟩ now a p v) ∧ Below w.heap.size w w' := by
 have hw50 : IntKind.i64.wrap (now + 50) = now + 50 := by rw [IntKind.wrap_i64]; omega
 have HOW := hide (fun W (hb9 : Below w.heap.size w W) => l7own_ow ((hO.step (Stp.of (lo := 0) (hi := 0) hb9) (.inl (Nat.zero_le _))).mono (Nat.le_refl _) hb9.size) (Nat.le_refl _) (balB_pos hb) hf)
 have h16 := (tableOkB_iff.1 (show tableOkB lt = true from balB_tab hb)).2.1
 have HPO := hide (show 0 < lt.length from balB_pos hb)
 have HSF := hide hsf
 have HFO := hide hfo
 have H16 := hide h16
 clear hO hb hf hsf hfo h16
 obtain ⟨W0, hW0⟩ : ∃ W, (((w.alloc (.cells #[.int .i64 kj, .slice o nj c, .int .i64 sj, .int .i64 kp, .slice ob np cb, .slice oR nr cR, .slice ot nt ct] 47)).alloc (.cells #[.int .i64 a, .int .i64 p] 51)).alloc (.cells #[.int .i64 0, .slice none 0 0, .int .i64 0, .int .i64 0, .slice none 0 0, .slice none 0 0, .slice none 0 0] 47)) = W := ⟨_, rfl⟩
 have hb_W0 : Below w.heap.size w W0 := by rw [← hW0]; exact ((((Below.refl _ _).alloc (Nat.le_refl _) _).alloc (by simp <;> omega) _).alloc (by simp <;> omega) _)
 have HB := hide hb_W0
 clear hb_W0
 have zz : w.heap.size < W0.heap.size := by rw [← hW0]; simp <;> omega
 have z0 : W0.cell? ⟨w.heap.size, 0, none⟩ = some (.int .i64 kj) := by rw [← hW0]; simp [go_sem]
 have z1 : W0.cell? ⟨w.heap.size, 1, none⟩ = some (.slice o nj c) := by rw [← hW0]; simp [go_sem]
 have z2 : W0.cell? ⟨w.heap.size, 2, none⟩ = some (.int .i64 sj) := by rw [← hW0]; simp [go_sem]
 have z3 : W0.cell? ⟨w.heap.size, 3, none⟩ = some (.int .i64 kp) := by rw [← hW0]; simp [go_sem]
 have z4 : W0.cell? ⟨w.heap.size, 4, none⟩ = some (.slice ob np cb) := by rw [← hW0]; simp [go_sem]
 have z5 : W0.cell? ⟨w.heap.size, 5, none⟩ = some (.slice oR nr cR) := by rw [← hW0]; simp [go_sem]
 have z6 : W0.cell? ⟨w.heap.size, 6, none⟩ = some (.slice ot nt ct) := by rw [← hW0]; simp [go_sem]
 have zx : w.heap.size + 1 < W0.heap.size := by rw [← hW0]; simp <;> omega
 have x0 : W0.cell? ⟨w.heap.size + 1, 0, none⟩ = some (.int .i64 a) := by rw [← hW0]; simp [go_sem]
 have x1 : W0.cell? ⟨w.heap.size + 1, 1, none⟩ = some (.int .i64 p) := by rw [← hW0]; simp [go_sem]
 have zr : w.heap.size + 1 + 1 < W0.heap.size := by rw [← hW0]; simp
 have r0 : W0.cell? ⟨w.heap.size + 1 + 1, 0, none⟩ = some (.int .i64 0) := by rw [← hW0]; simp [go_sem]
 have r1 : W0.cell? ⟨w.heap.size + 1 + 1, 1, none⟩ = some (.slice none 0 0) := by rw [← hW0]; simp [go_sem]
 have r2 : W0.cell? ⟨w.heap.size + 1 + 1, 2, none⟩ = some (.int .i64 0) := by rw [← hW0]; simp [go_sem]
 have r3 : W0.cell? ⟨w.heap.size + 1 + 1, 3, none⟩ = some (.int .i64 0) := by rw [← hW0]; simp [go_sem]
 have r4 : W0.cell? ⟨w.heap.size + 1 + 1, 4, none⟩ = some (.slice none 0 0) := by rw [← hW0]; simp [go_sem]
 have r5 : W0.cell? ⟨w.heap.size + 1 + 1, 5, none⟩ = some (.slice none 0 0) := by rw [← hW0]; simp [go_sem]
 have r6 : W0.cell? ⟨w.heap.size + 1 + 1, 6, none⟩ = some (.slice none 0 0) := by rw [← hW0]; simp [go_sem]
 have fr0 : W0.frozen? ⟨w.heap.size + 1 + 1, 0, none⟩ = false := by rw [← hW0]; simp [go_sem]
 have fr1 : W0.frozen? ⟨w.heap.size + 1 + 1, 1, none⟩ = false := by rw [← hW0]; simp [go_sem]
 have fr2 : W0.frozen? ⟨w.heap.size + 1 + 1, 2, none⟩ = false := by rw [← hW0]; simp [go_sem]
 have fr3 : W0.frozen? ⟨w.heap.size + 1 + 1, 3, none⟩ = false := by rw [← hW0]; simp [go_sem]
 have fr4 : W0.frozen? ⟨w.heap.size + 1 + 1, 4, none⟩ = false := by rw [← hW0]; simp [go_sem]
 have fr5 : W0.frozen? ⟨w.heap.size + 1 + 1, 5, none⟩ = false := by rw [← hW0]; simp [go_sem]
 have fr6 : W0.frozen? ⟨w.heap.size + 1 + 1, 6, none⟩ = false := by rw [← hW0]; simp [go_sem]
 have hzr : w.heap.size + 1 + 1 < W0.heap.size := zr
 go_enter Tryz.func22, Tryz.ntmps22
 go_wp2_with fail
 refine (HOW.out W0 HB.out).mono ?_
 rintro e v1 ⟨vo9, rfl, ino, hb⟩
 have HIO := hide ino
 have hs1 := hb.size
 clear ino HOW
 replace z0 := bC hb z0 zz
 replace z1 := bC hb z1 zz
 replace z2 := bC hb z2 zz
 replace z3 := bC hb z3 zz
 replace z4 := bC hb z4 zz
 replace z5 := bC hb z5 zz
 replace z6 := bC hb z6 zz
 replace zz := Nat.lt_of_lt_of_le zz hb.size
 replace x0 := bC hb x0 zx
 replace x1 := bC hb x1 zx
 replace zx := Nat.lt_of_lt_of_le zx hb.size
 replace r0 := bC hb r0 zr
 replace r1 := bC hb r1 zr
 replace r2 := bC hb r2 zr
 replace r3 := bC hb r3 zr
 replace r4 := bC hb r4 zr
 replace r5 := bC hb r5 zr
 replace r6 := bC hb r6 zr
 replace fr0 := bF hb fr0 zr
 replace fr1 := bF hb fr1 zr
 replace fr2 := bF hb fr2 zr
 replace fr3 := bF hb fr3 zr
 replace fr4 := bF hb fr4 zr
 replace fr5 := bF hb fr5 zr
 replace fr6 := bF hb fr6 zr
 replace zr := Nat.lt_of_lt_of_le zr hb.size
 replace HB := hide (HB.out.trans (hb.mono HB.out.size))
 clear hb
 obtain ⟨o9, c9, ob9, cb9, oR9, cR9, ot9, ct9, e9⟩ := HIO.out.rd.opn
 dsimp only at e9
 obtain ⟨nj9, hnj9⟩ : ∃ x, lj.length = x := ⟨_, rfl⟩
 obtain ⟨np9, hnp9⟩ : ∃ x, lb.length = x := ⟨_, rfl⟩
 obtain ⟨nr9, hnr9⟩ : ∃ x, lr.length = x := ⟨_, rfl⟩
 obtain ⟨nt9, hnt9⟩ : ∃ x, lt.length = x := ⟨_, rfl⟩
 rw [hnj9, hnp9, hnr9, hnt9] at e9
 subst e9
 obtain ⟨hnj8, hj8, hp8, ht8⟩ := ow_parts HIO.out
 clear hnj8
 have rt8 := ht8.row
 have rt7 := ht8.rd
 obtain ⟨vt7, et7, ot7, ct7, et8, rs7⟩ := rt7
 simp only [Value.agg.injEq, Array.mk.injEq, List.cons.injEq, and_true] at et7
 subst et7
 injection et8 with et81 et82 et83
 subst et81 et83
 obtain ⟨g9, f9, eg9, hg9, hcell9⟩ := rdS_some rs7 HPO.out
 subst eg9
 have hgl : W0.heap.size ≤ g9 := (rt8.1.lt g9 rfl).1
 have HC9 := hide hcell9
 clear rt8 rs7 hcell9 ht8 hj8 hp8 et82
 have HNN := hide (And.intro hnj9 (And.intro hnp9 (And.intro hnr9 hnt9)))
 clear hnj9 hnp9 hnr9 hnt9
 obtain ⟨W2, hW2⟩ : ∃ W, (v1.alloc (.cells #[.int .i64 kj, .slice o9 nj9 c9, .int .i64 sj, .int .i64 kp, .slice ob9 np9 cb9, .slice oR9 nr9 cR9, .slice (some ⟨g9, f9, none⟩) nt9 ct9] 47)) = W := ⟨_, rfl⟩
 have hb_W2 : Below v1.heap.size v1 W2 := by rw [← hW2]; exact ((Below.refl _ _).alloc (Nat.le_refl _) _)
 replace z0 := bC hb_W2 z0 zz
 replace z1 := bC hb_W2 z1 zz
 replace z2 := bC hb_W2 z2 zz
 replace z3 := bC hb_W2 z3 zz
 replace z4 := bC hb_W2 z4 zz
 replace z5 := bC hb_W2 z5 zz
 replace z6 := bC hb_W2 z6 zz
 replace zz := Nat.lt_of_lt_of_le zz hb_W2.size
 replace x0 := bC hb_W2 x0 zx
 replace x1 := bC hb_W2 x1 zx
 replace zx := Nat.lt_of_lt_of_le zx hb_W2.size
 replace r0 := bC hb_W2 r0 zr
 replace r1 := bC hb_W2 r1 zr
 replace r2 := bC hb_W2 r2 zr
 replace r3 := bC hb_W2 r3 zr
 replace r4 := bC hb_W2 r4 zr
 replace r5 := bC hb_W2 r5 zr
 replace r6 := bC hb_W2 r6 zr
 replace fr0 := bF hb_W2 fr0 zr
 replace fr1 := bF hb_W2 fr1 zr
 replace fr2 := bF hb_W2 fr2 zr
 replace fr3 := bF hb_W2 fr3 zr
 replace fr4 := bF hb_W2 fr4 zr
 replace fr5 := bF hb_W2 fr5 zr
 replace fr6 := bF hb_W2 fr6 zr
 replace zr := Nat.lt_of_lt_of_le zr hb_W2.size
 replace HB := hide (HB.out.trans (hb_W2.mono HB.out.size))
 clear hb_W2
 have zu : v1.heap.size < W2.heap.size := by rw [← hW2]; simp
 have u0 : W2.cell? ⟨v1.heap.size, 0, none⟩ = some (.int .i64 kj) := by rw [← hW2]; simp [go_sem]
 have u1 : W2.cell? ⟨v1.heap.size, 1, none⟩ = some (.slice o9 nj9 c9) := by rw [← hW2]; simp [go_sem]
 have u2 : W2.cell? ⟨v1.heap.size, 2, none⟩ = some (.int .i64 sj) := by rw [← hW2]; simp [go_sem]
 have u3 : W2.cell? ⟨v1.heap.size, 3, none⟩ = some (.int .i64 kp) := by rw [← hW2]; simp [go_sem]
 have u4 : W2.cell? ⟨v1.heap.size, 4, none⟩ = some (.slice ob9 np9 cb9) := by rw [← hW2]; simp [go_sem]
 have u5 : W2.cell? ⟨v1.heap.size, 5, none⟩ = some (.slice oR9 nr9 cR9) := by rw [← hW2]; simp [go_sem]
 have u6 : W2.cell? ⟨v1.heap.size, 6, none⟩ = some (.slice (some ⟨g9, f9, none⟩) nt9 ct9) := by rw [← hW2]; simp [go_sem]
 have fu0 : W2.frozen? ⟨v1.heap.size, 0, none⟩ = false := by rw [← hW2]; simp [go_sem]
 have fu1 : W2.frozen? ⟨v1.heap.size, 1, none⟩ = false := by rw [← hW2]; simp [go_sem]
 have fu2 : W2.frozen? ⟨v1.heap.size, 2, none⟩ = false := by rw [← hW2]; simp [go_sem]
 have fu3 : W2.frozen? ⟨v1.heap.size, 3, none⟩ = false := by rw [← hW2]; simp [go_sem]
 have fu4 : W2.frozen? ⟨v1.heap.size, 4, none⟩ = false := by rw [← hW2]; simp [go_sem]
 have fu5 : W2.frozen? ⟨v1.heap.size, 5, none⟩ = false := by rw [← hW2]; simp [go_sem]
 have fu6 : W2.frozen? ⟨v1.heap.size, 6, none⟩ = false := by rw [← hW2]; simp [go_sem]
 have hu : v1.heap.size < W2.heap.size := zu
 have hbW2 : Below v1.heap.size v1 W2 := by rw [← hW2]; exact (Below.refl _ _).alloc (Nat.le_refl _) _
 replace HC9 : Hid (∀ i, i < lt.length → ∀ j, j < layS.k → W2.cell? ⟨g9, f9 + i * layS.k + j, none⟩ = (layS.cs (lt.getD i layS.d))[j]?) := hide (fun i hi j hj => (hbW2.cell (p := ⟨g9, f9 + i * layS.k + j, none⟩) hg9).trans (HC9.out i hi j hj))
 have HEX := hide (l5putW_any g9 f9 ct9 lt a p v (now + 50) W2 HPO.out (by have := H16.out; omega) hfl (by omega) HC9.out)
 have HXU : Hid (W2.heap[v1.heap.size]? = some (.cells #[.int .i64 kj, .slice o9 nj9 c9, .int .i64 sj, .int .i64 kp, .slice ob9 np9 cb9, .slice oR9 nr9 cR9, .slice (some ⟨g9, f9, none⟩) nt9 ct9] 47 (0, 0))) := by rw [← hW2]; exact World.alloc_heap_new v1 _
 rw [HNN.out.2.2.2] at HEX
 have hBI := hide hbW2
 clear hbW2
 replace HIO := hide (HIO.out.step (Stp.of (lo := 0) (hi := 0) hBI.out) (.inl (Nat.zero_le _)))
 obtain ⟨el, hel⟩ : ∃ x, putL lt a p v (now + 50) = x := ⟨_, rfl⟩
 have HLL := hide (show el.length = lt.length by rw [← hel]; exact putL_len _ _ _ _ _)
 have HLY := hide (show 0 ≤ (endL lt a p).1 → learnL lt now a p v = el from fun h => by unfold learnL; rw [if_pos h, hel])
 rw [hel] at HEX
 clear hel
 have HLN := hide (show ¬ 0 ≤ (endL lt a p).1 → learnL lt now a p v = putL (dropL lt (soonL lt).a (soonL lt).p) a p v (now + 50) from fun h => by unfold learnL; rw [if_neg h])
 go_wp2_with fail
 refine (HEX.out).mono ?_
 rintro e v2 ⟨g8, f8, ct8, rfl, hg8, hcell8, hb, hor⟩
 have HC8 := hide hcell8
 have hs3 := hb.size
 replace HXU := hide ((hb.block _ hu).trans HXU.out)
 replace HIO := hide (HIO.out.step (Stp.of (lo := 0) (hi := 0) hb) (.inl (Nat.zero_le _)))
 replace HC9 : Hid (∀ i, i < lt.length → ∀ j, j < layS.k → v2.cell? ⟨g9, f9 + i * layS.k + j, none⟩ = (layS.cs (lt.getD i layS.d))[j]?) := hide (fun i hi j hj => (hb.cell (p := ⟨g9, f9 + i * layS.k + j, none⟩) (show g9 < W2.heap.size by omega)).trans (HC9.out i hi j hj))
 clear hcell8 HEX
 replace z0 := bC hb z0 zz
 replace z1 := bC hb z1 zz
 replace z2 := bC hb z2 zz
 replace z3 := bC hb z3 zz
 replace z4 := bC hb z4 zz
 replace z5 := bC hb z5 zz
 replace z6 := bC hb z6 zz
 replace zz := Nat.lt_of_lt_of_le zz hb.size
 replace x0 := bC hb x0 zx
 replace x1 := bC hb x1 zx
 replace zx := Nat.lt_of_lt_of_le zx hb.size
 replace r0 := bC hb r0 zr
 replace r1 := bC hb r1 zr
 replace r2 := bC hb r2 zr
 replace r3 := bC hb r3 zr
 replace r4 := bC hb r4 zr
 replace r5 := bC hb r5 zr
 replace r6 := bC hb r6 zr
 replace fr0 := bF hb fr0 zr
 replace fr1 := bF hb fr1 zr
 replace fr2 := bF hb fr2 zr
 replace fr3 := bF hb fr3 zr
 replace fr4 := bF hb fr4 zr
 replace fr5 := bF hb fr5 zr
 replace fr6 := bF hb fr6 zr
 replace zr := Nat.lt_of_lt_of_le zr hb.size
 replace u0 := bC hb u0 zu
 replace u1 := bC hb u1 zu
 replace u2 := bC hb u2 zu
 replace u3 := bC hb u3 zu
 replace u4 := bC hb u4 zu
 replace u5 := bC hb u5 zu
 replace u6 := bC hb u6 zu
 replace fu0 := bF hb fu0 zu
 replace fu1 := bF hb fu1 zu
 replace fu2 := bF hb fu2 zu
 replace fu3 := bF hb fu3 zu
 replace fu4 := bF hb fu4 zu
 replace fu5 := bF hb fu5 zu
 replace fu6 := bF hb fu6 zu
 replace zu := Nat.lt_of_lt_of_le zu hb.size
 replace HB := hide (HB.out.trans (hb.mono HB.out.size))
 clear hb
 obtain ⟨W4, hW4⟩ : ∃ W, (v2.alloc (.cells #[.slice (some ⟨g8, f8, none⟩) nt9 ct8] 45)) = W := ⟨_, rfl⟩
 have hb_W4 : Below v2.heap.size v2 W4 := by rw [← hW4]; exact ((Below.refl _ _).alloc (Nat.le_refl _) _)
 replace z0 := bC hb_W4 z0 zz
 replace z1 := bC hb_W4 z1 zz
 replace z2 := bC hb_W4 z2 zz
 replace z3 := bC hb_W4 z3 zz
 replace z4 := bC hb_W4 z4 zz
 replace z5 := bC hb_W4 z5 zz
 replace z6 := bC hb_W4 z6 zz
 replace zz := Nat.lt_of_lt_of_le zz hb_W4.size
 replace x0 := bC hb_W4 x0 zx
 replace x1 := bC hb_W4 x1 zx
 replace zx := Nat.lt_of_lt_of_le zx hb_W4.size
 replace r0 := bC hb_W4 r0 zr
 replace r1 := bC hb_W4 r1 zr
 replace r2 := bC hb_W4 r2 zr
 replace r3 := bC hb_W4 r3 zr
 replace r4 := bC hb_W4 r4 zr
 replace r5 := bC hb_W4 r5 zr
 replace r6 := bC hb_W4 r6 zr
 replace fr0 := bF hb_W4 fr0 zr
 replace fr1 := bF hb_W4 fr1 zr
 replace fr2 := bF hb_W4 fr2 zr
 replace fr3 := bF hb_W4 fr3 zr
 replace fr4 := bF hb_W4 fr4 zr
 replace fr5 := bF hb_W4 fr5 zr
 replace fr6 := bF hb_W4 fr6 zr
 replace zr := Nat.lt_of_lt_of_le zr hb_W4.size
 replace u0 := bC hb_W4 u0 zu
 replace u1 := bC hb_W4 u1 zu
 replace u2 := bC hb_W4 u2 zu
 replace u3 := bC hb_W4 u3 zu
 replace u4 := bC hb_W4 u4 zu
 replace u5 := bC hb_W4 u5 zu
 replace u6 := bC hb_W4 u6 zu
 replace fu0 := bF hb_W4 fu0 zu
 replace fu1 := bF hb_W4 fu1 zu
 replace fu2 := bF hb_W4 fu2 zu
 replace fu3 := bF hb_W4 fu3 zu
 replace fu4 := bF hb_W4 fu4 zu
 replace fu5 := bF hb_W4 fu5 zu
 replace fu6 := bF hb_W4 fu6 zu
 replace zu := Nat.lt_of_lt_of_le zu hb_W4.size
 replace HB := hide (HB.out.trans (hb_W4.mono HB.out.size))
 clear hb_W4
 have zt : v2.heap.size < W4.heap.size := by rw [← hW4]; simp
 have t0 : W4.cell? ⟨v2.heap.size, 0, none⟩ = some (.slice (some ⟨g8, f8, none⟩) nt9 ct8) := by rw [← hW4]; simp [go_sem]
 have ft0 : W4.frozen? ⟨v2.heap.size, 0, none⟩ = false := by rw [← hW4]; simp [go_sem]
 have hs4 : v2.heap.size < W4.heap.size := zt
 have hlr : w.heap.size + 1 + 1 < v1.heap.size := by omega
 have hb4 : Below v2.heap.size v2 W4 := by rw [← hW4]; exact (Below.refl _ _).alloc (Nat.le_refl _) _
 replace HXU := hide ((hb4.block _ (by omega)).trans HXU.out)
 replace HIO := hide (HIO.out.step (Stp.of (lo := 0) (hi := 0) hb4) (.inl (Nat.zero_le _)))
 replace HC9 : Hid (∀ i, i < lt.length → ∀ j, j < layS.k → W4.cell? ⟨g9, f9 + i * layS.k + j, none⟩ = (layS.cs (lt.getD i layS.d))[j]?) := hide (fun i hi j hj => (hb4.cell (p := ⟨g9, f9 + i * layS.k + j, none⟩) (show g9 < v2.heap.size by omega)).trans (HC9.out i hi j hj))
 replace HC8 : Hid (∀ i, i < el.length → ∀ j, j < layS.k → W4.cell? ⟨g8, f8 + i * layS.k + j, none⟩ = (layS.cs (el.getD i layS.d))[j]?) := hide (fun i hi j hj => (hb4.cell (p := ⟨g8, f8 + i * layS.k + j, none⟩) hg8).trans (HC8.out i hi j hj))
 clear hb4
 have HFN : Hid (∀ (SX : World) (g8 f8 ct8 : Nat) (el : List Sl), el.length = lt.length → learnL lt now a p v = el → OwBm W0.heap.size v1.heap.size SX (balv kj (.slice o9 nj9 c9) sj kp (.slice ob9 np9 cb9) (.slice oR9 nr9 cR9) (.slice (some ⟨g9, f9, none⟩) nt9 ct9)) ⟨⟨kj, lj, sj⟩, ⟨kp, lb, lr⟩, lt⟩ → (∀ i, i < el.length → ∀ j, j < layS.k → SX.cell? ⟨g8, f8 + i * layS.k + j, none⟩ = (layS.cs (el.getD i layS.d))[j]?) → v1.heap.size ≤ SX.heap.size → g8 < SX.heap.size → OrBm SX (balv kj (.slice o9 nj9 c9) sj kp (.slice ob9 np9 cb9) (.slice oR9 nr9 cR9) (.slice (some ⟨g8, f8, none⟩) nt9 ct8)) (learnM ⟨⟨kj, lj, sj⟩, ⟨kp, lb, lr⟩, lt⟩ now a p v)) := by
  refine hide ?_
  intro SX g8 f8 ct8 el hell hlx hO9 hcl hup hgx
  obtain ⟨e1, e2, e3, e4⟩ := HNN.out
  rw [show learnM ⟨⟨kj, lj, sj⟩, ⟨kp, lb, lr⟩, lt⟩ now a p v = ⟨⟨kj, lj, sj⟩, ⟨kp, lb, lr⟩, el⟩ by rw [← hlx]; rfl]
  have e5 : nt9 = el.length := by rw [hell, e4]
  obtain ⟨hnj8, hj8, hp8, _⟩ := ow_parts hO9
  have cj8 := hj8.cap
  obtain ⟨vl8, el8, oj8, cc8, el9, rj8⟩ := hj8.rd
  simp only [Value.agg.injEq, Array.mk.injEq, List.cons.injEq, and_true, true_and] at el8
  subst el8
  injection el9 with el91 el92 el93
  subst el91 el93
  obtain ⟨vb8, vr8, e8, kb1, kb2, kb3, kb4⟩ := hp8
  simp only [Value.agg.injEq, Array.mk.injEq, List.cons.injEq, and_true, true_and] at e8
  obtain ⟨e81, e82⟩ := e8
  subst e81 e82
  obtain ⟨u9, uc9, e83, rk9⟩ := RiV.open kb1
  injection e83 with e831 e832 e833
  subst e831 e833
  rw [← e1, ← e2, ← e3, e5]
  rw [← e3] at kb3 kb4
  exact ⟨o9, c9, ob9, cb9, oR9, cR9, g8, f8, ct8, rfl, rj8.le hup, capJm.one cj8, rk9.le hup, (fun h => kb2 _ _ (by rw [h])), RcR.mon.go kb3 (Nat.zero_le _) hup, hgx, hcl⟩
 obtain ⟨ee, hee⟩ : ∃ x, (endL lt a p).1 = x := ⟨_, rfl⟩
 rw [hee] at HSF HLY HLN
 simp only [hee]
 clear hee
 by_cases hy : 0 ≤ ee
 ·have hyd : decide (0 ≤ ee) = true := by simp [hy]
  have hll := HLY.out hy
  have HLLL := hide hll
  clear hll HLY HLN
  have hgn : g8 < v1.heap.size ∨ v1.heap.size + 1 ≤ g8 := by omega
  have hgr : g8 < w.heap.size + 1 + 1 ∨ w.heap.size + 1 + 1 + 1 ≤ g8 := by omega
  have X5 : (W4.setCell ⟨v1.heap.size, 6, none⟩ (.slice (some ⟨g8, f8, none⟩) nt9 ct8)).heap[v1.heap.size]? = some (.cells #[.int .i64 kj, .slice o9 nj9 c9, .int .i64 sj, .int .i64 kp, .slice ob9 np9 cb9, .slice oR9 nr9 cR9, .slice (some ⟨g8, f8, none⟩) nt9 ct8] 47 (0, 0)) := box_put HXU.out 6 _
  have s5 : Stp v1.heap.size (v1.heap.size + 1) W4 (W4.setCell ⟨v1.heap.size, 6, none⟩ (.slice (some ⟨g8, f8, none⟩) nt9 ct8)) := stp_set W4 v1.heap.size 6 _
  have y0 : (W4.setCell ⟨v1.heap.size, 6, none⟩ (.slice (some ⟨g8, f8, none⟩) nt9 ct8)).cell? ⟨v1.heap.size, 0, none⟩ = some (.int .i64 kj) := bx_cell X5 0 _ rfl
  have y1 : (W4.setCell ⟨v1.heap.size, 6, none⟩ (.slice (some ⟨g8, f8, none⟩) nt9 ct8)).cell? ⟨v1.heap.size, 1, none⟩ = some (.slice o9 nj9 c9) := bx_cell X5 1 _ rfl
  have y2 : (W4.setCell ⟨v1.heap.size, 6, none⟩ (.slice (some ⟨g8, f8, none⟩) nt9 ct8)).cell? ⟨v1.heap.size, 2, none⟩ = some (.int .i64 sj) := bx_cell X5 2 _ rfl
  have y3 : (W4.setCell ⟨v1.heap.size, 6, none⟩ (.slice (some ⟨g8, f8, none⟩) nt9 ct8)).cell? ⟨v1.heap.size, 3, none⟩ = some (.int .i64 kp) := bx_cell X5 3 _ rfl
  have y4 : (W4.setCell ⟨v1.heap.size, 6, none⟩ (.slice (some ⟨g8, f8, none⟩) nt9 ct8)).cell? ⟨v1.heap.size, 4, none⟩ = some (.slice ob9 np9 cb9) := bx_cell X5 4 _ rfl
  have y5 : (W4.setCell ⟨v1.heap.size, 6, none⟩ (.slice (some ⟨g8, f8, none⟩) nt9 ct8)).cell? ⟨v1.heap.size, 5, none⟩ = some (.slice oR9 nr9 cR9) := bx_cell X5 5 _ rfl
  have y6 : (W4.setCell ⟨v1.heap.size, 6, none⟩ (.slice (some ⟨g8, f8, none⟩) nt9 ct8)).cell? ⟨v1.heap.size, 6, none⟩ = some (.slice (some ⟨g8, f8, none⟩) nt9 ct8) := bx_cell X5 6 _ rfl
  have r5_0 := s5.cellP r0 (.inl hlr)
  have r5_1 := s5.cellP r1 (.inl hlr)
  have r5_2 := s5.cellP r2 (.inl hlr)
  have r5_3 := s5.cellP r3 (.inl hlr)
  have r5_4 := s5.cellP r4 (.inl hlr)
  have r5_5 := s5.cellP r5 (.inl hlr)
  have r5_6 := s5.cellP r6 (.inl hlr)
  have fr5_0 := Stp.frozen s5 fr0 (by omega) (.inl hlr)
  have fr5_1 := Stp.frozen s5 fr1 (by omega) (.inl hlr)
  have fr5_2 := Stp.frozen s5 fr2 (by omega) (.inl hlr)
  have fr5_3 := Stp.frozen s5 fr3 (by omega) (.inl hlr)
  have fr5_4 := Stp.frozen s5 fr4 (by omega) (.inl hlr)
  have fr5_5 := Stp.frozen s5 fr5 (by omega) (.inl hlr)
  have fr5_6 := Stp.frozen s5 fr6 (by omega) (.inl hlr)
  have HFI : Hid (OrBm (setB (W4.setCell ⟨v1.heap.size, 6, none⟩ (.slice (some ⟨g8, f8, none⟩) nt9 ct8)) (w.heap.size + 1 + 1) (.int .i64 kj) (.slice o9 nj9 c9) (.int .i64 sj) (.int .i64 kp) (.slice ob9 np9 cb9) (.slice oR9 nr9 cR9) (.slice (some ⟨g8, f8, none⟩) nt9 ct8)) (balv kj (.slice o9 nj9 c9) sj kp (.slice ob9 np9 cb9) (.slice oR9 nr9 cR9) (.slice (some ⟨g8, f8, none⟩) nt9 ct8)) (learnM ⟨⟨kj, lj, sj⟩, ⟨kp, lb, lr⟩, lt⟩ now a p v) ∧ Below w.heap.size w (setB (W4.setCell ⟨v1.heap.size, 6, none⟩ (.slice (some ⟨g8, f8, none⟩) nt9 ct8)) (w.heap.size + 1 + 1) (.int .i64 kj) (.slice o9 nj9 c9) (.int .i64 sj) (.int .i64 kp) (.slice ob9 np9 cb9) (.slice oR9 nr9 cR9) (.slice (some ⟨g8, f8, none⟩) nt9 ct8))) := by
   have sR := stp_setB (W4.setCell ⟨v1.heap.size, 6, none⟩ (.slice (some ⟨g8, f8, none⟩) nt9 ct8)) (w.heap.size + 1 + 1) (.int .i64 kj) (.slice o9 nj9 c9) (.int .i64 sj) (.int .i64 kp) (.slice ob9 np9 cb9) (.slice oR9 nr9 cR9) (.slice (some ⟨g8, f8, none⟩) nt9 ct8)
   have hszR : (setB (W4.setCell ⟨v1.heap.size, 6, none⟩ (.slice (some ⟨g8, f8, none⟩) nt9 ct8)) (w.heap.size + 1 + 1) (.int .i64 kj) (.slice o9 nj9 c9) (.int .i64 sj) (.int .i64 kp) (.slice ob9 np9 cb9) (.slice oR9 nr9 cR9) (.slice (some ⟨g8, f8, none⟩) nt9 ct8)).heap.size = (W4.setCell ⟨v1.heap.size, 6, none⟩ (.slice (some ⟨g8, f8, none⟩) nt9 ct8)).heap.size := setB_size _ _ _ _ _ _ _ _ _
   have hz5 := s5.size
   have hO9 := (HIO.out.step s5 (.inr (Nat.le_refl _))).step sR (.inl (by omega))
   have hcl : ∀ i, i < el.length → ∀ j, j < layS.k → (setB (W4.setCell ⟨v1.heap.size, 6, none⟩ (.slice (some ⟨g8, f8, none⟩) nt9 ct8)) (w.heap.size + 1 + 1) (.int .i64 kj) (.slice o9 nj9 c9) (.int .i64 sj) (.int .i64 kp) (.slice ob9 np9 cb9) (.slice oR9 nr9 cR9) (.slice (some ⟨g8, f8, none⟩) nt9 ct8)).cell? ⟨g8, f8 + i * layS.k + j, none⟩ = (layS.cs (el.getD i layS.d))[j]? := fun i hi j hj => (stp_sameT sR (b := g8) (j := f8 + i * layS.k + j) (by omega) hgr).trans ((stp_sameT s5 (b := g8) (j := f8 + i * layS.k + j) (by omega) hgn).trans (HC8.out i hi j hj))
   exact ⟨HFN.out _ _ _ _ _ HLL.out HLLL.out hO9 hcl (by rw [hszR]; omega) (by rw [hszR]; omega), setB_below (HB.out.trans (s5.below (by omega) HB.out.size)) (by omega) _ _ _ _ _ _ _⟩
  clear HFN X5 s5 HIO HC8 HC9 HXU
  go_wp2
  refine bodyPost_ret (v := balv kj (.slice o9 nj9 c9) sj kp (.slice ob9 np9 cb9) (.slice oR9 nr9 cR9) (.slice (some ⟨g8, f8, none⟩) nt9 ct8)) (by simp [results, Tryz.results22, go_sem, r0, r1, r2, r3, r4, r5, r6, r5_0, r5_1, r5_2, r5_3, r5_4, r5_5, r5_6]) rfl ⟨_, rfl, HFI.out.1, HFI.out.2⟩
 ·have hyd : decide (0 ≤ ee) = false := by simp [hy]
  have HXT : Hid (W4.heap[v2.heap.size]? = some (.cells #[.slice (some ⟨g8, f8, none⟩) nt9 ct8] 45 (0, 0))) := by rw [← hW4]; exact World.alloc_heap_new v2 _
  have hlx := HLN.out (by omega)
  have HLX := hide hlx
  have hsx := HSF.out (by omega)
  clear hlx HLN HLY HSF HC8
  have HSO := hide (l5soonest_any g9 f9 ct9 lt W4 (by omega) HC9.out (by have := H16.out; omega))
  rw [HNN.out.2.2.2] at HSO
  obtain ⟨sq, hsq⟩ : ∃ x, soonL lt = x := ⟨_, rfl⟩
  rw [hsq] at HSO HLX hsx
  clear hsq
  go_wp2_with fail
  refine (HSO.out).mono ?_
  rintro e v3 ⟨rfl, hb⟩
  have hs5 := hb.size
  replace HXU := hide ((hb.block _ (by omega)).trans HXU.out)
  replace HXT := hide ((hb.block _ (by omega)).trans HXT.out)
  replace HIO := hide (HIO.out.step (Stp.of (lo := 0) (hi := 0) hb) (.inl (Nat.zero_le _)))
  replace HC9 : Hid (∀ i, i < lt.length → ∀ j, j < layS.k → v3.cell? ⟨g9, f9 + i * layS.k + j, none⟩ = (layS.cs (lt.getD i layS.d))[j]?) := hide (fun i hi j hj => (hb.cell (p := ⟨g9, f9 + i * layS.k + j, none⟩) (show g9 < W4.heap.size by omega)).trans (HC9.out i hi j hj))
  clear HSO
  replace z0 := bC hb z0 zz
  replace z1 := bC hb z1 zz
  replace z2 := bC hb z2 zz
  replace z3 := bC hb z3 zz
  replace z4 := bC hb z4 zz
  replace z5 := bC hb z5 zz
  replace z6 := bC hb z6 zz
  replace zz := Nat.lt_of_lt_of_le zz hb.size
  replace x0 := bC hb x0 zx
  replace x1 := bC hb x1 zx
  replace zx := Nat.lt_of_lt_of_le zx hb.size
  replace r0 := bC hb r0 zr
  replace r1 := bC hb r1 zr
  replace r2 := bC hb r2 zr
  replace r3 := bC hb r3 zr
  replace r4 := bC hb r4 zr
  replace r5 := bC hb r5 zr
  replace r6 := bC hb r6 zr
  replace fr0 := bF hb fr0 zr
  replace fr1 := bF hb fr1 zr
  replace fr2 := bF hb fr2 zr
  replace fr3 := bF hb fr3 zr
  replace fr4 := bF hb fr4 zr
  replace fr5 := bF hb fr5 zr
  replace fr6 := bF hb fr6 zr
  replace zr := Nat.lt_of_lt_of_le zr hb.size
  replace u0 := bC hb u0 zu
  replace u1 := bC hb u1 zu
  replace u2 := bC hb u2 zu
  replace u3 := bC hb u3 zu
  replace u4 := bC hb u4 zu
  replace u5 := bC hb u5 zu
  replace u6 := bC hb u6 zu
  replace fu0 := bF hb fu0 zu
  replace fu1 := bF hb fu1 zu
  replace fu2 := bF hb fu2 zu
  replace fu3 := bF hb fu3 zu
  replace fu4 := bF hb fu4 zu
  replace fu5 := bF hb fu5 zu
  replace fu6 := bF hb fu6 zu
  replace zu := Nat.lt_of_lt_of_le zu hb.size
  replace t0 := bC hb t0 zt
  replace ft0 := bF hb ft0 zt
  replace zt := Nat.lt_of_lt_of_le zt hb.size
  replace HB := hide (HB.out.trans (hb.mono HB.out.size))
  clear hb
  obtain ⟨W6, hW6⟩ : ∃ W, (v3.alloc (.cells #[.bool sq.u, .int .i64 sq.a, .int .i64 sq.p, .int .i64 sq.v, .int .i64 sq.t] 96)) = W := ⟨_, rfl⟩
  have hb_W6 : Below v3.heap.size v3 W6 := by rw [← hW6]; exact ((Below.refl _ _).alloc (Nat.le_refl _) _)
  replace z0 := bC hb_W6 z0 zz
  replace z1 := bC hb_W6 z1 zz
  replace z2 := bC hb_W6 z2 zz
  replace z3 := bC hb_W6 z3 zz
  replace z4 := bC hb_W6 z4 zz
  replace z5 := bC hb_W6 z5 zz
  replace z6 := bC hb_W6 z6 zz
  replace zz := Nat.lt_of_lt_of_le zz hb_W6.size
  replace x0 := bC hb_W6 x0 zx
  replace x1 := bC hb_W6 x1 zx
  replace zx := Nat.lt_of_lt_of_le zx hb_W6.size
  replace r0 := bC hb_W6 r0 zr
  replace r1 := bC hb_W6 r1 zr
  replace r2 := bC hb_W6 r2 zr
  replace r3 := bC hb_W6 r3 zr
  replace r4 := bC hb_W6 r4 zr
  replace r5 := bC hb_W6 r5 zr
  replace r6 := bC hb_W6 r6 zr
  replace fr0 := bF hb_W6 fr0 zr
  replace fr1 := bF hb_W6 fr1 zr
  replace fr2 := bF hb_W6 fr2 zr
  replace fr3 := bF hb_W6 fr3 zr
  replace fr4 := bF hb_W6 fr4 zr
  replace fr5 := bF hb_W6 fr5 zr
  replace fr6 := bF hb_W6 fr6 zr
  replace zr := Nat.lt_of_lt_of_le zr hb_W6.size
  replace u0 := bC hb_W6 u0 zu
  replace u1 := bC hb_W6 u1 zu
  replace u2 := bC hb_W6 u2 zu
  replace u3 := bC hb_W6 u3 zu
  replace u4 := bC hb_W6 u4 zu
  replace u5 := bC hb_W6 u5 zu
  replace u6 := bC hb_W6 u6 zu
  replace fu0 := bF hb_W6 fu0 zu
  replace fu1 := bF hb_W6 fu1 zu
  replace fu2 := bF hb_W6 fu2 zu
  replace fu3 := bF hb_W6 fu3 zu
  replace fu4 := bF hb_W6 fu4 zu
  replace fu5 := bF hb_W6 fu5 zu
  replace fu6 := bF hb_W6 fu6 zu
  replace zu := Nat.lt_of_lt_of_le zu hb_W6.size
  replace t0 := bC hb_W6 t0 zt
  replace ft0 := bF hb_W6 ft0 zt
  replace zt := Nat.lt_of_lt_of_le zt hb_W6.size
  replace HB := hide (HB.out.trans (hb_W6.mono HB.out.size))
  clear hb_W6
  have zq : v3.heap.size < W6.heap.size := by rw [← hW6]; simp
  have q0 : W6.cell? ⟨v3.heap.size, 0, none⟩ = some (.bool sq.u) := by rw [← hW6]; simp [go_sem]
  have q1 : W6.cell? ⟨v3.heap.size, 1, none⟩ = some (.int .i64 sq.a) := by rw [← hW6]; simp [go_sem]
  have q2 : W6.cell? ⟨v3.heap.size, 2, none⟩ = some (.int .i64 sq.p) := by rw [← hW6]; simp [go_sem]
  have q3 : W6.cell? ⟨v3.heap.size, 3, none⟩ = some (.int .i64 sq.v) := by rw [← hW6]; simp [go_sem]
  have q4 : W6.cell? ⟨v3.heap.size, 4, none⟩ = some (.int .i64 sq.t) := by rw [← hW6]; simp [go_sem]
  have hs6 : v3.heap.size < W6.heap.size := zq
  have hb6 : Below v3.heap.size v3 W6 := by rw [← hW6]; exact (Below.refl _ _).alloc (Nat.le_refl _) _
  replace HXU := hide ((hb6.block _ (by omega)).trans HXU.out)
  replace HXT := hide ((hb6.block _ (by omega)).trans HXT.out)
  replace HIO := hide (HIO.out.step (Stp.of (lo := 0) (hi := 0) hb6) (.inl (Nat.zero_le _)))
  replace HC9 : Hid (∀ i, i < lt.length → ∀ j, j < layS.k → W6.cell? ⟨g9, f9 + i * layS.k + j, none⟩ = (layS.cs (lt.getD i layS.d))[j]?) := hide (fun i hi j hj => (hb6.cell (p := ⟨g9, f9 + i * layS.k + j, none⟩) (show g9 < v3.heap.size by omega)).trans (HC9.out i hi j hj))
  clear hb6
  have HDR := hide (l5dropW_any g9 f9 ct9 lt sq.a sq.p W6 HPO.out H16.out hsx HFO.out (by omega) HC9.out)
  rw [HNN.out.2.2.2] at HDR
  obtain ⟨dl, hdl⟩ : ∃ x, dropL lt sq.a sq.p = x := ⟨_, rfl⟩
  obtain ⟨ed, hed⟩ : ∃ x, (endL lt sq.a sq.p).2 = x := ⟨_, rfl⟩
  have HDL := hide (show dl.length = lt.length by rw [← hdl]; exact dropL_len _ _ _)
  rw [hdl] at HDR HLX
  rw [hed] at HDR
  clear hdl hed
  go_wp2_with fail
  refine (HDR.out).mono ?_
  rintro e v4 ⟨g7, f7, ct7, rfl, hg7, hcell7, hb, hor7⟩
  have HC7 := hide hcell7
  have hs7 := hb.size
  replace HXU := hide ((hb.block _ (by omega)).trans HXU.out)
  replace HXT := hide ((hb.block _ (by omega)).trans HXT.out)
  replace HIO := hide (HIO.out.step (Stp.of (lo := 0) (hi := 0) hb) (.inl (Nat.zero_le _)))
  clear HDR hcell7 HC9
  replace z0 := bC hb z0 zz
  replace z1 := bC hb z1 zz
  replace z2 := bC hb z2 zz
  replace z3 := bC hb z3 zz
  replace z4 := bC hb z4 zz
  replace z5 := bC hb z5 zz
  replace z6 := bC hb z6 zz
  replace zz := Nat.lt_of_lt_of_le zz hb.size
  replace x0 := bC hb x0 zx
  replace x1 := bC hb x1 zx
  replace zx := Nat.lt_of_lt_of_le zx hb.size
  replace r0 := bC hb r0 zr
  replace r1 := bC hb r1 zr
  replace r2 := bC hb r2 zr
  replace r3 := bC hb r3 zr
  replace r4 := bC hb r4 zr
  replace r5 := bC hb r5 zr
  replace r6 := bC hb r6 zr
  replace fr0 := bF hb fr0 zr
  replace fr1 := bF hb fr1 zr
  replace fr2 := bF hb fr2 zr
  replace fr3 := bF hb fr3 zr
  replace fr4 := bF hb fr4 zr
  replace fr5 := bF hb fr5 zr
  replace fr6 := bF hb fr6 zr
  replace zr := Nat.lt_of_lt_of_le zr hb.size
  replace u0 := bC hb u0 zu
  replace u1 := bC hb u1 zu
  replace u2 := bC hb u2 zu
  replace u3 := bC hb u3 zu
  replace u4 := bC hb u4 zu
  replace u5 := bC hb u5 zu
  replace u6 := bC hb u6 zu
  replace fu0 := bF hb fu0 zu
  replace fu1 := bF hb fu1 zu
  replace fu2 := bF hb fu2 zu
  replace fu3 := bF hb fu3 zu
  replace fu4 := bF hb fu4 zu
  replace fu5 := bF hb fu5 zu
  replace fu6 := bF hb fu6 zu
  replace zu := Nat.lt_of_lt_of_le zu hb.size
  replace t0 := bC hb t0 zt
  replace ft0 := bF hb ft0 zt
  replace zt := Nat.lt_of_lt_of_le zt hb.size
  replace q0 := bC hb q0 zq
  replace q1 := bC hb q1 zq
  replace q2 := bC hb q2 zq
  replace q3 := bC hb q3 zq
  replace q4 := bC hb q4 zq
  replace zq := Nat.lt_of_lt_of_le zq hb.size
  replace HB := hide (HB.out.trans (hb.mono HB.out.size))
  clear hb
  have hkz : w.heap.size < v2.heap.size := by omega
  have hkx : w.heap.size + 1 < v2.heap.size := by omega
  have hkr : w.heap.size + 1 + 1 < v2.heap.size := by omega
  have hku : v1.heap.size < v2.heap.size := by omega
  have hkq : v2.heap.size + 1 ≤ v3.heap.size := by omega
  obtain ⟨W7, hW7⟩ : ∃ W, v4.setCell ⟨v2.heap.size, 0, none⟩ (.slice (some ⟨g7, f7, none⟩) nt9 ct7) = W := ⟨_, rfl⟩
  have s7 : Stp v2.heap.size (v2.heap.size + 1) v4 W7 := by rw [← hW7]; exact stp_set v4 v2.heap.size 0 _
  have X7 : W7.heap[v2.heap.size]? = some (.cells #[.slice (some ⟨g7, f7, none⟩) nt9 ct7] 45 (0, 0)) := by rw [← hW7]; exact box_put HXT.out 0 _
  have hz7 := s7.size
  have hg7n : g7 < v2.heap.size ∨ v2.heap.size + 1 ≤ g7 := by omega
  replace HC7 : Hid (∀ i, i < dl.length → ∀ j, j < layS.k → W7.cell? ⟨g7, f7 + i * layS.k + j, none⟩ = (layS.cs (dl.getD i layS.d))[j]?) := hide (fun i hi j hj => (stp_sameT s7 (b := g7) (j := f7 + i * layS.k + j) hg7 hg7n).trans (HC7.out i hi j hj))
  replace HXU := hide (s7.box HXU.out (.inl (by omega)))
  replace HIO := hide (HIO.out.step s7 (.inr (by omega)))
  replace HXT := hide X7
  have HT0 := hide (bx_cell X7 0 _ rfl)
  have HFT := hide (bx_frozen X7 0)
  clear X7
  have HP2 := hide (l5putW_any g7 f7 ct7 dl a p v (now + 50) W7 (by rw [HDL.out]; exact HPO.out) (by rw [HDL.out]; have := H16.out; omega) hfl (by omega) HC7.out)
  rw [HDL.out, HNN.out.2.2.2] at HP2
  obtain ⟨el2, hel2⟩ : ∃ x, putL dl a p v (now + 50) = x := ⟨_, rfl⟩
  obtain ⟨ed2, hed2⟩ : ∃ x, (endL dl a p).1 = x := ⟨_, rfl⟩
  have HL2 := hide (show el2.length = lt.length by rw [← hel2, putL_len]; exact HDL.out)
  rw [hel2] at HP2 HLX
  rw [hed2] at HP2
  clear hel2 hed2
  have t9 : W7.cell? ⟨v2.heap.size, 0, none⟩ = some (.slice (some ⟨g7, f7, none⟩) nt9 ct7) := HT0.out
  have HS7 := hide s7
  have x9_0 := s7.cellP x0 (.inl hkx)
  have x9_1 := s7.cellP x1 (.inl hkx)
  clear s7
  go_wp2_with fail
  have s7 := HS7.out
  clear t9 x9_0 x9_1
  replace z0 := s7.cellP z0 (.inl hkz)
  replace z1 := s7.cellP z1 (.inl hkz)
  replace z2 := s7.cellP z2 (.inl hkz)
  replace z3 := s7.cellP z3 (.inl hkz)
  replace z4 := s7.cellP z4 (.inl hkz)
  replace z5 := s7.cellP z5 (.inl hkz)
  replace z6 := s7.cellP z6 (.inl hkz)
  replace zz := Nat.lt_of_lt_of_le zz s7.size
  replace x0 := s7.cellP x0 (.inl hkx)
  replace x1 := s7.cellP x1 (.inl hkx)
  replace zx := Nat.lt_of_lt_of_le zx s7.size
  replace r0 := s7.cellP r0 (.inl hkr)
  replace r1 := s7.cellP r1 (.inl hkr)
  replace r2 := s7.cellP r2 (.inl hkr)
  replace r3 := s7.cellP r3 (.inl hkr)
  replace r4 := s7.cellP r4 (.inl hkr)
  replace r5 := s7.cellP r5 (.inl hkr)
  replace r6 := s7.cellP r6 (.inl hkr)
  replace fr0 := Stp.frozen s7 fr0 zr (.inl hkr)
  replace fr1 := Stp.frozen s7 fr1 zr (.inl hkr)
  replace fr2 := Stp.frozen s7 fr2 zr (.inl hkr)
  replace fr3 := Stp.frozen s7 fr3 zr (.inl hkr)
  replace fr4 := Stp.frozen s7 fr4 zr (.inl hkr)
  replace fr5 := Stp.frozen s7 fr5 zr (.inl hkr)
  replace fr6 := Stp.frozen s7 fr6 zr (.inl hkr)
  replace zr := Nat.lt_of_lt_of_le zr s7.size
  replace u0 := s7.cellP u0 (.inl hku)
  replace u1 := s7.cellP u1 (.inl hku)
  replace u2 := s7.cellP u2 (.inl hku)
  replace u3 := s7.cellP u3 (.inl hku)
  replace u4 := s7.cellP u4 (.inl hku)
  replace u5 := s7.cellP u5 (.inl hku)
  replace u6 := s7.cellP u6 (.inl hku)
  replace fu0 := Stp.frozen s7 fu0 zu (.inl hku)
  replace fu1 := Stp.frozen s7 fu1 zu (.inl hku)
  replace fu2 := Stp.frozen s7 fu2 zu (.inl hku)
  replace fu3 := Stp.frozen s7 fu3 zu (.inl hku)
  replace fu4 := Stp.frozen s7 fu4 zu (.inl hku)
  replace fu5 := Stp.frozen s7 fu5 zu (.inl hku)
  replace fu6 := Stp.frozen s7 fu6 zu (.inl hku)
  replace zu := Nat.lt_of_lt_of_le zu s7.size
  replace q0 := s7.cellP q0 (.inr hkq)
  replace q1 := s7.cellP q1 (.inr hkq)
  replace q2 := s7.cellP q2 (.inr hkq)
  replace q3 := s7.cellP q3 (.inr hkq)
  replace q4 := s7.cellP q4 (.inr hkq)
  replace zq := Nat.lt_of_lt_of_le zq s7.size
  replace zt := Nat.lt_of_lt_of_le zt s7.size
  replace HB := hide (HB.out.trans (s7.below (by omega) HB.out.size))
  clear t0 ft0
  have t0 : W7.cell? ⟨v2.heap.size, 0, none⟩ = some (.slice (some ⟨g7, f7, none⟩) nt9 ct7) := HT0.out
  have ft0 := HFT.out
  clear HT0 HFT s7 HS7
  refine (HP2.out).mono ?_
  rintro e v5 ⟨g6, f6, ct6, rfl, hg6, hcell6, hb, hor6⟩
  have HC6 := hide hcell6
  have hs8 := hb.size
  replace HXU := hide ((hb.block _ (by omega)).trans HXU.out)
  replace HXT := hide ((hb.block _ (by omega)).trans HXT.out)
  replace HIO := hide (HIO.out.step (Stp.of (lo := 0) (hi := 0) hb) (.inl (Nat.zero_le _)))
  clear HP2 hcell6 HC7
  replace z0 := bC hb z0 zz
  replace z1 := bC hb z1 zz
  replace z2 := bC hb z2 zz
  replace z3 := bC hb z3 zz
  replace z4 := bC hb z4 zz
  replace z5 := bC hb z5 zz
  replace z6 := bC hb z6 zz
  replace zz := Nat.lt_of_lt_of_le zz hb.size
  replace x0 := bC hb x0 zx
  replace x1 := bC hb x1 zx
  replace zx := Nat.lt_of_lt_of_le zx hb.size
  replace r0 := bC hb r0 zr
  replace r1 := bC hb r1 zr
  replace r2 := bC hb r2 zr
  replace r3 := bC hb r3 zr
  replace r4 := bC hb r4 zr
  replace r5 := bC hb r5 zr
  replace r6 := bC hb r6 zr
  replace fr0 := bF hb fr0 zr
  replace fr1 := bF hb fr1 zr
  replace fr2 := bF hb fr2 zr
  replace fr3 := bF hb fr3 zr
  replace fr4 := bF hb fr4 zr
  replace fr5 := bF hb fr5 zr
  replace fr6 := bF hb fr6 zr
  replace zr := Nat.lt_of_lt_of_le zr hb.size
  replace u0 := bC hb u0 zu
  replace u1 := bC hb u1 zu
  replace u2 := bC hb u2 zu
  replace u3 := bC hb u3 zu
  replace u4 := bC hb u4 zu
  replace u5 := bC hb u5 zu
  replace u6 := bC hb u6 zu
  replace fu0 := bF hb fu0 zu
  replace fu1 := bF hb fu1 zu
  replace fu2 := bF hb fu2 zu
  replace fu3 := bF hb fu3 zu
  replace fu4 := bF hb fu4 zu
  replace fu5 := bF hb fu5 zu
  replace fu6 := bF hb fu6 zu
  replace zu := Nat.lt_of_lt_of_le zu hb.size
  replace t0 := bC hb t0 zt
  replace ft0 := bF hb ft0 zt
  replace zt := Nat.lt_of_lt_of_le zt hb.size
  replace q0 := bC hb q0 zq
  replace q1 := bC hb q1 zq
  replace q2 := bC hb q2 zq
  replace q3 := bC hb q3 zq
  replace q4 := bC hb q4 zq
  replace zq := Nat.lt_of_lt_of_le zq hb.size
  replace HB := hide (HB.out.trans (hb.mono HB.out.size))
  clear hb
  obtain ⟨W8, hW8⟩ : ∃ W, v5.setCell ⟨v2.heap.size, 0, none⟩ (.slice (some ⟨g6, f6, none⟩) nt9 ct6) = W := ⟨_, rfl⟩
  have s8 : Stp v2.heap.size (v2.heap.size + 1) v5 W8 := by rw [← hW8]; exact stp_set v5 v2.heap.size 0 _
  have X8 : W8.heap[v2.heap.size]? = some (.cells #[.slice (some ⟨g6, f6, none⟩) nt9 ct6] 45 (0, 0)) := by rw [← hW8]; exact box_put HXT.out 0 _
  have hz8 := s8.size
  have hg6n : g6 < v2.heap.size ∨ v2.heap.size + 1 ≤ g6 := by omega
  replace HC6 : Hid (∀ i, i < el2.length → ∀ j, j < layS.k → W8.cell? ⟨g6, f6 + i * layS.k + j, none⟩ = (layS.cs (el2.getD i layS.d))[j]?) := hide (fun i hi j hj => (stp_sameT s8 (b := g6) (j := f6 + i * layS.k + j) hg6 hg6n).trans (HC6.out i hi j hj))
  replace HXU := hide (s8.box HXU.out (.inl (by omega)))
  replace HIO := hide (HIO.out.step s8 (.inr (by omega)))
  have t8 := bx_cell X8 0 _ rfl
  have ft8 := bx_frozen X8 0
  clear X8 HXT
  have u8_0 := s8.cellP u0 (.inl hku)
  have u8_1 := s8.cellP u1 (.inl hku)
  have u8_2 := s8.cellP u2 (.inl hku)
  have u8_3 := s8.cellP u3 (.inl hku)
  have u8_4 := s8.cellP u4 (.inl hku)
  have u8_5 := s8.cellP u5 (.inl hku)
  have u8_6 := s8.cellP u6 (.inl hku)
  have fu8_0 := Stp.frozen s8 fu0 zu (.inl hku)
  have fu8_1 := Stp.frozen s8 fu1 zu (.inl hku)
  have fu8_2 := Stp.frozen s8 fu2 zu (.inl hku)
  have fu8_3 := Stp.frozen s8 fu3 zu (.inl hku)
  have fu8_4 := Stp.frozen s8 fu4 zu (.inl hku)
  have fu8_5 := Stp.frozen s8 fu5 zu (.inl hku)
  have fu8_6 := Stp.frozen s8 fu6 zu (.inl hku)
  have r8_0 := s8.cellP r0 (.inl hkr)
  have r8_1 := s8.cellP r1 (.inl hkr)
  have r8_2 := s8.cellP r2 (.inl hkr)
  have r8_3 := s8.cellP r3 (.inl hkr)
  have r8_4 := s8.cellP r4 (.inl hkr)
  have r8_5 := s8.cellP r5 (.inl hkr)
  have r8_6 := s8.cellP r6 (.inl hkr)
  have fr8_0 := Stp.frozen s8 fr0 zr (.inl hkr)
  have fr8_1 := Stp.frozen s8 fr1 zr (.inl hkr)
  have fr8_2 := Stp.frozen s8 fr2 zr (.inl hkr)
  have fr8_3 := Stp.frozen s8 fr3 zr (.inl hkr)
  have fr8_4 := Stp.frozen s8 fr4 zr (.inl hkr)
  have fr8_5 := Stp.frozen s8 fr5 zr (.inl hkr)
  have fr8_6 := Stp.frozen s8 fr6 zr (.inl hkr)
  have HB8 := hide (HB.out.trans (s8.below (by omega) HB.out.size))
  have zr8 := Nat.lt_of_lt_of_le zr s8.size
  clear s8
  have hgn : g6 < v1.heap.size ∨ v1.heap.size + 1 ≤ g6 := by omega
  have hgr : g6 < w.heap.size + 1 + 1 ∨ w.heap.size + 1 + 1 + 1 ≤ g6 := by omega
  have X5 : (W8.setCell ⟨v1.heap.size, 6, none⟩ (.slice (some ⟨g6, f6, none⟩) nt9 ct6)).heap[v1.heap.size]? = some (.cells #[.int .i64 kj, .slice o9 nj9 c9, .int .i64 sj, .int .i64 kp, .slice ob9 np9 cb9, .slice oR9 nr9 cR9, .slice (some ⟨g6, f6, none⟩) nt9 ct6] 47 (0, 0)) := box_put HXU.out 6 _
  have s5 : Stp v1.heap.size (v1.heap.size + 1) W8 (W8.setCell ⟨v1.heap.size, 6, none⟩ (.slice (some ⟨g6, f6, none⟩) nt9 ct6)) := stp_set W8 v1.heap.size 6 _
  have y0 : (W8.setCell ⟨v1.heap.size, 6, none⟩ (.slice (some ⟨g6, f6, none⟩) nt9 ct6)).cell? ⟨v1.heap.size, 0, none⟩ = some (.int .i64 kj) := bx_cell X5 0 _ rfl
  have y1 : (W8.setCell ⟨v1.heap.size, 6, none⟩ (.slice (some ⟨g6, f6, none⟩) nt9 ct6)).cell? ⟨v1.heap.size, 1, none⟩ = some (.slice o9 nj9 c9) := bx_cell X5 1 _ rfl
  have y2 : (W8.setCell ⟨v1.heap.size, 6, none⟩ (.slice (some ⟨g6, f6, none⟩) nt9 ct6)).cell? ⟨v1.heap.size, 2, none⟩ = some (.int .i64 sj) := bx_cell X5 2 _ rfl
  have y3 : (W8.setCell ⟨v1.heap.size, 6, none⟩ (.slice (some ⟨g6, f6, none⟩) nt9 ct6)).cell? ⟨v1.heap.size, 3, none⟩ = some (.int .i64 kp) := bx_cell X5 3 _ rfl
  have y4 : (W8.setCell ⟨v1.heap.size, 6, none⟩ (.slice (some ⟨g6, f6, none⟩) nt9 ct6)).cell? ⟨v1.heap.size, 4, none⟩ = some (.slice ob9 np9 cb9) := bx_cell X5 4 _ rfl
  have y5 : (W8.setCell ⟨v1.heap.size, 6, none⟩ (.slice (some ⟨g6, f6, none⟩) nt9 ct6)).cell? ⟨v1.heap.size, 5, none⟩ = some (.slice oR9 nr9 cR9) := bx_cell X5 5 _ rfl
  have y6 : (W8.setCell ⟨v1.heap.size, 6, none⟩ (.slice (some ⟨g6, f6, none⟩) nt9 ct6)).cell? ⟨v1.heap.size, 6, none⟩ = some (.slice (some ⟨g6, f6, none⟩) nt9 ct6) := bx_cell X5 6 _ rfl
  have r5_0 := s5.cellP r8_0 (.inl hlr)
  have r5_1 := s5.cellP r8_1 (.inl hlr)
  have r5_2 := s5.cellP r8_2 (.inl hlr)
  have r5_3 := s5.cellP r8_3 (.inl hlr)
  have r5_4 := s5.cellP r8_4 (.inl hlr)
  have r5_5 := s5.cellP r8_5 (.inl hlr)
  have r5_6 := s5.cellP r8_6 (.inl hlr)
  have fr5_0 := Stp.frozen s5 fr8_0 (by omega) (.inl hlr)
  have fr5_1 := Stp.frozen s5 fr8_1 (by omega) (.inl hlr)
  have fr5_2 := Stp.frozen s5 fr8_2 (by omega) (.inl hlr)
  have fr5_3 := Stp.frozen s5 fr8_3 (by omega) (.inl hlr)
  have fr5_4 := Stp.frozen s5 fr8_4 (by omega) (.inl hlr)
  have fr5_5 := Stp.frozen s5 fr8_5 (by omega) (.inl hlr)
  have fr5_6 := Stp.frozen s5 fr8_6 (by omega) (.inl hlr)
  have HFI : Hid (OrBm (setB (W8.setCell ⟨v1.heap.size, 6, none⟩ (.slice (some ⟨g6, f6, none⟩) nt9 ct6)) (w.heap.size + 1 + 1) (.int .i64 kj) (.slice o9 nj9 c9) (.int .i64 sj) (.int .i64 kp) (.slice ob9 np9 cb9) (.slice oR9 nr9 cR9) (.slice (some ⟨g6, f6, none⟩) nt9 ct6)) (balv kj (.slice o9 nj9 c9) sj kp (.slice ob9 np9 cb9) (.slice oR9 nr9 cR9) (.slice (some ⟨g6, f6, none⟩) nt9 ct6)) (learnM ⟨⟨kj, lj, sj⟩, ⟨kp, lb, lr⟩, lt⟩ now a p v) ∧ Below w.heap.size w (setB (W8.setCell ⟨v1.heap.size, 6, none⟩ (.slice (some ⟨g6, f6, none⟩) nt9 ct6)) (w.heap.size + 1 + 1) (.int .i64 kj) (.slice o9 nj9 c9) (.int .i64 sj) (.int .i64 kp) (.slice ob9 np9 cb9) (.slice oR9 nr9 cR9) (.slice (some ⟨g6, f6, none⟩) nt9 ct6))) := by
   have sR := stp_setB (W8.setCell ⟨v1.heap.size, 6, none⟩ (.slice (some ⟨g6, f6, none⟩) nt9 ct6)) (w.heap.size + 1 + 1) (.int .i64 kj) (.slice o9 nj9 c9) (.int .i64 sj) (.int .i64 kp) (.slice ob9 np9 cb9) (.slice oR9 nr9 cR9) (.slice (some ⟨g6, f6, none⟩) nt9 ct6)
   have hszR : (setB (W8.setCell ⟨v1.heap.size, 6, none⟩ (.slice (some ⟨g6, f6, none⟩) nt9 ct6)) (w.heap.size + 1 + 1) (.int .i64 kj) (.slice o9 nj9 c9) (.int .i64 sj) (.int .i64 kp) (.slice ob9 np9 cb9) (.slice oR9 nr9 cR9) (.slice (some ⟨g6, f6, none⟩) nt9 ct6)).heap.size = (W8.setCell ⟨v1.heap.size, 6, none⟩ (.slice (some ⟨g6, f6, none⟩) nt9 ct6)).heap.size := setB_size _ _ _ _ _ _ _ _ _
   have hz5 := s5.size
   have hO9 := (HIO.out.step s5 (.inr (Nat.le_refl _))).step sR (.inl (by omega))
   have hcl : ∀ i, i < el2.length → ∀ j, j < layS.k → (setB (W8.setCell ⟨v1.heap.size, 6, none⟩ (.slice (some ⟨g6, f6, none⟩) nt9 ct6)) (w.heap.size + 1 + 1) (.int .i64 kj) (.slice o9 nj9 c9) (.int .i64 sj) (.int .i64 kp) (.slice ob9 np9 cb9) (.slice oR9 nr9 cR9) (.slice (some ⟨g6, f6, none⟩) nt9 ct6)).cell? ⟨g6, f6 + i * layS.k + j, none⟩ = (layS.cs (el2.getD i layS.d))[j]? := fun i hi j hj => (stp_sameT sR (b := g6) (j := f6 + i * layS.k + j) (by omega) hgr).trans ((stp_sameT s5 (b := g6) (j := f6 + i * layS.k + j) (by omega) hgn).trans (HC6.out i hi j hj))
   exact ⟨HFN.out _ _ _ _ _ HL2.out HLX.out hO9 hcl (by rw [hszR]; omega) (by rw [hszR]; omega), setB_below (HB8.out.trans (s5.below (by omega) HB8.out.size)) (by omega) _ _ _ _ _ _ _⟩
  clear HFN X5 s5 HIO HC6 HXU
  go_wp2
  refine bodyPost_ret (v := balv kj (.slice o9 nj9 c9) sj kp (.slice ob9 np9 cb9) (.slice oR9 nr9 cR9) (.slice (some ⟨g6, f6, none⟩) nt9 ct6)) (by simp [results, Tryz.results22, go_sem, r0, r1, r2, r3, r4, r5, r6, r5_0, r5_1, r5_2, r5_3, r5_4, r5_5, r5_6]) rfl ⟨_, rfl, HFI.out.1, HFI.out.2⟩

theorem soonTo_at (l : List Sl) : ∀ k, k ≤ l.length → (soonTo l k = sl0 ∧ ∀ j, j < k → (l.getD j sl0).u = false) ∨ ∃ j, j < k ∧ soonTo l k = l.getD j sl0 ∧ (l.getD j sl0).u = true
 | 0, _ => .inl ⟨rfl, fun j hj => absurd hj (Nat.not_lt_zero _)⟩
 | k + 1, hk => by
  have ih := soonTo_at l k (by omega)
  rw [soonTo_succ (by omega)]
  cases hu : (l.getD k sl0).u with
  | false =>
   rw [soonStep_free hu]
   rcases ih with ⟨h1, h2⟩ | ⟨j, h1, h2, h3⟩
   ·refine .inl ⟨h1, fun j hj => ?_⟩
    by_cases e : j = k
    ·subst e; exact hu
    ·exact h2 j (by omega)
   ·exact .inr ⟨j, by omega, h2, h3⟩
  | true =>
   rcases ih with ⟨h1, h2⟩ | ⟨j, h1, h2, h3⟩
   ·rw [h1, soonStep_first hu rfl]; exact .inr ⟨k, by omega, rfl, hu⟩
   ·rw [h2]
    by_cases ht : (l.getD k sl0).t < (l.getD j sl0).t
    ·rw [soonStep_less hu ht]; exact .inr ⟨k, by omega, rfl, hu⟩
    ·rw [soonStep_more h3 ht]; exact .inr ⟨j, by omega, rfl, h3⟩
theorem full_soon {l : List Sl} {a p : Int} (hok : tableOkB l = true) (h : (endL l a p).1 < 0) : flowOkB (soonL l).a (soonL l).p = true := by
 have hn := (tableOkB_iff.1 hok).1
 have hh := homeN_lt (show 0 < l.length by omega) a p
 have hu : (l.getD (homeN l.length a p) sl0).u = true := by
  cases hu : (l.getD (homeN l.length a p) sl0).u with
  | true => rfl
  | false =>
   obtain ⟨n, hl⟩ : ∃ n, l.length = n + 1 := ⟨l.length - 1, by omega⟩
   have e : endL l a p = ((homeN l.length a p : Int), false) := by
    unfold endL
    have := wayGo_free (a := a) (p := p) (f := n) hu
    rw [← hl] at this
    exact this
   rw [e] at h
   dsimp only at h
   omega
 rcases soonTo_at l l.length (Nat.le_refl _) with ⟨_, h2⟩ | ⟨j, h1, h2, h3⟩
 ·rw [h2 _ hh] at hu; cases hu
 ·show flowOkB (soonTo l l.length).a (soonTo l l.length).p = true
  rw [h2]
  exact flowsOk_of hok j h1 h3
def learnB (m : Bm) (now a p v : Int) : Bool := balB m && ((decide (0 ≤ now) && decide (now ≤ 100000)) && (flowOkB a p && (decide (0 ≤ v) && decide (v < 6))))
def learn0M (m : Bm) (now a p v : Int) : Bm := if learnB m now a p v = true then learnM m now a p v else bm0
theorem learnL_len (l : List Sl) (now a p v : Int) : (learnL l now a p v).length = l.length := by unfold learnL; split <;> simp [putL_len, dropL_len]

set_option maxRecDepth 100000 in
set_option maxHeartbeats 4000000 in
theorem specLearn_any (kj : Int) (o : Option Addr) (nj c : Nat) (sj kp : Int) (ob : Option Addr) (np cb : Nat) (oR : Option Addr) (nr cR : Nat) (ot : Option Addr) (nt ct : Nat) (lj : List Cd) (lb : List Bk) (lr : List (List (List Int))) (lt : List Sl) (now a p v : Int) (w : World)
  (hnj : nj = lj.length) (hnt : nt = lt.length) (h1 : RdC w.heap.size w o lj) (h1c : o = none → c = 0) (h2 : RdPm w.heap.size w (plv kp (.slice ob np cb) (.slice oR nr cR)) ⟨kp, lb, lr⟩) (h4 : RdS w.heap.size w ot lt) (hf : fitB0 ⟨⟨kj, lj, sj⟩, ⟨kp, lb, lr⟩, lt⟩) (hO : OwBm 0 w.heap.size w (balv kj (.slice o nj c) sj kp (.slice ob np cb) (.slice oR nr cR) (.slice ot nt ct)) ⟨⟨kj, lj, sj⟩, ⟨kp, lb, lr⟩, lt⟩) :
  Calls Tryz.prog 6 #[balv kj (.slice o nj c) sj kp (.slice ob np cb) (.slice oR nr cR) (.slice ot nt ct), .int .i64 now, flow a p, .int .i64 v] w fun e w' => ∃ v', e = .returned (.tuple #[v', .bool (learnB ⟨⟨kj, lj, sj⟩, ⟨kp, lb, lr⟩, lt⟩ now a p v)]) ∧ OwBm w.heap.size w'.heap.size w' v' (learn0M ⟨⟨kj, lj, sj⟩, ⟨kp, lb, lr⟩, lt⟩ now a p v) ∧ Below w.heap.size w w' := by
 have HBO := hide (fun W (hb : Below w.heap.size w W) => specBalOk_any kj o nj c sj kp ob np cb oR nr cR ot nt ct lj lb lr lt W hnj hnt ((h1.kept hb (Nat.le_refl _)).le hb.size) h1c ((h2.kept hb (Nat.le_refl _)).le hb.size) ((h4.kept hb (Nat.le_refl _)).le hb.size) hf)
 have HFB := hide (show balB ⟨⟨kj, lj, sj⟩, ⟨kp, lb, lr⟩, lt⟩ = true → fitBm ⟨⟨kj, lj, sj⟩, ⟨kp, lb, lr⟩, lt⟩ from fun h => ⟨by have := (journal_facts (balB_jrn h)).2.1; dsimp only at this ⊢; omega, balB_fit h, by have := (tableOkB_iff.1 (balB_tab h)).2.1; dsimp only at this ⊢; omega⟩)
 have HCR := hide (fun hb9 (hd9 : (decide (0 ≤ now) && decide (now ≤ 100000)) = true) hfl9 W (hb : Below w.heap.size w W) => l7learn_any kj o nj c sj kp ob np cb oR nr cR ot nt ct lj lb lr lt now a p v W ((hO.step (Stp.of (lo := 0) (hi := 0) hb) (.inl (Nat.zero_le _))).mono (Nat.le_refl _) hb.size) hb9 (HFB.out hb9) (by simp at hd9; omega) (by simp at hd9; omega) hfl9 (fun h => full_soon (balB_tab hb9) h) (flowsOk_of (balB_tab hb9)))
 have HCF := hide (show balB ⟨⟨kj, lj, sj⟩, ⟨kp, lb, lr⟩, lt⟩ = true → fitBm (learnM ⟨⟨kj, lj, sj⟩, ⟨kp, lb, lr⟩, lt⟩ now a p v) from fun hb9 => ⟨(HFB.out hb9).1, (HFB.out hb9).2.1, by have h := (HFB.out hb9).2.2; show (learnL lt now a p v).length ≤ _; rw [learnL_len]; exact h⟩)
 have HM := hide (show learn0M ⟨⟨kj, lj, sj⟩, ⟨kp, lb, lr⟩, lt⟩ now a p v = if learnB ⟨⟨kj, lj, sj⟩, ⟨kp, lb, lr⟩, lt⟩ now a p v = true then learnM ⟨⟨kj, lj, sj⟩, ⟨kp, lb, lr⟩, lt⟩ now a p v else bm0 from rfl)
 have HF0 := hide (show learnB ⟨⟨kj, lj, sj⟩, ⟨kp, lb, lr⟩, lt⟩ now a p v = (balB ⟨⟨kj, lj, sj⟩, ⟨kp, lb, lr⟩, lt⟩ && ((decide (0 ≤ now) && decide (now ≤ 100000)) && (flowOkB a p && (decide (0 ≤ v) && decide (v < 6))))) from rfl)
 have HCB := hide (fun W => l6nowB_any now W)
 clear h1 h2 h4 hnj hnt hf hO HFB
 obtain ⟨bb, hbb⟩ : ∃ x, balB ⟨⟨kj, lj, sj⟩, ⟨kp, lb, lr⟩, lt⟩ = x := ⟨_, rfl⟩
 obtain ⟨mr, hmr⟩ : ∃ r, learn0M ⟨⟨kj, lj, sj⟩, ⟨kp, lb, lr⟩, lt⟩ now a p v = r := ⟨_, rfl⟩
 obtain ⟨fl, hfl⟩ : ∃ r, learnB ⟨⟨kj, lj, sj⟩, ⟨kp, lb, lr⟩, lt⟩ now a p v = r := ⟨_, rfl⟩
 obtain ⟨cb9, hcb⟩ : ∃ r, (decide (0 ≤ now) && decide (now ≤ 100000)) = r := ⟨_, rfl⟩
 obtain ⟨fo, hfo⟩ : ∃ r, flowOkB a p = r := ⟨_, rfl⟩
 rw [hmr, hfl]
 rw [hbb] at HBO HCR HCF HF0
 rw [hmr, hfl] at HM
 rw [hfl] at HF0
 rw [hcb] at HF0 HCB HCR
 rw [hfo] at HF0 HCR
 have HFO := hide hfo
 clear hbb hmr hfl hcb hfo
 obtain ⟨W0, hW0⟩ : ∃ W, (((w.alloc (.cells #[.int .i64 kj, .slice o nj c, .int .i64 sj, .int .i64 kp, .slice ob np cb, .slice oR nr cR, .slice ot nt ct] 47)).alloc (.cells #[.int .i64 a, .int .i64 p] 51)).alloc (.cells #[.int .i64 0, .slice none 0 0, .int .i64 0, .int .i64 0, .slice none 0 0, .slice none 0 0, .slice none 0 0] 47)) = W := ⟨_, rfl⟩
 have hb_W0 : Below w.heap.size w W0 := by rw [← hW0]; exact ((((Below.refl _ _).alloc (Nat.le_refl _) _).alloc (by simp <;> omega) _).alloc (by simp <;> omega) _)
 have HB := hide hb_W0
 clear hb_W0
 have zz : w.heap.size < W0.heap.size := by rw [← hW0]; simp <;> omega
 have z0 : W0.cell? ⟨w.heap.size, 0, none⟩ = some (.int .i64 kj) := by rw [← hW0]; simp [go_sem]
 have z1 : W0.cell? ⟨w.heap.size, 1, none⟩ = some (.slice o nj c) := by rw [← hW0]; simp [go_sem]
 have z2 : W0.cell? ⟨w.heap.size, 2, none⟩ = some (.int .i64 sj) := by rw [← hW0]; simp [go_sem]
 have z3 : W0.cell? ⟨w.heap.size, 3, none⟩ = some (.int .i64 kp) := by rw [← hW0]; simp [go_sem]
 have z4 : W0.cell? ⟨w.heap.size, 4, none⟩ = some (.slice ob np cb) := by rw [← hW0]; simp [go_sem]
 have z5 : W0.cell? ⟨w.heap.size, 5, none⟩ = some (.slice oR nr cR) := by rw [← hW0]; simp [go_sem]
 have z6 : W0.cell? ⟨w.heap.size, 6, none⟩ = some (.slice ot nt ct) := by rw [← hW0]; simp [go_sem]
 have zx : w.heap.size + 1 < W0.heap.size := by rw [← hW0]; simp <;> omega
 have x0 : W0.cell? ⟨w.heap.size + 1, 0, none⟩ = some (.int .i64 a) := by rw [← hW0]; simp [go_sem]
 have x1 : W0.cell? ⟨w.heap.size + 1, 1, none⟩ = some (.int .i64 p) := by rw [← hW0]; simp [go_sem]
 have zr : w.heap.size + 1 + 1 < W0.heap.size := by rw [← hW0]; simp
 have r0 : W0.cell? ⟨w.heap.size + 1 + 1, 0, none⟩ = some (.int .i64 0) := by rw [← hW0]; simp [go_sem]
 have r1 : W0.cell? ⟨w.heap.size + 1 + 1, 1, none⟩ = some (.slice none 0 0) := by rw [← hW0]; simp [go_sem]
 have r2 : W0.cell? ⟨w.heap.size + 1 + 1, 2, none⟩ = some (.int .i64 0) := by rw [← hW0]; simp [go_sem]
 have r3 : W0.cell? ⟨w.heap.size + 1 + 1, 3, none⟩ = some (.int .i64 0) := by rw [← hW0]; simp [go_sem]
 have r4 : W0.cell? ⟨w.heap.size + 1 + 1, 4, none⟩ = some (.slice none 0 0) := by rw [← hW0]; simp [go_sem]
 have r5 : W0.cell? ⟨w.heap.size + 1 + 1, 5, none⟩ = some (.slice none 0 0) := by rw [← hW0]; simp [go_sem]
 have r6 : W0.cell? ⟨w.heap.size + 1 + 1, 6, none⟩ = some (.slice none 0 0) := by rw [← hW0]; simp [go_sem]
 have fr0 : W0.frozen? ⟨w.heap.size + 1 + 1, 0, none⟩ = false := by rw [← hW0]; simp [go_sem]
 have fr1 : W0.frozen? ⟨w.heap.size + 1 + 1, 1, none⟩ = false := by rw [← hW0]; simp [go_sem]
 have fr2 : W0.frozen? ⟨w.heap.size + 1 + 1, 2, none⟩ = false := by rw [← hW0]; simp [go_sem]
 have fr3 : W0.frozen? ⟨w.heap.size + 1 + 1, 3, none⟩ = false := by rw [← hW0]; simp [go_sem]
 have fr4 : W0.frozen? ⟨w.heap.size + 1 + 1, 4, none⟩ = false := by rw [← hW0]; simp [go_sem]
 have fr5 : W0.frozen? ⟨w.heap.size + 1 + 1, 5, none⟩ = false := by rw [← hW0]; simp [go_sem]
 have fr6 : W0.frozen? ⟨w.heap.size + 1 + 1, 6, none⟩ = false := by rw [← hW0]; simp [go_sem]
 have hzr : w.heap.size + 1 + 1 < W0.heap.size := zr
 cases bb with
 | false =>
  go_enter Tryz.func6, Tryz.ntmps6
  go_wp2_with fail
  refine (HBO.out W0 HB.out).mono ?_
  rintro e v1 ⟨rfl, hb⟩
  have HS1 := hide hb.size
  replace z0 := bC hb z0 zz
  replace z1 := bC hb z1 zz
  replace z2 := bC hb z2 zz
  replace z3 := bC hb z3 zz
  replace z4 := bC hb z4 zz
  replace z5 := bC hb z5 zz
  replace z6 := bC hb z6 zz
  replace zz := Nat.lt_of_lt_of_le zz hb.size
  replace x0 := bC hb x0 zx
  replace x1 := bC hb x1 zx
  replace zx := Nat.lt_of_lt_of_le zx hb.size
  replace r0 := bC hb r0 zr
  replace r1 := bC hb r1 zr
  replace r2 := bC hb r2 zr
  replace r3 := bC hb r3 zr
  replace r4 := bC hb r4 zr
  replace r5 := bC hb r5 zr
  replace r6 := bC hb r6 zr
  replace fr0 := bF hb fr0 zr
  replace fr1 := bF hb fr1 zr
  replace fr2 := bF hb fr2 zr
  replace fr3 := bF hb fr3 zr
  replace fr4 := bF hb fr4 zr
  replace fr5 := bF hb fr5 zr
  replace fr6 := bF hb fr6 zr
  replace zr := Nat.lt_of_lt_of_le zr hb.size
  replace HB := hide (HB.out.trans (hb.mono HB.out.size))
  clear hb
  clear HBO HCB
  have e0 : fl = false := by rw [HF0.out]; first | (simp [*]; done) | (simp; omega)
  subst e0
  go_wp2
  refine bodyPost_ret (v := .tuple #[balv 0 (.slice none 0 0) 0 0 (.slice none 0 0) (.slice none 0 0) (.slice none 0 0), .bool false]) (by simp [results, Tryz.results6, go_sem, r0, r1, r2, r3, r4, r5, r6]) rfl ⟨_, rfl, ?_, setB_below HB.out (by omega) _ _ _ _ _ _ _⟩
  rw [HM.out, setB_size]
  exact bm0_ow _ _ _
 | true =>
  cases cb9 with
  | false =>
   go_enter Tryz.func6, Tryz.ntmps6
   go_wp2_with fail
   refine (HBO.out W0 HB.out).mono ?_
   rintro e v1 ⟨rfl, hb⟩
   have HS1 := hide hb.size
   replace z0 := bC hb z0 zz
   replace z1 := bC hb z1 zz
   replace z2 := bC hb z2 zz
   replace z3 := bC hb z3 zz
   replace z4 := bC hb z4 zz
   replace z5 := bC hb z5 zz
   replace z6 := bC hb z6 zz
   replace zz := Nat.lt_of_lt_of_le zz hb.size
   replace x0 := bC hb x0 zx
   replace x1 := bC hb x1 zx
   replace zx := Nat.lt_of_lt_of_le zx hb.size
   replace r0 := bC hb r0 zr
   replace r1 := bC hb r1 zr
   replace r2 := bC hb r2 zr
   replace r3 := bC hb r3 zr
   replace r4 := bC hb r4 zr
   replace r5 := bC hb r5 zr
   replace r6 := bC hb r6 zr
   replace fr0 := bF hb fr0 zr
   replace fr1 := bF hb fr1 zr
   replace fr2 := bF hb fr2 zr
   replace fr3 := bF hb fr3 zr
   replace fr4 := bF hb fr4 zr
   replace fr5 := bF hb fr5 zr
   replace fr6 := bF hb fr6 zr
   replace zr := Nat.lt_of_lt_of_le zr hb.size
   replace HB := hide (HB.out.trans (hb.mono HB.out.size))
   clear hb
   clear HBO
   have hck := HCB.out v1
   go_wp2_with fail
   refine (hck).mono ?_
   rintro e v2 ⟨rfl, hb⟩
   have HS2 := hide (Nat.le_trans HS1.out hb.size)
   replace z0 := bC hb z0 zz
   replace z1 := bC hb z1 zz
   replace z2 := bC hb z2 zz
   replace z3 := bC hb z3 zz
   replace z4 := bC hb z4 zz
   replace z5 := bC hb z5 zz
   replace z6 := bC hb z6 zz
   replace zz := Nat.lt_of_lt_of_le zz hb.size
   replace x0 := bC hb x0 zx
   replace x1 := bC hb x1 zx
   replace zx := Nat.lt_of_lt_of_le zx hb.size
   replace r0 := bC hb r0 zr
   replace r1 := bC hb r1 zr
   replace r2 := bC hb r2 zr
   replace r3 := bC hb r3 zr
   replace r4 := bC hb r4 zr
   replace r5 := bC hb r5 zr
   replace r6 := bC hb r6 zr
   replace fr0 := bF hb fr0 zr
   replace fr1 := bF hb fr1 zr
   replace fr2 := bF hb fr2 zr
   replace fr3 := bF hb fr3 zr
   replace fr4 := bF hb fr4 zr
   replace fr5 := bF hb fr5 zr
   replace fr6 := bF hb fr6 zr
   replace zr := Nat.lt_of_lt_of_le zr hb.size
   replace HB := hide (HB.out.trans (hb.mono HB.out.size))
   clear hb
   clear hck HCB
   have e0 : fl = false := by rw [HF0.out]; first | (simp [*]; done) | (simp; omega)
   subst e0
   go_wp2
   refine bodyPost_ret (v := .tuple #[balv 0 (.slice none 0 0) 0 0 (.slice none 0 0) (.slice none 0 0) (.slice none 0 0), .bool false]) (by simp [results, Tryz.results6, go_sem, r0, r1, r2, r3, r4, r5, r6]) rfl ⟨_, rfl, ?_, setB_below HB.out (by omega) _ _ _ _ _ _ _⟩
   rw [HM.out, setB_size]
   exact bm0_ow _ _ _
  | true =>
   cases fo with
   | false =>
    go_enter Tryz.func6, Tryz.ntmps6
    go_wp2_with fail
    refine (HBO.out W0 HB.out).mono ?_
    rintro e v1 ⟨rfl, hb⟩
    have HS1 := hide hb.size
    replace z0 := bC hb z0 zz
    replace z1 := bC hb z1 zz
    replace z2 := bC hb z2 zz
    replace z3 := bC hb z3 zz
    replace z4 := bC hb z4 zz
    replace z5 := bC hb z5 zz
    replace z6 := bC hb z6 zz
    replace zz := Nat.lt_of_lt_of_le zz hb.size
    replace x0 := bC hb x0 zx
    replace x1 := bC hb x1 zx
    replace zx := Nat.lt_of_lt_of_le zx hb.size
    replace r0 := bC hb r0 zr
    replace r1 := bC hb r1 zr
    replace r2 := bC hb r2 zr
    replace r3 := bC hb r3 zr
    replace r4 := bC hb r4 zr
    replace r5 := bC hb r5 zr
    replace r6 := bC hb r6 zr
    replace fr0 := bF hb fr0 zr
    replace fr1 := bF hb fr1 zr
    replace fr2 := bF hb fr2 zr
    replace fr3 := bF hb fr3 zr
    replace fr4 := bF hb fr4 zr
    replace fr5 := bF hb fr5 zr
    replace fr6 := bF hb fr6 zr
    replace zr := Nat.lt_of_lt_of_le zr hb.size
    replace HB := hide (HB.out.trans (hb.mono HB.out.size))
    clear hb
    clear HBO
    have hck := HCB.out v1
    go_wp2_with fail
    refine (hck).mono ?_
    rintro e v2 ⟨rfl, hb⟩
    have HS2 := hide (Nat.le_trans HS1.out hb.size)
    replace z0 := bC hb z0 zz
    replace z1 := bC hb z1 zz
    replace z2 := bC hb z2 zz
    replace z3 := bC hb z3 zz
    replace z4 := bC hb z4 zz
    replace z5 := bC hb z5 zz
    replace z6 := bC hb z6 zz
    replace zz := Nat.lt_of_lt_of_le zz hb.size
    replace x0 := bC hb x0 zx
    replace x1 := bC hb x1 zx
    replace zx := Nat.lt_of_lt_of_le zx hb.size
    replace r0 := bC hb r0 zr
    replace r1 := bC hb r1 zr
    replace r2 := bC hb r2 zr
    replace r3 := bC hb r3 zr
    replace r4 := bC hb r4 zr
    replace r5 := bC hb r5 zr
    replace r6 := bC hb r6 zr
    replace fr0 := bF hb fr0 zr
    replace fr1 := bF hb fr1 zr
    replace fr2 := bF hb fr2 zr
    replace fr3 := bF hb fr3 zr
    replace fr4 := bF hb fr4 zr
    replace fr5 := bF hb fr5 zr
    replace fr6 := bF hb fr6 zr
    replace zr := Nat.lt_of_lt_of_le zr hb.size
    replace HB := hide (HB.out.trans (hb.mono HB.out.size))
    clear hb
    clear hck HCB
    have hfl := specFlowOk_any a p v2
    rw [HFO.out] at hfl
    go_wp2_with fail
    refine (hfl).mono ?_
    rintro e v3 ⟨rfl, hb⟩
    have HS3 := hide (Nat.le_trans HS2.out hb.size)
    replace z0 := bC hb z0 zz
    replace z1 := bC hb z1 zz
    replace z2 := bC hb z2 zz
    replace z3 := bC hb z3 zz
    replace z4 := bC hb z4 zz
    replace z5 := bC hb z5 zz
    replace z6 := bC hb z6 zz
    replace zz := Nat.lt_of_lt_of_le zz hb.size
    replace x0 := bC hb x0 zx
    replace x1 := bC hb x1 zx
    replace zx := Nat.lt_of_lt_of_le zx hb.size
    replace r0 := bC hb r0 zr
    replace r1 := bC hb r1 zr
    replace r2 := bC hb r2 zr
    replace r3 := bC hb r3 zr
    replace r4 := bC hb r4 zr
    replace r5 := bC hb r5 zr
    replace r6 := bC hb r6 zr
    replace fr0 := bF hb fr0 zr
    replace fr1 := bF hb fr1 zr
    replace fr2 := bF hb fr2 zr
    replace fr3 := bF hb fr3 zr
    replace fr4 := bF hb fr4 zr
    replace fr5 := bF hb fr5 zr
    replace fr6 := bF hb fr6 zr
    replace zr := Nat.lt_of_lt_of_le zr hb.size
    replace HB := hide (HB.out.trans (hb.mono HB.out.size))
    clear hb
    clear hfl HFO
    have e0 : fl = false := by rw [HF0.out]; first | (simp [*]; done) | (simp; omega)
    subst e0
    go_wp2
    refine bodyPost_ret (v := .tuple #[balv 0 (.slice none 0 0) 0 0 (.slice none 0 0) (.slice none 0 0) (.slice none 0 0), .bool false]) (by simp [results, Tryz.results6, go_sem, r0, r1, r2, r3, r4, r5, r6]) rfl ⟨_, rfl, ?_, setB_below HB.out (by omega) _ _ _ _ _ _ _⟩
    rw [HM.out, setB_size]
    exact bm0_ow _ _ _
   | true =>
    by_cases hv0 : v < 0
    ·have hv0' : ¬ (0 ≤ v) := by omega
     go_enter Tryz.func6, Tryz.ntmps6
     go_wp2_with fail
     refine (HBO.out W0 HB.out).mono ?_
     rintro e v1 ⟨rfl, hb⟩
     have HS1 := hide hb.size
     replace z0 := bC hb z0 zz
     replace z1 := bC hb z1 zz
     replace z2 := bC hb z2 zz
     replace z3 := bC hb z3 zz
     replace z4 := bC hb z4 zz
     replace z5 := bC hb z5 zz
     replace z6 := bC hb z6 zz
     replace zz := Nat.lt_of_lt_of_le zz hb.size
     replace x0 := bC hb x0 zx
     replace x1 := bC hb x1 zx
     replace zx := Nat.lt_of_lt_of_le zx hb.size
     replace r0 := bC hb r0 zr
     replace r1 := bC hb r1 zr
     replace r2 := bC hb r2 zr
     replace r3 := bC hb r3 zr
     replace r4 := bC hb r4 zr
     replace r5 := bC hb r5 zr
     replace r6 := bC hb r6 zr
     replace fr0 := bF hb fr0 zr
     replace fr1 := bF hb fr1 zr
     replace fr2 := bF hb fr2 zr
     replace fr3 := bF hb fr3 zr
     replace fr4 := bF hb fr4 zr
     replace fr5 := bF hb fr5 zr
     replace fr6 := bF hb fr6 zr
     replace zr := Nat.lt_of_lt_of_le zr hb.size
     replace HB := hide (HB.out.trans (hb.mono HB.out.size))
     clear hb
     clear HBO
     have hck := HCB.out v1
     go_wp2_with fail
     refine (hck).mono ?_
     rintro e v2 ⟨rfl, hb⟩
     have HS2 := hide (Nat.le_trans HS1.out hb.size)
     replace z0 := bC hb z0 zz
     replace z1 := bC hb z1 zz
     replace z2 := bC hb z2 zz
     replace z3 := bC hb z3 zz
     replace z4 := bC hb z4 zz
     replace z5 := bC hb z5 zz
     replace z6 := bC hb z6 zz
     replace zz := Nat.lt_of_lt_of_le zz hb.size
     replace x0 := bC hb x0 zx
     replace x1 := bC hb x1 zx
     replace zx := Nat.lt_of_lt_of_le zx hb.size
     replace r0 := bC hb r0 zr
     replace r1 := bC hb r1 zr
     replace r2 := bC hb r2 zr
     replace r3 := bC hb r3 zr
     replace r4 := bC hb r4 zr
     replace r5 := bC hb r5 zr
     replace r6 := bC hb r6 zr
     replace fr0 := bF hb fr0 zr
     replace fr1 := bF hb fr1 zr
     replace fr2 := bF hb fr2 zr
     replace fr3 := bF hb fr3 zr
     replace fr4 := bF hb fr4 zr
     replace fr5 := bF hb fr5 zr
     replace fr6 := bF hb fr6 zr
     replace zr := Nat.lt_of_lt_of_le zr hb.size
     replace HB := hide (HB.out.trans (hb.mono HB.out.size))
     clear hb
     clear hck HCB
     have hfl := specFlowOk_any a p v2
     rw [HFO.out] at hfl
     go_wp2_with fail
     refine (hfl).mono ?_
     rintro e v3 ⟨rfl, hb⟩
     have HS3 := hide (Nat.le_trans HS2.out hb.size)
     replace z0 := bC hb z0 zz
     replace z1 := bC hb z1 zz
     replace z2 := bC hb z2 zz
     replace z3 := bC hb z3 zz
     replace z4 := bC hb z4 zz
     replace z5 := bC hb z5 zz
     replace z6 := bC hb z6 zz
     replace zz := Nat.lt_of_lt_of_le zz hb.size
     replace x0 := bC hb x0 zx
     replace x1 := bC hb x1 zx
     replace zx := Nat.lt_of_lt_of_le zx hb.size
     replace r0 := bC hb r0 zr
     replace r1 := bC hb r1 zr
     replace r2 := bC hb r2 zr
     replace r3 := bC hb r3 zr
     replace r4 := bC hb r4 zr
     replace r5 := bC hb r5 zr
     replace r6 := bC hb r6 zr
     replace fr0 := bF hb fr0 zr
     replace fr1 := bF hb fr1 zr
     replace fr2 := bF hb fr2 zr
     replace fr3 := bF hb fr3 zr
     replace fr4 := bF hb fr4 zr
     replace fr5 := bF hb fr5 zr
     replace fr6 := bF hb fr6 zr
     replace zr := Nat.lt_of_lt_of_le zr hb.size
     replace HB := hide (HB.out.trans (hb.mono HB.out.size))
     clear hb
     clear hfl HFO
     have e0 : fl = false := by rw [HF0.out]; first | (simp [*]; done) | (simp; omega)
     subst e0
     go_wp2
     refine bodyPost_ret (v := .tuple #[balv 0 (.slice none 0 0) 0 0 (.slice none 0 0) (.slice none 0 0) (.slice none 0 0), .bool false]) (by simp [results, Tryz.results6, go_sem, r0, r1, r2, r3, r4, r5, r6]) rfl ⟨_, rfl, ?_, setB_below HB.out (by omega) _ _ _ _ _ _ _⟩
     rw [HM.out, setB_size]
     exact bm0_ow _ _ _
    ·by_cases hv6 : 6 ≤ v
     ·have hv6' : ¬ (v < 6) := by omega
      go_enter Tryz.func6, Tryz.ntmps6
      go_wp2_with fail
      refine (HBO.out W0 HB.out).mono ?_
      rintro e v1 ⟨rfl, hb⟩
      have HS1 := hide hb.size
      replace z0 := bC hb z0 zz
      replace z1 := bC hb z1 zz
      replace z2 := bC hb z2 zz
      replace z3 := bC hb z3 zz
      replace z4 := bC hb z4 zz
      replace z5 := bC hb z5 zz
      replace z6 := bC hb z6 zz
      replace zz := Nat.lt_of_lt_of_le zz hb.size
      replace x0 := bC hb x0 zx
      replace x1 := bC hb x1 zx
      replace zx := Nat.lt_of_lt_of_le zx hb.size
      replace r0 := bC hb r0 zr
      replace r1 := bC hb r1 zr
      replace r2 := bC hb r2 zr
      replace r3 := bC hb r3 zr
      replace r4 := bC hb r4 zr
      replace r5 := bC hb r5 zr
      replace r6 := bC hb r6 zr
      replace fr0 := bF hb fr0 zr
      replace fr1 := bF hb fr1 zr
      replace fr2 := bF hb fr2 zr
      replace fr3 := bF hb fr3 zr
      replace fr4 := bF hb fr4 zr
      replace fr5 := bF hb fr5 zr
      replace fr6 := bF hb fr6 zr
      replace zr := Nat.lt_of_lt_of_le zr hb.size
      replace HB := hide (HB.out.trans (hb.mono HB.out.size))
      clear hb
      clear HBO
      have hck := HCB.out v1
      go_wp2_with fail
      refine (hck).mono ?_
      rintro e v2 ⟨rfl, hb⟩
      have HS2 := hide (Nat.le_trans HS1.out hb.size)
      replace z0 := bC hb z0 zz
      replace z1 := bC hb z1 zz
      replace z2 := bC hb z2 zz
      replace z3 := bC hb z3 zz
      replace z4 := bC hb z4 zz
      replace z5 := bC hb z5 zz
      replace z6 := bC hb z6 zz
      replace zz := Nat.lt_of_lt_of_le zz hb.size
      replace x0 := bC hb x0 zx
      replace x1 := bC hb x1 zx
      replace zx := Nat.lt_of_lt_of_le zx hb.size
      replace r0 := bC hb r0 zr
      replace r1 := bC hb r1 zr
      replace r2 := bC hb r2 zr
      replace r3 := bC hb r3 zr
      replace r4 := bC hb r4 zr
      replace r5 := bC hb r5 zr
      replace r6 := bC hb r6 zr
      replace fr0 := bF hb fr0 zr
      replace fr1 := bF hb fr1 zr
      replace fr2 := bF hb fr2 zr
      replace fr3 := bF hb fr3 zr
      replace fr4 := bF hb fr4 zr
      replace fr5 := bF hb fr5 zr
      replace fr6 := bF hb fr6 zr
      replace zr := Nat.lt_of_lt_of_le zr hb.size
      replace HB := hide (HB.out.trans (hb.mono HB.out.size))
      clear hb
      clear hck HCB
      have hfl := specFlowOk_any a p v2
      rw [HFO.out] at hfl
      go_wp2_with fail
      refine (hfl).mono ?_
      rintro e v3 ⟨rfl, hb⟩
      have HS3 := hide (Nat.le_trans HS2.out hb.size)
      replace z0 := bC hb z0 zz
      replace z1 := bC hb z1 zz
      replace z2 := bC hb z2 zz
      replace z3 := bC hb z3 zz
      replace z4 := bC hb z4 zz
      replace z5 := bC hb z5 zz
      replace z6 := bC hb z6 zz
      replace zz := Nat.lt_of_lt_of_le zz hb.size
      replace x0 := bC hb x0 zx
      replace x1 := bC hb x1 zx
      replace zx := Nat.lt_of_lt_of_le zx hb.size
      replace r0 := bC hb r0 zr
      replace r1 := bC hb r1 zr
      replace r2 := bC hb r2 zr
      replace r3 := bC hb r3 zr
      replace r4 := bC hb r4 zr
      replace r5 := bC hb r5 zr
      replace r6 := bC hb r6 zr
      replace fr0 := bF hb fr0 zr
      replace fr1 := bF hb fr1 zr
      replace fr2 := bF hb fr2 zr
      replace fr3 := bF hb fr3 zr
      replace fr4 := bF hb fr4 zr
      replace fr5 := bF hb fr5 zr
      replace fr6 := bF hb fr6 zr
      replace zr := Nat.lt_of_lt_of_le zr hb.size
      replace HB := hide (HB.out.trans (hb.mono HB.out.size))
      clear hb
      clear hfl HFO
      have e0 : fl = false := by rw [HF0.out]; first | (simp [*]; done) | (simp; omega)
      subst e0
      go_wp2
      refine bodyPost_ret (v := .tuple #[balv 0 (.slice none 0 0) 0 0 (.slice none 0 0) (.slice none 0 0) (.slice none 0 0), .bool false]) (by simp [results, Tryz.results6, go_sem, r0, r1, r2, r3, r4, r5, r6]) rfl ⟨_, rfl, ?_, setB_below HB.out (by omega) _ _ _ _ _ _ _⟩
      rw [HM.out, setB_size]
      exact bm0_ow _ _ _
     ·have hv6' : v < 6 := by omega
      have hv0' : 0 ≤ v := by omega
      have HC2 := hide (HCR.out rfl rfl rfl)
      have hf9 := HCF.out rfl
      clear HCR HCF
      have e0 : fl = true := by rw [HF0.out]; simp [*]
      subst e0
      clear HF0
      go_enter Tryz.func6, Tryz.ntmps6
      go_wp2_with fail
      refine (HBO.out W0 HB.out).mono ?_
      rintro e v1 ⟨rfl, hb⟩
      have HS1 := hide hb.size
      replace z0 := bC hb z0 zz
      replace z1 := bC hb z1 zz
      replace z2 := bC hb z2 zz
      replace z3 := bC hb z3 zz
      replace z4 := bC hb z4 zz
      replace z5 := bC hb z5 zz
      replace z6 := bC hb z6 zz
      replace zz := Nat.lt_of_lt_of_le zz hb.size
      replace x0 := bC hb x0 zx
      replace x1 := bC hb x1 zx
      replace zx := Nat.lt_of_lt_of_le zx hb.size
      replace r0 := bC hb r0 zr
      replace r1 := bC hb r1 zr
      replace r2 := bC hb r2 zr
      replace r3 := bC hb r3 zr
      replace r4 := bC hb r4 zr
      replace r5 := bC hb r5 zr
      replace r6 := bC hb r6 zr
      replace fr0 := bF hb fr0 zr
      replace fr1 := bF hb fr1 zr
      replace fr2 := bF hb fr2 zr
      replace fr3 := bF hb fr3 zr
      replace fr4 := bF hb fr4 zr
      replace fr5 := bF hb fr5 zr
      replace fr6 := bF hb fr6 zr
      replace zr := Nat.lt_of_lt_of_le zr hb.size
      replace HB := hide (HB.out.trans (hb.mono HB.out.size))
      clear hb
      clear HBO
      have hck := HCB.out v1
      go_wp2_with fail
      refine (hck).mono ?_
      rintro e v2 ⟨rfl, hb⟩
      have HS2 := hide (Nat.le_trans HS1.out hb.size)
      replace z0 := bC hb z0 zz
      replace z1 := bC hb z1 zz
      replace z2 := bC hb z2 zz
      replace z3 := bC hb z3 zz
      replace z4 := bC hb z4 zz
      replace z5 := bC hb z5 zz
      replace z6 := bC hb z6 zz
      replace zz := Nat.lt_of_lt_of_le zz hb.size
      replace x0 := bC hb x0 zx
      replace x1 := bC hb x1 zx
      replace zx := Nat.lt_of_lt_of_le zx hb.size
      replace r0 := bC hb r0 zr
      replace r1 := bC hb r1 zr
      replace r2 := bC hb r2 zr
      replace r3 := bC hb r3 zr
      replace r4 := bC hb r4 zr
      replace r5 := bC hb r5 zr
      replace r6 := bC hb r6 zr
      replace fr0 := bF hb fr0 zr
      replace fr1 := bF hb fr1 zr
      replace fr2 := bF hb fr2 zr
      replace fr3 := bF hb fr3 zr
      replace fr4 := bF hb fr4 zr
      replace fr5 := bF hb fr5 zr
      replace fr6 := bF hb fr6 zr
      replace zr := Nat.lt_of_lt_of_le zr hb.size
      replace HB := hide (HB.out.trans (hb.mono HB.out.size))
      clear hb
      clear hck HCB
      have hfl := specFlowOk_any a p v2
      rw [HFO.out] at hfl
      go_wp2_with fail
      refine (hfl).mono ?_
      rintro e v3 ⟨rfl, hb⟩
      have HS3 := hide (Nat.le_trans HS2.out hb.size)
      replace z0 := bC hb z0 zz
      replace z1 := bC hb z1 zz
      replace z2 := bC hb z2 zz
      replace z3 := bC hb z3 zz
      replace z4 := bC hb z4 zz
      replace z5 := bC hb z5 zz
      replace z6 := bC hb z6 zz
      replace zz := Nat.lt_of_lt_of_le zz hb.size
      replace x0 := bC hb x0 zx
      replace x1 := bC hb x1 zx
      replace zx := Nat.lt_of_lt_of_le zx hb.size
      replace r0 := bC hb r0 zr
      replace r1 := bC hb r1 zr
      replace r2 := bC hb r2 zr
      replace r3 := bC hb r3 zr
      replace r4 := bC hb r4 zr
      replace r5 := bC hb r5 zr
      replace r6 := bC hb r6 zr
      replace fr0 := bF hb fr0 zr
      replace fr1 := bF hb fr1 zr
      replace fr2 := bF hb fr2 zr
      replace fr3 := bF hb fr3 zr
      replace fr4 := bF hb fr4 zr
      replace fr5 := bF hb fr5 zr
      replace fr6 := bF hb fr6 zr
      replace zr := Nat.lt_of_lt_of_le zr hb.size
      replace HB := hide (HB.out.trans (hb.mono HB.out.size))
      clear hb
      clear hfl HFO
      go_wp2_with fail
      refine (HC2.out v3 HB.out).mono ?_
      rintro e v4 ⟨vc, rfl, inc, hb⟩
      have HIC := hide inc
      have HS4 := hide (Nat.le_trans HS3.out hb.size)
      clear inc
      replace z0 := bC hb z0 zz
      replace z1 := bC hb z1 zz
      replace z2 := bC hb z2 zz
      replace z3 := bC hb z3 zz
      replace z4 := bC hb z4 zz
      replace z5 := bC hb z5 zz
      replace z6 := bC hb z6 zz
      replace zz := Nat.lt_of_lt_of_le zz hb.size
      replace x0 := bC hb x0 zx
      replace x1 := bC hb x1 zx
      replace zx := Nat.lt_of_lt_of_le zx hb.size
      replace r0 := bC hb r0 zr
      replace r1 := bC hb r1 zr
      replace r2 := bC hb r2 zr
      replace r3 := bC hb r3 zr
      replace r4 := bC hb r4 zr
      replace r5 := bC hb r5 zr
      replace r6 := bC hb r6 zr
      replace fr0 := bF hb fr0 zr
      replace fr1 := bF hb fr1 zr
      replace fr2 := bF hb fr2 zr
      replace fr3 := bF hb fr3 zr
      replace fr4 := bF hb fr4 zr
      replace fr5 := bF hb fr5 zr
      replace fr6 := bF hb fr6 zr
      replace zr := Nat.lt_of_lt_of_le zr hb.size
      replace HB := hide (HB.out.trans (hb.mono HB.out.size))
      clear hb
      clear HC2
      obtain ⟨cm, hcm⟩ : ∃ x, learnM ⟨⟨kj, lj, sj⟩, ⟨kp, lb, lr⟩, lt⟩ now a p v = x := ⟨_, rfl⟩
      rw [hcm] at HIC hf9 HM
      clear hcm
      obtain ⟨kk, hkk⟩ : ∃ x, cm.j.key = x := ⟨_, rfl⟩
      obtain ⟨nn, hnn⟩ : ∃ x, cm.j.l.length = x := ⟨_, rfl⟩
      obtain ⟨ss, hss⟩ : ∃ x, cm.j.safe = x := ⟨_, rfl⟩
      obtain ⟨kk2, hkk2⟩ : ∃ x, cm.p.key = x := ⟨_, rfl⟩
      obtain ⟨nn2, hnn2⟩ : ∃ x, cm.p.l.length = x := ⟨_, rfl⟩
      obtain ⟨nn3, hnn3⟩ : ∃ x, cm.p.ring.length = x := ⟨_, rfl⟩
      obtain ⟨nn4, hnn4⟩ : ∃ x, cm.t.length = x := ⟨_, rfl⟩
      have HOW := hide (l7own_or HIC.out hf9)
      have HE7 := hide (And.intro hkk (And.intro hnn (And.intro hss (And.intro hkk2 (And.intro hnn2 (And.intro hnn3 hnn4))))))
      clear hkk hnn hss hkk2 hnn2 hnn3 hnn4 HIC hf9
      go_wp2_with fail
      refine (HOW.out).mono ?_
      rintro e v5 ⟨vo, rfl, ino, hb⟩
      have HIO := hide ino
      clear ino
      replace z0 := bC hb z0 zz
      replace z1 := bC hb z1 zz
      replace z2 := bC hb z2 zz
      replace z3 := bC hb z3 zz
      replace z4 := bC hb z4 zz
      replace z5 := bC hb z5 zz
      replace z6 := bC hb z6 zz
      replace zz := Nat.lt_of_lt_of_le zz hb.size
      replace x0 := bC hb x0 zx
      replace x1 := bC hb x1 zx
      replace zx := Nat.lt_of_lt_of_le zx hb.size
      replace r0 := bC hb r0 zr
      replace r1 := bC hb r1 zr
      replace r2 := bC hb r2 zr
      replace r3 := bC hb r3 zr
      replace r4 := bC hb r4 zr
      replace r5 := bC hb r5 zr
      replace r6 := bC hb r6 zr
      replace fr0 := bF hb fr0 zr
      replace fr1 := bF hb fr1 zr
      replace fr2 := bF hb fr2 zr
      replace fr3 := bF hb fr3 zr
      replace fr4 := bF hb fr4 zr
      replace fr5 := bF hb fr5 zr
      replace fr6 := bF hb fr6 zr
      replace zr := Nat.lt_of_lt_of_le zr hb.size
      replace HB := hide (HB.out.trans (hb.mono HB.out.size))
      clear hb
      clear HOW
      obtain ⟨o9, c9, ob9, cb9, oR9, cR9, ot9, ct9, e9⟩ := HIO.out.rd.opn
      rw [HE7.out.1, HE7.out.2.1, HE7.out.2.2.1, HE7.out.2.2.2.1, HE7.out.2.2.2.2.1, HE7.out.2.2.2.2.2.1, HE7.out.2.2.2.2.2.2] at e9
      subst e9
      have hs9 := HS4.out
      go_wp2
      refine bodyPost_ret (v := .tuple #[balv kk (.slice o9 nn c9) ss kk2 (.slice ob9 nn2 cb9) (.slice oR9 nn3 cR9) (.slice ot9 nn4 ct9), .bool true]) (by simp [results, Tryz.results6, go_sem, r0, r1, r2, r3, r4, r5, r6]) rfl ⟨_, rfl, ?_, setB_below HB.out (by omega) _ _ _ _ _ _ _⟩
      rw [HM.out]
      exact (HIO.out.step (stp_setB _ _ _ _ _ _ _ _ _) (.inl (by omega))).mono (by omega) (by rw [setB_size]; exact Nat.le_refl _)

end Go.Proofs.YtpjkcgaohoinaaaGreat

namespace Go.Proofs.YtpjkcgaohoinaaaGreat
open Go.ChangeShapes Go.WideShapes Go.ChangeAt Go.RowKit Go.Joins
set_option linter.unusedVariables false
set_option linter.unusedSimpArgs false

theorem full_used {l : List Sl} {a p : Int} (hok : tableOkB l = true) (h : (endL l a p).1 < 0) : ¬ NoneTo l := fun hN => by
 have hn := (tableOkB_iff.1 hok).1
 have hh := homeN_lt (show 0 < l.length by omega) a p
 have hu : (l.getD (homeN l.length a p) sl0).u = false := hN _ hh
 obtain ⟨n, hl⟩ : ∃ n, l.length = n + 1 := ⟨l.length - 1, by omega⟩
 have e : endL l a p = ((homeN l.length a p : Int), false) := by
  unfold endL
  have := wayGo_free (a := a) (p := p) (f := n) hu
  rw [← hl] at this
  exact this
 rw [e] at h
 dsimp only at h
 omega
theorem soonTo_min (l : List Sl) : ∀ k, k ≤ l.length → (soonTo l k = sl0 ∧ ∀ j, j < k → (at' l j).u = false) ∨ ∃ j, j < k ∧ soonTo l k = at' l j ∧ (at' l j).u = true ∧ ∀ i, i < k → (at' l i).u = true → (at' l j).t < (at' l i).t ∨ ((at' l j).t = (at' l i).t ∧ j ≤ i)
 | 0, _ => .inl ⟨rfl, fun j hj => absurd hj (Nat.not_lt_zero _)⟩
 | k + 1, hk => by
  have ih := soonTo_min l k (by omega)
  rw [soonTo_succ (by omega)]
  have hg : l.getD k sl0 = at' l k := rfl
  rw [hg]
  cases hu : (at' l k).u with
  | false =>
   rw [soonStep_free hu]
   rcases ih with ⟨h1, h2⟩ | ⟨j, h1, h2, h3, h4⟩
   ·refine .inl ⟨h1, fun j hj => ?_⟩
    rcases Nat.lt_or_ge j k with h | h
    ·exact h2 j h
    ·rw [show j = k by omega]; exact hu
   ·refine .inr ⟨j, by omega, h2, h3, fun i hi hui => ?_⟩
    rcases Nat.lt_or_ge i k with h | h
    ·exact h4 i h hui
    ·rw [show i = k by omega] at hui; rw [hui] at hu; cases hu
  | true =>
   rcases ih with ⟨h1, h2⟩ | ⟨j, h1, h2, h3, h4⟩
   ·rw [h1, soonStep_first hu rfl]
    refine .inr ⟨k, by omega, rfl, hu, fun i hi hui => ?_⟩
    rcases Nat.lt_or_ge i k with h | h
    ·rw [h2 i h] at hui; cases hui
    ·rw [show i = k by omega]; exact .inr ⟨rfl, Nat.le_refl _⟩
   ·rw [h2]
    by_cases hlt : (at' l k).t < (at' l j).t
    ·rw [soonStep_less hu hlt]
     refine .inr ⟨k, by omega, rfl, hu, fun i hi hui => ?_⟩
     rcases Nat.lt_or_ge i k with h | h
     ·have := h4 i h hui; left; omega
     ·rw [show i = k by omega]; exact .inr ⟨rfl, Nat.le_refl _⟩
    ·rw [soonStep_more h3 hlt]
     refine .inr ⟨j, by omega, rfl, h3, fun i hi hui => ?_⟩
     rcases Nat.lt_or_ge i k with h | h
     ·exact h4 i h hui
     ·rw [show i = k by omega]; omega
theorem next_soon {l : List Sl} {j : Nat} (h16 : l.length ≤ 16) (ht : ∀ i, i < l.length → (at' l i).u = true → 0 ≤ (at' l i).t) (h : NextTo l 0 j) : soonL l = at' l j := by
 obtain ⟨hj, hu, hb⟩ := h
 have hlv : ∀ i, i < l.length → (at' l i).u = true → lvT l 0 i = (at' l i).t := fun i hi hui => by have := ht i hi hui; unfold lvT; omega
 unfold soonL
 rcases soonTo_min l l.length (Nat.le_refl _) with ⟨_, h2⟩ | ⟨i, h1, h2, h3, h4⟩
 ·rw [h2 j hj] at hu; cases hu
 ·rw [h2]
  have e1 := h4 j hj hu
  have e2 := hb i h1 h3
  rw [hlv j hj hu, hlv i h1 h3] at e2
  rw [show i = j by omega]
theorem table_t {l : List Sl} (h : tableOkB l = true) : ∀ i, i < l.length → (at' l i).u = true → 0 ≤ (at' l i).t := fun i hi hu => by
 have h1 := (tableOkB_iff.1 h).2.2 i hi
 unfold tabAt at h1
 have h2 : slotB (at' l i) = true := ((Bool.and_eq_true _ _).mp h1).1
 exact ((slotB_used hu).1 h2).2.2.2.1
theorem learn_next {l : List Sl} {now a p v : Int} {j : Nat} (hok : tableOkB l = true) (hf : (endL l a p).1 < 0) (h : NextTo l 0 j) : learnL l now a p v = putL (dropAtL l j) a p v (now + 50) := by
 have h16 : l.length ≤ 16 := by have := (tableOkB_iff.1 hok).2.1; omega
 unfold learnL
 rw [if_neg (by omega), next_soon h16 (table_t hok) h, dropL_yes (way_at hok h.1 h.2.1)]
theorem learn_room {l : List Sl} {now a p v : Int} (hf : 0 ≤ (endL l a p).1) : learnL l now a p v = putL l a p v (now + 50) := by unfold learnL; rw [if_pos hf]

set_option maxRecDepth 100000 in
set_option maxHeartbeats 4000000 in
theorem learnH_any (g c base n : Nat) (l : List Sl) (now a p v : Int) (w : World) (hn : l.length = n) (hok : tableOkB l = true) (hf : flowOkB a p = true) (hnow : 0 ≤ now ∧ now ≤ 100000) (ho : w.ownsRow base CellT 5 (.slice (some ⟨g, 0, none⟩) n c) n (l.flatMap layS.cs)) :
  Calls Tryz.prog 30 #[tab (.slice (some ⟨g, 0, none⟩) n c), flow a p, .int .i64 v, .int .i64 now] w fun e w' => e = .returned (.tuple #[]) ∧ w'.ownsRow base CellT 5 (.slice (some ⟨g, 0, none⟩) n c) n ((learnL l now a p v).flatMap layS.cs) ∧ Stp g (g + 1) w w' := by
 have hgw := (ho.lt g rfl).2
 have h16 : 1 ≤ n ∧ n ≤ 16 := by have := (tableOkB_iff.1 hok); omega
 obtain ⟨W0, hW0⟩ : ∃ W, (((w.alloc (.cells #[.slice (some ⟨g, 0, none⟩) n c] 74)).alloc (.cells #[.int .i64 a, .int .i64 p] 51)).alloc (.cells #[.int .i64 v, .int .i64 (now + 50)] 114)) = W := ⟨_, rfl⟩
 have hs0 : W0.heap.size = w.heap.size + 3 := by rw [← hW0]; simp
 have hB0 : Below w.heap.size w W0 := by rw [← hW0]; exact ((((Below.refl _ _).alloc (Nat.le_refl _) _).alloc (by simp <;> omega) _).alloc (by simp <;> omega) _)
 have z0 : W0.cell? ⟨w.heap.size, 0, none⟩ = some (.slice (some ⟨g, 0, none⟩) n c) := by rw [← hW0]; simp [go_sem]
 have z1 : W0.cell? ⟨w.heap.size + 1, 0, none⟩ = some (.int .i64 a) := by rw [← hW0]; simp [go_sem]
 have z2 : W0.cell? ⟨w.heap.size + 1, 1, none⟩ = some (.int .i64 p) := by rw [← hW0]; simp [go_sem]
 have z3 : W0.cell? ⟨w.heap.size + 2, 0, none⟩ = some (.int .i64 v) := by rw [← hW0]; simp [go_sem]
 have z4 : W0.cell? ⟨w.heap.size + 2, 1, none⟩ = some (.int .i64 (now + 50)) := by rw [← hW0]; simp [go_sem]
 have HO := hide (own_kept ho hB0)
 have HPT := hide (put_any g c base l a p v (now + 50) W0 (by omega) (by omega) hf (by rw [hn]; exact HO.out))
 rw [hn] at HPT
 have HS0 := hide (Stp.of (lo := g) (hi := g + 1) hB0)
 have HOK := hide hok
 have HN := hide hn
 have HF := hide hf
 clear ho hB0 hok hn hf
 obtain ⟨r, hr⟩ : ∃ r, decide (0 ≤ (endL l a p).1) = r := ⟨_, rfl⟩
 have HR := hide hr
 rw [hr] at HPT
 clear hr
 go_enter Tryz.func30, Tryz.ntmps30
 go_wp2_with fail
 refine HPT.out.mono ?_
 rintro e w1 ⟨rfl, ho1, hst1⟩
 have q0 : w.heap.size < W0.heap.size := by omega
 have q1 : w.heap.size + 1 < W0.heap.size := by omega
 have q2 : w.heap.size + 2 < W0.heap.size := by omega
 have y0 := hst1.cell z0 q0 (.inr (by omega))
 have y1 := hst1.cell z1 q1 (.inr (by omega))
 have y2 := hst1.cell z2 q1 (.inr (by omega))
 have y3 := hst1.cell z3 q2 (.inr (by omega))
 have y4 := hst1.cell z4 q2 (.inr (by omega))
 have hs1 := hst1.size
 have HST1 := hide (HS0.out.trans hst1)
 have HO1 := hide ho1
 clear HPT hst1 ho1 z0 z1 z2 z3 z4 HO HS0
 cases r with
 | true =>
  have HL := hide (learn_room (now := now) (v := v) (of_decide_eq_true HR.out))
  go_wp2
  first | go_end0 | refine bodyPost_ret (results_none rfl _ _ _) rfl ?_
  exact ⟨rfl, by rw [HL.out]; exact HO1.out, HST1.out⟩
 | false =>
  have hful : (endL l a p).1 < 0 := by have := of_decide_eq_false HR.out; omega
  have ho1 := HO1.out
  rw [show putL l a p v (now + 50) = l by unfold putL; rw [if_neg (by omega)]] at ho1
  have HNG := hide (nextToGo_any g 0 c n l 0 w1 HN.out h16.2 (ho1.lt g rfl).2 (rd_of_own ho1 HN.out.symm))
  have HO2 := hide ho1
  have HNN := hide (full_used HOK.out hful)
  have HLN := hide (fun j (h : NextTo l 0 j) => learn_next (now := now) (v := v) HOK.out hful h)
  clear ho1 HO1 hful HR
  go_wp2_with fail
  refine HNG.out.mono ?_
  rintro e w2 ⟨ht, hb2⟩
  rcases ht with ⟨j, hNj, rfl⟩ | ⟨h, _⟩
  case inr => exact absurd h HNN.out
  have HNJ := hide hNj
  have hjn : j < n := by have := hNj.1; have := HN.out; omega
  have r0 : w.heap.size < w1.heap.size := by omega
  have r1 : w.heap.size + 1 < w1.heap.size := by omega
  have r2 : w.heap.size + 2 < w1.heap.size := by omega
  replace y0 := (hb2.cell (p := ⟨w.heap.size, 0, none⟩) r0).trans y0
  replace y1 := (hb2.cell (p := ⟨w.heap.size + 1, 0, none⟩) r1).trans y1
  replace y2 := (hb2.cell (p := ⟨w.heap.size + 1, 1, none⟩) r1).trans y2
  replace y3 := (hb2.cell (p := ⟨w.heap.size + 2, 0, none⟩) r2).trans y3
  replace y4 := (hb2.cell (p := ⟨w.heap.size + 2, 1, none⟩) r2).trans y4
  have hs2 := hb2.size
  obtain ⟨lv, hlv⟩ : ∃ x, lvT l 0 j = x := ⟨_, rfl⟩
  rw [hlv]
  obtain ⟨W3, hW3⟩ : ∃ W, (w2.alloc (.cells #[.int .i64 lv, .int .i64 (j : Int)] 117)) = W := ⟨_, rfl⟩
  have hb3 : Below w2.heap.size w2 W3 := by rw [← hW3]; exact (Below.refl _ _).alloc (Nat.le_refl _) _
  have hs3 : w2.heap.size < W3.heap.size := by rw [← hW3]; simp
  have x1 : W3.cell? ⟨w2.heap.size, 1, none⟩ = some (.int .i64 (j : Int)) := by rw [← hW3]; simp [go_sem]
  have x0 : W3.cell? ⟨w2.heap.size, 0, none⟩ = some (.int .i64 lv) := by rw [← hW3]; simp [go_sem]
  replace y0 := (hb3.cell (p := ⟨w.heap.size, 0, none⟩) (show w.heap.size < w2.heap.size by omega)).trans y0
  replace y1 := (hb3.cell (p := ⟨w.heap.size + 1, 0, none⟩) (show w.heap.size + 1 < w2.heap.size by omega)).trans y1
  replace y2 := (hb3.cell (p := ⟨w.heap.size + 1, 1, none⟩) (show w.heap.size + 1 < w2.heap.size by omega)).trans y2
  replace y3 := (hb3.cell (p := ⟨w.heap.size + 2, 0, none⟩) (show w.heap.size + 2 < w2.heap.size by omega)).trans y3
  replace y4 := (hb3.cell (p := ⟨w.heap.size + 2, 1, none⟩) (show w.heap.size + 2 < w2.heap.size by omega)).trans y4
  have HO3 := hide (own_kept (own_kept HO2.out hb2) hb3)
  have HST3 := hide ((HST1.out.trans (Stp.of hb2)).trans (Stp.of hb3))
  have HDA := hide (dropAt_any g c base n j l W3 HN.out h16.2 hjn (flowsOk_of HOK.out) HO3.out)
  clear hb2 hb3 HNG hNj HO2 HST1 hlv
  go_wp2_with fail
  refine HDA.out.mono ?_
  rintro e w4 ⟨⟨v9, rfl⟩, ho4, hst4⟩
  have y0' := hst4.cell y0 (by omega) (.inr (by omega))
  have y1' := hst4.cell y1 (by omega) (.inr (by omega))
  have y2' := hst4.cell y2 (by omega) (.inr (by omega))
  have y3' := hst4.cell y3 (by omega) (.inr (by omega))
  have y4' := hst4.cell y4 (by omega) (.inr (by omega))
  have hdl : (dropAtL l j).length = n := by rw [dropAtL_length]; exact HN.out
  have HPT := hide (put_any g c base (dropAtL l j) a p v (now + 50) w4 (by omega) (by omega) HF.out (by rw [hdl]; exact ho4))
  rw [hdl] at HPT
  have HST4 := hide (HST3.out.trans hst4)
  clear hdl HDA ho4 hst4 HO3 HST3 y0 y1 y2 y3 y4 x0 x1
  go_wp2_with fail
  refine HPT.out.mono ?_
  rintro e w5 ⟨rfl, ho5, hst5⟩
  have HO5 := hide ho5
  have HST5 := hide (HST4.out.trans hst5)
  have HL := hide (HLN.out j HNJ.out)
  clear ho5 hst5 HPT HST4
  go_wp2
  first | go_end0 | refine bodyPost_ret (results_none rfl _ _ _) rfl ?_
  exact ⟨rfl, by rw [HL.out]; exact HO5.out, HST5.out⟩

end Go.Proofs.YtpjkcgaohoinaaaGreat

