/- Several texts in one: CutP, Cut4, BalMath, SCmdI, ShBal2, ShBal3, BalIn. -/
import Derived.Deep.RegionHeld3
import Derived.Deep.CutRange
import Derived.BigQuiet
import Derived.ChangeKeysEq
import Derived.Laws.StructEq
import Derived.Test.YtmmhgkkcpjhiiaaGreatQLearn31
import Derived.Test.YtmmhgkkcpjhiiaaGreatQLearn32
import Derived.Test.YtmmhgkkcpjhiiaaGreatQLearn11
import Derived.Test.YtmmhgkkcpjhiiaaGreatQLearn40
import Derived.Test.YtmmhgkkcpjhiiaaGreatQLearn10
import Derived.Test.YtmmhgkkcpjhiiaaGreatQLearn35
import Derived.Test.YtmmhgkkcpjhiiaaGreatQLearn36
import Derived.Test.YtmmhgkkcpjhiiaaGreatQLearn29
namespace Go.Proofs.YtmmhgkkcpjhiiaaGreat
open Go.ChangeShapes Go.WideShapes Go.ChangeAt Go.RowKit Go.Joins
set_option linter.unusedVariables false
set_option linter.unusedSimpArgs false

theorem RiPm.stps : Stps RiPm := ⟨fun h s hd => RiPm.step h s hd⟩
theorem InPm.stps : Stps InPm := ⟨fun h s hd => InPm.step h s hd⟩
end Go.Proofs.YtmmhgkkcpjhiiaaGreat

namespace Go.Proofs.YtmmhgkkcpjhiiaaGreat
open Go.ChangeShapes Go.WideShapes Go.ChangeAt Go.RowKit Go.Joins
set_option linter.unusedVariables false
set_option linter.unusedSimpArgs false

theorem InJm.opn {lo hi : Nat} {w : World} {v : Value} {m : Jm} (h : InJm lo hi w v m) : ∃ (o : Option Addr) (c : Nat), v = jrn m.key (.slice o m.l.length c) m.safe := by
 obtain ⟨vl, rfl, ⟨o, c, rfl, _⟩⟩ := h.rd
 exact ⟨o, c, rfl⟩
end Go.Proofs.YtmmhgkkcpjhiiaaGreat

namespace Go.Proofs.YtmmhgkkcpjhiiaaGreat
open Go.ChangeShapes Go.WideShapes Go.ChangeAt Go.RowKit Go.Joins
set_option linter.unusedVariables false
set_option linter.unusedSimpArgs false


theorem movedTo_pos (aa bb : List (List Int)) : ∀ k, 0 ≤ movedTo aa bb k
 | 0 => Int.le_refl _
 | k + 1 => by
  have h := movedTo_pos aa bb k
  unfold movedTo
  split <;> omega
theorem movedTo_zero {aa bb : List (List Int)} : ∀ k, movedTo aa bb k = 0 → ∀ i, i < k → aa.getD i [] = bb.getD i []
 | 0, _, i, hi => absurd hi (Nat.not_lt_zero _)
 | k + 1, h, i, hi => by
  have h0 := movedTo_pos aa bb k
  unfold movedTo at h
  split at h
  ·next e =>
   by_cases hk : i = k
   ·rw [hk]; exact e
   ·exact movedTo_zero k (by omega) i (by omega)
  ·omega
theorem moved_same {aa bb : List (List Int)} (h : movedI aa bb = 0) : aa = bb := by
 unfold movedI at h
 split at h
 ·next e =>
  refine List.ext_getElem (by omega) (fun i h1 h2 => ?_)
  have h3 := movedTo_zero 8 h i (by omega)
  simpa [h1, h2] using h3
 ·omega
theorem samePB_eq {m1 m2 : Pm} (h : samePB m1 m2 = true) : m1 = m2 := by
 unfold samePB ringSame at h
 simp only [Bool.and_eq_true, decide_eq_true_eq, List.all_eq_true, List.mem_range, beq_iff_eq] at h
 obtain ⟨⟨h1, h2⟩, h3, h4⟩ := h
 obtain ⟨k1, l1, r1⟩ := m1
 obtain ⟨k2, l2, r2⟩ := m2
 dsimp only at h1 h2 h3 h4
 subst h1 h2
 have e : r1 = r2 := List.ext_getElem h3 (fun i a b => by
  have h5 := moved_same (h4 i a)
  simpa [a, b] using h5)
 rw [e]
theorem balB_jrn {m : Bm} (h : balB m = true) : journalB m.j.key m.j.l m.j.safe = true := by
 unfold balB at h
 rw [Bool.and_eq_true] at h
 exact h.1
theorem balB_same {m : Bm} (h : balB m = true) : m.p = replayM m.j := by
 unfold balB at h
 simp only [Bool.and_eq_true] at h
 exact (samePB_eq h.2.2).symm
theorem balB_fit {m : Bm} (h : balB m = true) : fitPm m.p := by
 rw [balB_same h]
 exact replay_fit _
end Go.Proofs.YtmmhgkkcpjhiiaaGreat

namespace Go.Proofs.YtmmhgkkcpjhiiaaGreat
open Go.ChangeShapes Go.WideShapes Go.ChangeAt Go.RowKit Go.Joins
set_option linter.unusedVariables false
set_option linter.unusedSimpArgs false


theorem Bx.po {lo : Nat} {w : World} {g xc : Nat} {kj : Int} {vl : Value} {sj kp : Int} {vb vr : Value} {m : Bm} (h : Bx lo w g xc kj vl sj kp vb vr m) : RcPm 0 w.heap.size w (plv m.p.key vb vr) m.p := by
 obtain ⟨j0, j1, p0, p1, k1, k2, k3, k4, k5, k6, k7, i1, i2⟩ := h.mem
 exact i2.rc.le k4
end Go.Proofs.YtmmhgkkcpjhiiaaGreat

namespace Go.Proofs.YtmmhgkkcpjhiiaaGreat
open Go.ChangeShapes Go.WideShapes Go.ChangeAt Go.RowKit Go.Joins
set_option linter.unusedVariables false
set_option linter.unusedSimpArgs false


set_option maxHeartbeats 400000 in
theorem szJournal_n (k s : Int) (o : Option Addr) (len c : Nat) (n : Int) (w : World) (hl : len ≤ maxLen) (h0 : 0 ≤ n) (h1 : n ≤ 1048576) :
  Calls Tryz.prog 131 #[jrn k (.slice o len c) s, .int .i64 n] w fun e w' => e = .returned (.int .i64 (if n - len < 0 then -1 else n - len)) ∧ Below w.heap.size w w' := by
 have hB : Below w.heap.size w w := Below.refl _ _
 have hs := fun W => szPoolCmdS_any o len c n W hl h0 h1
 by_cases h : n - len < 0
 ·rw [if_pos h] at hs
  rw [if_pos h]
  go_enter Tryz.func131, Tryz.ntmps131
  go_wp2_with (go_at_call 245; refine (hs _).mono ?_; rintro e w1 ⟨rfl, rfl⟩)
  go_ret
  exact ⟨rfl, by (repeat (first | with_reducible exact hB | with_reducible exact Below.refl _ _ | with_reducible refine Below.drew ?_ | with_reducible refine below_drewN ?_ _ | with_reducible refine Below.alloc ?_ ?_ _ | with_reducible refine Below.setCell ?_ ?_ _ | (focus (simp; done)) | (focus (simp; omega)) | omega))⟩
 ·rw [if_neg h] at hs
  rw [if_neg h]
  have h' : 0 ≤ n - (len : Int) := by omega
  go_enter Tryz.func131, Tryz.ntmps131
  go_wp2_with (go_at_call 245; refine (hs _).mono ?_; rintro e w1 ⟨rfl, rfl⟩)
  go_ret
  exact ⟨rfl, by (repeat (first | with_reducible exact hB | with_reducible exact Below.refl _ _ | with_reducible refine Below.drew ?_ | with_reducible refine below_drewN ?_ _ | with_reducible refine Below.alloc ?_ ?_ _ | with_reducible refine Below.setCell ?_ ?_ _ | (focus (simp; done)) | (focus (simp; omega)) | omega))⟩
def lenBm (m : Bm) : Prop := m.j.l.length ≤ maxLen ∧ lenPm m.p ∧ m.t.length ≤ maxLen

set_option maxRecDepth 100000 in
set_option maxHeartbeats 2000000 in
theorem szBal_sh (v : Value) (m : Bm) (w : World) (hR : RdBm w.heap.size w v m) (hl : lenBm m) :
  Calls Tryz.prog 46 #[v, .int .i64 1048576] w fun e w' => (∃ z : Int, e = .returned (.int .i64 z) ∧ ((z < 0 ∧ -1 ≤ z) ∨ (0 ≤ z ∧ z ≤ 1048576 ∧ fitB0 m))) ∧ Below w.heap.size w w' := by
 obtain ⟨o, c, ob, cb, oR, cR, ot, ct, rfl⟩ := hR.opn
 obtain ⟨vl, vb, vr, vt, e, a1, a2, a3⟩ := hR
 simp only [Value.agg.injEq, Array.mk.injEq, List.cons.injEq, and_true, true_and] at e
 obtain ⟨e1, e2, e3, e4⟩ := e
 subst e1 e2 e3 e4
 obtain ⟨l1, l2, l3⟩ := hl
 have HJ := hide (fun W => szJournal_n m.j.key m.j.safe o m.j.l.length c 1048576 W l1 (by decide) (by decide))
 have HP := hide (fun W (hb : Below w.heap.size w W) n h0 h1 => szPool_n (plv m.p.key (.slice ob m.p.l.length cb) (.slice oR m.p.ring.length cR)) m.p n W ((a2.kept hb (Nat.le_refl _)).le hb.size) l2 h0 h1)
 have HT := hide (fun W n h0 h1 => szTable_n ot m.t.length ct n W l3 h0 h1)
 have HFI := hide (show m.j.l.length ≤ 1048576 → fitPm m.p → m.t.length ≤ 1048576 → fitB0 m from fun x y z => ⟨x, y, z⟩)
 clear a1 a2 a3 l1 l2 l3
 generalize m.j.l.length = nj at *
 generalize m.p.l.length = np at *
 generalize m.p.ring.length = nr at *
 generalize m.t.length = nt at *
 generalize m.j.key = kj at *
 generalize m.j.safe = sj at *
 generalize m.p.key = kp at *
 obtain ⟨W0, hW0⟩ : ∃ W, (w.alloc (.cells #[.int .i64 kj, .slice o nj c, .int .i64 sj, .int .i64 kp, .slice ob np cb, .slice oR nr cR, .slice ot nt ct] 93)) = W := ⟨_, rfl⟩
 have hb_W0 : Below w.heap.size w W0 := by rw [← hW0]; exact ((Below.refl _ _).alloc (Nat.le_refl _) _)
 have HB := hide hb_W0
 clear hb_W0
 have zz : w.heap.size < W0.heap.size := by rw [← hW0]; simp
 have z0 : W0.cell? ⟨w.heap.size, 0, none⟩ = some (.int .i64 kj) := by rw [← hW0]; simp [go_sem]
 have z1 : W0.cell? ⟨w.heap.size, 1, none⟩ = some (.slice o nj c) := by rw [← hW0]; simp [go_sem]
 have z2 : W0.cell? ⟨w.heap.size, 2, none⟩ = some (.int .i64 sj) := by rw [← hW0]; simp [go_sem]
 have z3 : W0.cell? ⟨w.heap.size, 3, none⟩ = some (.int .i64 kp) := by rw [← hW0]; simp [go_sem]
 have z4 : W0.cell? ⟨w.heap.size, 4, none⟩ = some (.slice ob np cb) := by rw [← hW0]; simp [go_sem]
 have z5 : W0.cell? ⟨w.heap.size, 5, none⟩ = some (.slice oR nr cR) := by rw [← hW0]; simp [go_sem]
 have z6 : W0.cell? ⟨w.heap.size, 6, none⟩ = some (.slice ot nt ct) := by rw [← hW0]; simp [go_sem]
 go_enter Tryz.func46, Tryz.ntmps46
 go_wp2_with fail
 refine (HJ.out W0).mono ?_
 rintro e v1 ⟨rfl, hb⟩
 replace z0 := bC hb z0 zz
 replace z1 := bC hb z1 zz
 replace z2 := bC hb z2 zz
 replace z3 := bC hb z3 zz
 replace z4 := bC hb z4 zz
 replace z5 := bC hb z5 zz
 replace z6 := bC hb z6 zz
 replace zz := Nat.lt_of_lt_of_le zz hb.size
 replace HB := hide (HB.out.trans (hb.mono HB.out.size))
 clear hb
 by_cases hj : (1048576 : Int) - nj < 0
 ·rw [if_pos hj]
  go_wp2
  go_ret
  exact ⟨⟨_, rfl, .inl ⟨by decide, by decide⟩⟩, HB.out⟩
 rw [if_neg hj]
 have hj0 : (0 : Int) ≤ 1048576 - (nj : Int) := by omega
 have hj1 : (1048576 : Int) - (nj : Int) ≤ 1048576 := by omega
 have HPQ := hide (HP.out v1 HB.out _ hj0 hj1)
 clear HP
 obtain ⟨y, hy⟩ : ∃ y, (1048576 : Int) - (nj : Int) = y := ⟨_, rfl⟩
 rw [hy] at HPQ hj0 hj1 ⊢
 have HY := hide hy
 clear hy hj
 go_wp2_with fail
 refine (HPQ.out).mono ?_
 rintro e v2 ⟨⟨z, rfl, hz⟩, hb⟩
 replace z0 := bC hb z0 zz
 replace z1 := bC hb z1 zz
 replace z2 := bC hb z2 zz
 replace z3 := bC hb z3 zz
 replace z4 := bC hb z4 zz
 replace z5 := bC hb z5 zz
 replace z6 := bC hb z6 zz
 replace zz := Nat.lt_of_lt_of_le zz hb.size
 replace HB := hide (HB.out.trans (hb.mono HB.out.size))
 clear hb
 rcases hz with ⟨hz1, hz2⟩ | ⟨hz1, hz2, HF⟩
 ·go_wp2
  go_ret
  exact ⟨⟨_, rfl, .inl ⟨by decide, by decide⟩⟩, HB.out⟩
 have HF' := hide HF
 clear HF
 have HTQ := hide (HT.out v2 z hz1 (by omega))
 clear HT
 go_wp2_with fail
 refine (HTQ.out).mono ?_
 rintro e v3 ⟨rfl, hb⟩
 replace z0 := bC hb z0 zz
 replace z1 := bC hb z1 zz
 replace z2 := bC hb z2 zz
 replace z3 := bC hb z3 zz
 replace z4 := bC hb z4 zz
 replace z5 := bC hb z5 zz
 replace z6 := bC hb z6 zz
 replace zz := Nat.lt_of_lt_of_le zz hb.size
 replace HB := hide (HB.out.trans (hb.mono HB.out.size))
 clear hb
 by_cases ht : z - (nt : Int) < 0
 ·rw [if_pos ht]
  go_wp2
  go_ret
  exact ⟨⟨_, rfl, .inl ⟨by decide, by decide⟩⟩, HB.out⟩
 rw [if_neg ht]
 have ht0 : (0 : Int) ≤ z - (nt : Int) := by omega
 have HFF : Hid (fitB0 m) := HFI.out (by have := HY.out; omega) HF'.out (by omega)
 go_wp2
 go_ret
 exact ⟨⟨_, rfl, .inr ⟨ht0, by omega, HFF.out⟩⟩, HB.out⟩

end Go.Proofs.YtmmhgkkcpjhiiaaGreat

namespace Go.Proofs.YtmmhgkkcpjhiiaaGreat
open Go.ChangeShapes Go.WideShapes Go.ChangeAt Go.RowKit Go.Joins
set_option linter.unusedVariables false
set_option linter.unusedSimpArgs false


theorem inJm_wideB {a b a' b' : Nat} {w : World} {v : Value} {m : Jm} (h : InJm a b w v m) (h1 : a' ≤ a) (h2 : b ≤ b') : InJm a' b' w v m := by
 obtain ⟨vl, e, i1⟩ := h
 exact ⟨vl, e, InRow.mono i1 h1 h2⟩
set_option maxRecDepth 100000 in
set_option maxHeartbeats 4000000 in
theorem toBal_go (kj : Int) (o : Option Addr) (nj c : Nat) (sj kp : Int) (ob : Option Addr) (np cb : Nat) (oR : Option Addr) (nr cR : Nat) (ot : Option Addr) (nt ct : Nat) (m : Bm) (w : World)
  (hkj : m.j.key = kj) (hsj : m.j.safe = sj) (hkp : m.p.key = kp) (hnj : m.j.l.length = nj) (hnp : m.p.l.length = np) (hnr : m.p.ring.length = nr) (hnt : m.t.length = nt)
  (h1 : RdJm w.heap.size w (jrn kj (.slice o nj c) sj) m.j) (h2 : RdPm w.heap.size w (plv kp (.slice ob np cb) (.slice oR nr cR)) m.p) (h3 : RdT w.heap.size w (tab (.slice ot nt ct)) m.t) (hf : fitB0 m) :
  Calls Tryz.prog 48 #[balv kj (.slice o nj c) sj kp (.slice ob np cb) (.slice oR nr cR) (.slice ot nt ct)] w fun e w' => ∃ v', e = .returned v' ∧ InBm w.heap.size w'.heap.size w' v' m ∧ Below w.heap.size w w' := by
 have HJ := hide (fun W (hb : Below w.heap.size w W) => toJournal_sh (jrn kj (.slice o nj c) sj) m.j W ((h1.kept hb (Nat.le_refl _)).le hb.size) hf.1)
 have HP := hide (fun W (hb : Below w.heap.size w W) => toPool_sh (plv kp (.slice ob np cb) (.slice oR nr cR)) m.p W ((h2.kept hb (Nat.le_refl _)).le hb.size) hf.2.1)
 have HT := hide (fun W (hb : Below w.heap.size w W) => toTable_sh (tab (.slice ot nt ct)) m.t W ((h3.kept hb (Nat.le_refl _)).le hb.size) hf.2.2)
 have HK := hide (And.intro hkj (And.intro hsj (And.intro hkp (And.intro hnj (And.intro hnp (And.intro hnr hnt))))))
 clear h1 h2 h3 hf hkj hsj hkp hnj hnp hnr hnt
 obtain ⟨W0, hW0⟩ : ∃ W, (((w.alloc (.cells #[.int .i64 kj, .slice o nj c, .int .i64 sj, .int .i64 kp, .slice ob np cb, .slice oR nr cR, .slice ot nt ct] 93)).alloc (.cells #[.int .i64 0, .slice none 0 0, .int .i64 0, .int .i64 0, .slice none 0 0, .slice none 0 0, .slice none 0 0] 34)).alloc (.cells #[.int .i64 0, .slice none 0 0, .int .i64 0, .int .i64 0, .slice none 0 0, .slice none 0 0, .slice none 0 0] 34)) = W := ⟨_, rfl⟩
 have HB0 := hide (show Below w.heap.size w W0 by rw [← hW0]; exact ((((Below.refl _ _).alloc (Nat.le_refl _) _).alloc (by simp <;> omega) _).alloc (by simp <;> omega) _))
 have zx : w.heap.size + 1 + 1 < W0.heap.size := by rw [← hW0]; simp
 have a00 : W0.cell? ⟨w.heap.size, 0, none⟩ = some (.int .i64 kj) := by rw [← hW0]; simp [go_sem]
 have a01 : W0.cell? ⟨w.heap.size, 1, none⟩ = some (.slice o nj c) := by rw [← hW0]; simp [go_sem]
 have a02 : W0.cell? ⟨w.heap.size, 2, none⟩ = some (.int .i64 sj) := by rw [← hW0]; simp [go_sem]
 have a03 : W0.cell? ⟨w.heap.size, 3, none⟩ = some (.int .i64 kp) := by rw [← hW0]; simp [go_sem]
 have a04 : W0.cell? ⟨w.heap.size, 4, none⟩ = some (.slice ob np cb) := by rw [← hW0]; simp [go_sem]
 have a05 : W0.cell? ⟨w.heap.size, 5, none⟩ = some (.slice oR nr cR) := by rw [← hW0]; simp [go_sem]
 have a06 : W0.cell? ⟨w.heap.size, 6, none⟩ = some (.slice ot nt ct) := by rw [← hW0]; simp [go_sem]
 have HX0 := hide (show W0.heap[w.heap.size + 1 + 1]? = some (.cells #[.int .i64 0, .slice none 0 0, .int .i64 0, .int .i64 0, .slice none 0 0, .slice none 0 0, .slice none 0 0] 34 (0, 0)) by rw [← hW0]; exact box_new3 w _ _ _ _)
 have HR0 := hide (show W0.heap[w.heap.size + 1]? = some (.cells #[.int .i64 0, .slice none 0 0, .int .i64 0, .int .i64 0, .slice none 0 0, .slice none 0 0, .slice none 0 0] 34 (0, 0)) by rw [← hW0]; exact box_mid3 w _ _ _ _)
 have hsW : w.heap.size ≤ W0.heap.size := HB0.out.size
 go_enter Tryz.func48, Tryz.ntmps48
 go_wp2_with fail
 refine (HJ.out W0 HB0.out).mono ?_
 rintro e v1 ⟨u0v, rfl, inA, hb⟩
 obtain ⟨vl7, ev7, o7, c7, el7, _⟩ := inA.rd
 rw [HK.out.1, HK.out.2.1] at ev7
 rw [HK.out.2.2.2.1] at el7
 subst el7 ev7
 have hs0v : W0.heap.size ≤ v1.heap.size := hb.size
 have hx := (hb.block _ (show w.heap.size + 1 + 1 < W0.heap.size by omega)).trans HX0.out
 have hr := (hb.block _ (show w.heap.size + 1 < W0.heap.size by omega)).trans HR0.out
 have y0 := bC hb a00 (show w.heap.size < W0.heap.size by omega)
 have y1 := bC hb a01 (show w.heap.size < W0.heap.size by omega)
 have y2 := bC hb a02 (show w.heap.size < W0.heap.size by omega)
 have y3 := bC hb a03 (show w.heap.size < W0.heap.size by omega)
 have y4 := bC hb a04 (show w.heap.size < W0.heap.size by omega)
 have y5 := bC hb a05 (show w.heap.size < W0.heap.size by omega)
 have y6 := bC hb a06 (show w.heap.size < W0.heap.size by omega)
 have p0 := bx_cell hx 0 _ rfl
 have p1 := bx_cell hx 1 _ rfl
 have p2 := bx_cell hx 2 _ rfl
 have q0 := bx_frozen hx 0
 have q1 := bx_frozen hx 1
 have q2 := bx_frozen hx 2
 obtain ⟨W1, hW1⟩ : ∃ W, (((v1.setCell ⟨w.heap.size + 1 + 1, 0, none⟩ (.int .i64 kj)).setCell ⟨w.heap.size + 1 + 1, 1, none⟩ (.slice o7 nj c7)).setCell ⟨w.heap.size + 1 + 1, 2, none⟩ (.int .i64 sj)) = W := ⟨_, rfl⟩
 have HX1 := hide (show W1.heap[w.heap.size + 1 + 1]? = some (.cells #[.int .i64 kj, .slice o7 nj c7, .int .i64 sj, .int .i64 0, .slice none 0 0, .slice none 0 0, .slice none 0 0] 34 (0, 0)) by rw [← hW1]; exact (box_put (box_put (box_put hx 0 (.int .i64 kj)) 1 (.slice o7 nj c7)) 2 (.int .i64 sj)))
 have HR1 := hide (show W1.heap[w.heap.size + 1]? = some (.cells #[.int .i64 0, .slice none 0 0, .int .i64 0, .int .i64 0, .slice none 0 0, .slice none 0 0, .slice none 0 0] 34 (0, 0)) by rw [← hW1]; exact ((far_block (by omega) _ _).trans ((far_block (by omega) _ _).trans ((far_block (by omega) _ _).trans hr))))
 have hs1 : W1.heap.size = v1.heap.size := by rw [← hW1]; simp
 have HB1 := hide (show Below w.heap.size w W1 by rw [← hW1]; exact ((((HB0.out.trans (hb.mono HB0.out.size)).setCell (p := ⟨w.heap.size + 1 + 1, 0, none⟩) (show w.heap.size ≤ w.heap.size + 1 + 1 by omega) _).setCell (p := ⟨w.heap.size + 1 + 1, 1, none⟩) (show w.heap.size ≤ w.heap.size + 1 + 1 by omega) _).setCell (p := ⟨w.heap.size + 1 + 1, 2, none⟩) (show w.heap.size ≤ w.heap.size + 1 + 1 by omega) _))
 have sp : Stp (w.heap.size + 1 + 1) (w.heap.size + 1 + 1 + 1) v1 W1 := by rw [← hW1]; exact (((stp_set v1 (w.heap.size + 1 + 1) 0 (.int .i64 kj)).trans (stp_set (v1.setCell ⟨w.heap.size + 1 + 1, 0, none⟩ (.int .i64 kj)) (w.heap.size + 1 + 1) 1 (.slice o7 nj c7))).trans (stp_set ((v1.setCell ⟨w.heap.size + 1 + 1, 0, none⟩ (.int .i64 kj)).setCell ⟨w.heap.size + 1 + 1, 1, none⟩ (.slice o7 nj c7)) (w.heap.size + 1 + 1) 2 (.int .i64 sj)))
 have IN0 := hide (inA.step sp (.inl (by omega)))
 have a10 : W1.cell? ⟨w.heap.size, 0, none⟩ = some (.int .i64 kj) := by rw [← hW1]; exact ((cell_far (by omega)).trans ((cell_far (by omega)).trans ((cell_far (by omega)).trans y0)))
 have a11 : W1.cell? ⟨w.heap.size, 1, none⟩ = some (.slice o nj c) := by rw [← hW1]; exact ((cell_far (by omega)).trans ((cell_far (by omega)).trans ((cell_far (by omega)).trans y1)))
 have a12 : W1.cell? ⟨w.heap.size, 2, none⟩ = some (.int .i64 sj) := by rw [← hW1]; exact ((cell_far (by omega)).trans ((cell_far (by omega)).trans ((cell_far (by omega)).trans y2)))
 have a13 : W1.cell? ⟨w.heap.size, 3, none⟩ = some (.int .i64 kp) := by rw [← hW1]; exact ((cell_far (by omega)).trans ((cell_far (by omega)).trans ((cell_far (by omega)).trans y3)))
 have a14 : W1.cell? ⟨w.heap.size, 4, none⟩ = some (.slice ob np cb) := by rw [← hW1]; exact ((cell_far (by omega)).trans ((cell_far (by omega)).trans ((cell_far (by omega)).trans y4)))
 have a15 : W1.cell? ⟨w.heap.size, 5, none⟩ = some (.slice oR nr cR) := by rw [← hW1]; exact ((cell_far (by omega)).trans ((cell_far (by omega)).trans ((cell_far (by omega)).trans y5)))
 have a16 : W1.cell? ⟨w.heap.size, 6, none⟩ = some (.slice ot nt ct) := by rw [← hW1]; exact ((cell_far (by omega)).trans ((cell_far (by omega)).trans ((cell_far (by omega)).trans y6)))
 clear hx hr hb inA sp y0 a00 y1 a01 y2 a02 y3 a03 y4 a04 y5 a05 y6 a06 HB0 HX0 HR0
 go_wp2_with fail
 refine (HP.out W1 HB1.out).mono ?_
 rintro e v2 ⟨u1v, rfl, inA, hb⟩
 obtain ⟨o8, c8, oR8, cR8, ev8⟩ := inA.opn
 rw [HK.out.2.2.1, HK.out.2.2.2.2.1, HK.out.2.2.2.2.2.1] at ev8
 subst ev8
 have hs1v : W1.heap.size ≤ v2.heap.size := hb.size
 have hx := (hb.block _ (show w.heap.size + 1 + 1 < W1.heap.size by omega)).trans HX1.out
 have hr := (hb.block _ (show w.heap.size + 1 < W1.heap.size by omega)).trans HR1.out
 have y0 := bC hb a10 (show w.heap.size < W1.heap.size by omega)
 have y1 := bC hb a11 (show w.heap.size < W1.heap.size by omega)
 have y2 := bC hb a12 (show w.heap.size < W1.heap.size by omega)
 have y3 := bC hb a13 (show w.heap.size < W1.heap.size by omega)
 have y4 := bC hb a14 (show w.heap.size < W1.heap.size by omega)
 have y5 := bC hb a15 (show w.heap.size < W1.heap.size by omega)
 have y6 := bC hb a16 (show w.heap.size < W1.heap.size by omega)
 replace IN0 := hide (IN0.out.step (Stp.of (lo := 0) (hi := 0) hb) (.inl (Nat.zero_le _)))
 have p3 := bx_cell hx 3 _ rfl
 have p4 := bx_cell hx 4 _ rfl
 have p5 := bx_cell hx 5 _ rfl
 have q3 := bx_frozen hx 3
 have q4 := bx_frozen hx 4
 have q5 := bx_frozen hx 5
 obtain ⟨W2, hW2⟩ : ∃ W, (((v2.setCell ⟨w.heap.size + 1 + 1, 3, none⟩ (.int .i64 kp)).setCell ⟨w.heap.size + 1 + 1, 4, none⟩ (.slice o8 np c8)).setCell ⟨w.heap.size + 1 + 1, 5, none⟩ (.slice oR8 nr cR8)) = W := ⟨_, rfl⟩
 have HX2 := hide (show W2.heap[w.heap.size + 1 + 1]? = some (.cells #[.int .i64 kj, .slice o7 nj c7, .int .i64 sj, .int .i64 kp, .slice o8 np c8, .slice oR8 nr cR8, .slice none 0 0] 34 (0, 0)) by rw [← hW2]; exact (box_put (box_put (box_put hx 3 (.int .i64 kp)) 4 (.slice o8 np c8)) 5 (.slice oR8 nr cR8)))
 have HR2 := hide (show W2.heap[w.heap.size + 1]? = some (.cells #[.int .i64 0, .slice none 0 0, .int .i64 0, .int .i64 0, .slice none 0 0, .slice none 0 0, .slice none 0 0] 34 (0, 0)) by rw [← hW2]; exact ((far_block (by omega) _ _).trans ((far_block (by omega) _ _).trans ((far_block (by omega) _ _).trans hr))))
 have hs2 : W2.heap.size = v2.heap.size := by rw [← hW2]; simp
 have HB2 := hide (show Below w.heap.size w W2 by rw [← hW2]; exact ((((HB1.out.trans (hb.mono HB1.out.size)).setCell (p := ⟨w.heap.size + 1 + 1, 3, none⟩) (show w.heap.size ≤ w.heap.size + 1 + 1 by omega) _).setCell (p := ⟨w.heap.size + 1 + 1, 4, none⟩) (show w.heap.size ≤ w.heap.size + 1 + 1 by omega) _).setCell (p := ⟨w.heap.size + 1 + 1, 5, none⟩) (show w.heap.size ≤ w.heap.size + 1 + 1 by omega) _))
 have sp : Stp (w.heap.size + 1 + 1) (w.heap.size + 1 + 1 + 1) v2 W2 := by rw [← hW2]; exact (((stp_set v2 (w.heap.size + 1 + 1) 3 (.int .i64 kp)).trans (stp_set (v2.setCell ⟨w.heap.size + 1 + 1, 3, none⟩ (.int .i64 kp)) (w.heap.size + 1 + 1) 4 (.slice o8 np c8))).trans (stp_set ((v2.setCell ⟨w.heap.size + 1 + 1, 3, none⟩ (.int .i64 kp)).setCell ⟨w.heap.size + 1 + 1, 4, none⟩ (.slice o8 np c8)) (w.heap.size + 1 + 1) 5 (.slice oR8 nr cR8)))
 replace IN0 := hide (IN0.out.step sp (.inl (by omega)))
 have IN1 := hide (inA.step sp (.inl (by omega)))
 have a20 : W2.cell? ⟨w.heap.size, 0, none⟩ = some (.int .i64 kj) := by rw [← hW2]; exact ((cell_far (by omega)).trans ((cell_far (by omega)).trans ((cell_far (by omega)).trans y0)))
 have a21 : W2.cell? ⟨w.heap.size, 1, none⟩ = some (.slice o nj c) := by rw [← hW2]; exact ((cell_far (by omega)).trans ((cell_far (by omega)).trans ((cell_far (by omega)).trans y1)))
 have a22 : W2.cell? ⟨w.heap.size, 2, none⟩ = some (.int .i64 sj) := by rw [← hW2]; exact ((cell_far (by omega)).trans ((cell_far (by omega)).trans ((cell_far (by omega)).trans y2)))
 have a23 : W2.cell? ⟨w.heap.size, 3, none⟩ = some (.int .i64 kp) := by rw [← hW2]; exact ((cell_far (by omega)).trans ((cell_far (by omega)).trans ((cell_far (by omega)).trans y3)))
 have a24 : W2.cell? ⟨w.heap.size, 4, none⟩ = some (.slice ob np cb) := by rw [← hW2]; exact ((cell_far (by omega)).trans ((cell_far (by omega)).trans ((cell_far (by omega)).trans y4)))
 have a25 : W2.cell? ⟨w.heap.size, 5, none⟩ = some (.slice oR nr cR) := by rw [← hW2]; exact ((cell_far (by omega)).trans ((cell_far (by omega)).trans ((cell_far (by omega)).trans y5)))
 have a26 : W2.cell? ⟨w.heap.size, 6, none⟩ = some (.slice ot nt ct) := by rw [← hW2]; exact ((cell_far (by omega)).trans ((cell_far (by omega)).trans ((cell_far (by omega)).trans y6)))
 clear hx hr hb inA sp y0 a10 y1 a11 y2 a12 y3 a13 y4 a14 y5 a15 y6 a16 HB1 HX1 HR1
 go_wp2_with fail
 refine (HT.out W2 HB2.out).mono ?_
 rintro e v3 ⟨u2v, rfl, inA, hb⟩
 obtain ⟨vt9, ev9, o9, c9, el9, _⟩ := inA.rd
 rw [HK.out.2.2.2.2.2.2] at el9
 subst el9 ev9
 have hs2v : W2.heap.size ≤ v3.heap.size := hb.size
 have hx := (hb.block _ (show w.heap.size + 1 + 1 < W2.heap.size by omega)).trans HX2.out
 have hr := (hb.block _ (show w.heap.size + 1 < W2.heap.size by omega)).trans HR2.out
 have y0 := bC hb a20 (show w.heap.size < W2.heap.size by omega)
 have y1 := bC hb a21 (show w.heap.size < W2.heap.size by omega)
 have y2 := bC hb a22 (show w.heap.size < W2.heap.size by omega)
 have y3 := bC hb a23 (show w.heap.size < W2.heap.size by omega)
 have y4 := bC hb a24 (show w.heap.size < W2.heap.size by omega)
 have y5 := bC hb a25 (show w.heap.size < W2.heap.size by omega)
 have y6 := bC hb a26 (show w.heap.size < W2.heap.size by omega)
 replace IN0 := hide (IN0.out.step (Stp.of (lo := 0) (hi := 0) hb) (.inl (Nat.zero_le _)))
 replace IN1 := hide (IN1.out.step (Stp.of (lo := 0) (hi := 0) hb) (.inl (Nat.zero_le _)))
 have p6 := bx_cell hx 6 _ rfl
 have q6 := bx_frozen hx 6
 obtain ⟨W3, hW3⟩ : ∃ W, (v3.setCell ⟨w.heap.size + 1 + 1, 6, none⟩ (.slice o9 nt c9)) = W := ⟨_, rfl⟩
 have HX3 := hide (show W3.heap[w.heap.size + 1 + 1]? = some (.cells #[.int .i64 kj, .slice o7 nj c7, .int .i64 sj, .int .i64 kp, .slice o8 np c8, .slice oR8 nr cR8, .slice o9 nt c9] 34 (0, 0)) by rw [← hW3]; exact (box_put hx 6 (.slice o9 nt c9)))
 have HR3 := hide (show W3.heap[w.heap.size + 1]? = some (.cells #[.int .i64 0, .slice none 0 0, .int .i64 0, .int .i64 0, .slice none 0 0, .slice none 0 0, .slice none 0 0] 34 (0, 0)) by rw [← hW3]; exact ((far_block (by omega) _ _).trans hr))
 have hs3 : W3.heap.size = v3.heap.size := by rw [← hW3]; simp
 have HB3 := hide (show Below w.heap.size w W3 by rw [← hW3]; exact ((HB2.out.trans (hb.mono HB2.out.size)).setCell (p := ⟨w.heap.size + 1 + 1, 6, none⟩) (show w.heap.size ≤ w.heap.size + 1 + 1 by omega) _))
 have sp : Stp (w.heap.size + 1 + 1) (w.heap.size + 1 + 1 + 1) v3 W3 := by rw [← hW3]; exact (stp_set v3 (w.heap.size + 1 + 1) 6 (.slice o9 nt c9))
 replace IN0 := hide (IN0.out.step sp (.inl (by omega)))
 replace IN1 := hide (IN1.out.step sp (.inl (by omega)))
 have IN2 := hide (inA.step sp (.inl (by omega)))
 have a30 : W3.cell? ⟨w.heap.size, 0, none⟩ = some (.int .i64 kj) := by rw [← hW3]; exact ((cell_far (by omega)).trans y0)
 have a31 : W3.cell? ⟨w.heap.size, 1, none⟩ = some (.slice o nj c) := by rw [← hW3]; exact ((cell_far (by omega)).trans y1)
 have a32 : W3.cell? ⟨w.heap.size, 2, none⟩ = some (.int .i64 sj) := by rw [← hW3]; exact ((cell_far (by omega)).trans y2)
 have a33 : W3.cell? ⟨w.heap.size, 3, none⟩ = some (.int .i64 kp) := by rw [← hW3]; exact ((cell_far (by omega)).trans y3)
 have a34 : W3.cell? ⟨w.heap.size, 4, none⟩ = some (.slice ob np cb) := by rw [← hW3]; exact ((cell_far (by omega)).trans y4)
 have a35 : W3.cell? ⟨w.heap.size, 5, none⟩ = some (.slice oR nr cR) := by rw [← hW3]; exact ((cell_far (by omega)).trans y5)
 have a36 : W3.cell? ⟨w.heap.size, 6, none⟩ = some (.slice ot nt ct) := by rw [← hW3]; exact ((cell_far (by omega)).trans y6)
 clear hx hr hb inA sp y0 a20 y1 a21 y2 a22 y3 a23 y4 a24 y5 a25 y6 a26 HB2 HX2 HR2
 have x0 := bx_cell HX3.out 0 _ rfl
 have x1 := bx_cell HX3.out 1 _ rfl
 have x2 := bx_cell HX3.out 2 _ rfl
 have x3 := bx_cell HX3.out 3 _ rfl
 have x4 := bx_cell HX3.out 4 _ rfl
 have x5 := bx_cell HX3.out 5 _ rfl
 have x6 := bx_cell HX3.out 6 _ rfl
 have r0 := bx_cell HR3.out 0 _ rfl
 have r1 := bx_cell HR3.out 1 _ rfl
 have r2 := bx_cell HR3.out 2 _ rfl
 have r3 := bx_cell HR3.out 3 _ rfl
 have r4 := bx_cell HR3.out 4 _ rfl
 have r5 := bx_cell HR3.out 5 _ rfl
 have r6 := bx_cell HR3.out 6 _ rfl
 have fr0 := bx_frozen HR3.out 0
 have fr1 := bx_frozen HR3.out 1
 have fr2 := bx_frozen HR3.out 2
 have fr3 := bx_frozen HR3.out 3
 have fr4 := bx_frozen HR3.out 4
 have fr5 := bx_frozen HR3.out 5
 have fr6 := bx_frozen HR3.out 6
 have HFI : Hid (InBm w.heap.size (setB W3 (w.heap.size + 1) (.int .i64 kj) (.slice o7 nj c7) (.int .i64 sj) (.int .i64 kp) (.slice o8 np c8) (.slice oR8 nr cR8) (.slice o9 nt c9)).heap.size (setB W3 (w.heap.size + 1) (.int .i64 kj) (.slice o7 nj c7) (.int .i64 sj) (.int .i64 kp) (.slice o8 np c8) (.slice oR8 nr cR8) (.slice o9 nt c9)) (balv kj (.slice o7 nj c7) sj kp (.slice o8 np c8) (.slice oR8 nr cR8) (.slice o9 nt c9)) m) := by
  have s9 := stp_setB W3 (w.heap.size + 1) (.int .i64 kj) (.slice o7 nj c7) (.int .i64 sj) (.int .i64 kp) (.slice o8 np c8) (.slice oR8 nr cR8) (.slice o9 nt c9)
  obtain ⟨e1, e2, e3, _⟩ := HK.out
  refine ⟨.slice o7 nj c7, .slice o8 np c8, .slice oR8 nr cR8, .slice o9 nt c9, w.heap.size, v1.heap.size, v1.heap.size, v2.heap.size, v2.heap.size, W3.heap.size, by rw [e1, e2, e3], by rw [setB_size]; omega, ?_, ?_, ?_⟩
  ·rw [e1, e2]; exact inJm_wideB (IN0.out.step s9 (.inl (by omega))) (by omega) (by omega)
  ·rw [e3]; exact inPm_wide (IN1.out.step s9 (.inl (by omega))) (by omega) (by omega)
  ·exact (IN2.out.step s9 (.inl (by omega))).mono (by omega) (by omega)
 go_wp2
 refine bodyPost_ret (v := balv kj (.slice o7 nj c7) sj kp (.slice o8 np c8) (.slice oR8 nr cR8) (.slice o9 nt c9)) (by simp [results, Tryz.results48, go_sem, r0, r1, r2, r3, r4, r5, r6]) rfl ⟨_, rfl, HFI.out, setB_below HB3.out (Nat.le_succ _) _ _ _ _ _ _ _⟩

theorem toBal_sh (v : Value) (m : Bm) (w : World) (hR : RdBm w.heap.size w v m) (hf : fitB0 m) :
  Calls Tryz.prog 48 #[v] w fun e w' => ∃ v', e = .returned v' ∧ InBm w.heap.size w'.heap.size w' v' m ∧ Below w.heap.size w w' := by
 obtain ⟨o, c, ob, cb, oR, cR, ot, ct, rfl⟩ := hR.opn
 obtain ⟨vl, vb, vr, vt, e, a1, a2, a3⟩ := hR
 simp only [Value.agg.injEq, Array.mk.injEq, List.cons.injEq, and_true, true_and] at e
 obtain ⟨e1, e2, e3, e4⟩ := e
 subst e1 e2 e3 e4
 exact toBal_go _ o _ c _ _ ob _ cb oR _ cR ot _ ct m w rfl rfl rfl rfl rfl rfl rfl a1 a2 a3 hf

end Go.Proofs.YtmmhgkkcpjhiiaaGreat

namespace Go.Proofs.YtmmhgkkcpjhiiaaGreat
open Go.ChangeShapes Go.WideShapes Go.ChangeAt Go.RowKit Go.Joins
set_option linter.unusedVariables false
set_option linter.unusedSimpArgs false

theorem balIn_open {lo hi : Nat} {w : World} {v : Value} {m : Bm} (h : InBm lo hi w v m) (hh : hi ≤ w.heap.size) : ∃ (o : Option Addr) (c : Nat) (ob : Option Addr) (cb : Nat) (oR : Option Addr) (cR : Nat) (ot : Option Addr) (ct : Nat), v = balv m.j.key (.slice o m.j.l.length c) m.j.safe m.p.key (.slice ob m.p.l.length cb) (.slice oR m.p.ring.length cR) (.slice ot m.t.length ct) ∧ RdC w.heap.size w o m.j.l ∧ (o = none → c = 0) ∧ RdPm w.heap.size w (plv m.p.key (.slice ob m.p.l.length cb) (.slice oR m.p.ring.length cR)) m.p ∧ RdS w.heap.size w ot m.t := by
 obtain ⟨vl, vb, vr, vt, j0, j1, p0, p1, t0, t1, e, kk, hj, hp, ht⟩ := h
 have cj := hj.cap
 obtain ⟨vl', e1, o, c, e1', r1⟩ := hj.rd
 obtain ⟨ob, cb, oR, cR, e2⟩ := hp.opn
 obtain ⟨vt', e3, ot, ct, e3', r3⟩ := ht.rd
 simp only [Value.agg.injEq, Array.mk.injEq, List.cons.injEq, and_true, true_and] at e1 e2 e3
 obtain ⟨e21, e22⟩ := e2
 subst e1 e1' e3 e3' e21 e22
 exact ⟨o, c, ob, cb, oR, cR, ot, ct, e, r1.le (by omega), capJm.one cj, hp.rd.le (by omega), r3.le (by omega)⟩
end Go.Proofs.YtmmhgkkcpjhiiaaGreat

