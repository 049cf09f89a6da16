/- Several texts in one: SPf, ShP2, SPok. -/
import Derived.Deep.RegionHeld3
import Derived.Deep.CutRange
import Derived.Test.YtajfkcpifnpkeaaGreatQBalCmd37
import Derived.Test.YtajfkcpifnpkeaaGreatQBalCmd32
import Derived.Test.YtajfkcpifnpkeaaGreatQBalCmd29
import Derived.Test.YtajfkcpifnpkeaaGreatQBalCmd10
import Derived.Test.YtajfkcpifnpkeaaGreatQBalCmd30
import Derived.Test.YtajfkcpifnpkeaaGreatQBalCmd11
/- The program's poolFrom. -/
namespace Go.Proofs.YtajfkcpifnpkeaaGreat
open Go.ChangeShapes Go.WideShapes Go.ChangeAt Go.RowKit Go.Joins
set_option linter.unusedVariables false
set_option linter.unusedSimpArgs false

/-- A pool that may be. -/
def poolB (m : Pm) : Bool := keyB m.key && backsOkB m.l && decide (1 ≤ m.ring.length) && decide (m.ring.length ≤ 3) && (List.range m.ring.length).all (fun i => tabOkB (m.ring.getD i [])) && eqPtB (tabF (m.ring.getD 0 [])) (newF m.key m.l)
theorem poolB_no {m : Pm} (h : keyB m.key = false ∨ backsOkB m.l = false ∨ m.ring.length < 1 ∨ 3 < m.ring.length ∨ (∃ i, i < m.ring.length ∧ tabOkB (m.ring.getD i []) = false) ∨ eqPtB (tabF (m.ring.getD 0 [])) (newF m.key m.l) = false) : poolB m = false := by
 rw [Bool.eq_false_iff]
 intro hb
 unfold poolB at hb
 simp only [Bool.and_eq_true, decide_eq_true_eq, List.all_eq_true, List.mem_range] at hb
 obtain ⟨⟨⟨⟨⟨h1, h2⟩, h3⟩, h4⟩, h5⟩, h6⟩ := hb
 rcases h with h | h | h | h | ⟨i, hi, h⟩ | h
 ·rw [h1] at h; cases h
 ·rw [h2] at h; cases h
 ·omega
 ·omega
 ·rw [h5 i hi] at h; cases h
 ·rw [h6] at h; cases h
theorem poolB_yes {m : Pm} (h1 : keyB m.key = true) (h2 : backsOkB m.l = true) (h3 : 1 ≤ m.ring.length) (h4 : m.ring.length ≤ 3) (h5 : ∀ i, i < m.ring.length → tabOkB (m.ring.getD i []) = true) (h6 : eqPtB (tabF (m.ring.getD 0 [])) (newF m.key m.l) = true) : poolB m = true := by
 unfold poolB
 simp only [Bool.and_eq_true, decide_eq_true_eq, List.all_eq_true, List.mem_range]
 exact ⟨⟨⟨⟨⟨h1, h2⟩, h3⟩, h4⟩, h5⟩, h6⟩
/-- What poolFrom tells. -/
def FromP (m : Pm) (o : Option Addr) (cap : Nat) (w : World) (e : Ending) (w' : World) : Prop := ∃ vP, e = .returned (.tuple #[vP, .bool (poolB m)]) ∧ (poolB m = true → ∃ o2 c2, vP = polv m.key (.slice o m.l.length cap) (.slice o2 m.ring.length c2) ∧ ownL layT 240 w' w.heap.size (.slice o2 m.ring.length c2) (m.ring.map tabF)) ∧ (poolB m = false → vP = polv 0 (.slice none 0 0) (.slice none 0 0)) ∧ Below w.heap.size w w'
theorem from_no {m : Pm} {o : Option Addr} {cap : Nat} {w w' : World} (h : poolB m = false) (hb : Below w.heap.size w w') : FromP m o cap w (.returned (.tuple #[polv 0 (.slice none 0 0) (.slice none 0 0), .bool false])) w' :=
 ⟨_, by rw [h], fun h' => absurd (h.symm.trans h') (by simp), fun _ => rfl, hb⟩
theorem one_rdT (w : World) (f : Pt) : RdL layT (w.alloc (.cells (ptA f) 240)).heap.size (w.alloc (.cells (ptA f) 240)) (some ⟨w.heap.size, 0, none⟩) [f] := ownL.rd (L := layT) (one_ownT w f)
theorem take_tab (R : List (List (List Int))) (i : Nat) (h : i < R.length) : (R.map tabF).take (i + 1) = (R.map tabF).take i ++ [tabF (R.getD i [])] := by
 have hk : i < (R.map tabF).length := by rw [List.length_map]; exact h
 rw [List.take_succ_eq_append_getElem hk]
 simp [h]
theorem own_someT {w : World} {base : Nat} {v : Value} {fs : List Pt} (h : ownL layT 240 w base v fs) (hp : 0 < fs.length) : ∃ g c, v = .slice (some ⟨g, 0, none⟩) fs.length c := by
 rcases h.2 with ⟨_, h0⟩ | ⟨g, cap, cur, e, _⟩
 ·omega
 ·exact ⟨g, cap, e⟩
theorem own_range {w : World} {base g n c : Nat} {lll : List (List (List Int))} (h : ownL layT 240 w base (.slice (some ⟨g, 0, none⟩) n c) (lll.map tabF)) (hp : 0 < lll.length) : w.rangeAt g 0 (ptL (tabF (lll.getD 0 []))) := by
 rcases ownL.rds (L := layT) h with h1 | ⟨b, off, e, _, r⟩
 ·have : (lll.map tabF).length = 0 := by rw [h1]; rfl
  rw [List.length_map] at this; omega
 ·injection e with e
  injection e with e1 e2 e3
  subst e1 e2
  have h2 := RdL.range r 0 (by rw [List.length_map]; exact hp)
  have e4 : (lll.map tabF).getD 0 ptZ = tabF (lll.getD 0 []) := by simp [hp]
  rw [e4] at h2
  simpa using h2
theorem bx_all {W : World} {B : Nat} {x y z : Value} {T : TypeId} (h : W.heap[B]? = some (.cells #[x, y, z] T (0, 0))) : W.cell? ⟨B, 0, none⟩ = some x ∧ W.cell? ⟨B, 1, none⟩ = some y ∧ W.cell? ⟨B, 2, none⟩ = some z ∧ W.frozen? ⟨B, 0, none⟩ = false ∧ W.frozen? ⟨B, 1, none⟩ = false ∧ W.frozen? ⟨B, 2, none⟩ = false :=
 ⟨bx_cell h 0 _ rfl, bx_cell h 1 _ rfl, bx_cell h 2 _ rfl, bx_frozen h 0, bx_frozen h 1, bx_frozen h 2⟩
theorem guardPt : Tryz.prog.eqGuardType Tryz.prog.depth 240 = false := by kernel_rfl

set_option maxRecDepth 100000 in
set_option maxHeartbeats 16000000 in
theorem poolFrom_go (key : Int) (o : Option Addr) (cap : Nat) (l : List Bk) (oR : Option Addr) (cR : Nat) (lll : List (List (List Int))) (n : Nat) (hnn : n = lll.length) (w : World) (hR : RdK w.heap.size w o l) (hG : RiR 0 w.heap.size w (.slice oR n cR) lll) (hf : fitPm ⟨key, l, lll⟩) :
  Calls Tryz.prog 175 #[plv key (.slice o l.length cap) (.slice oR n cR)] w fun e w' => FromP ⟨key, l, lll⟩ o cap w e w' := by
 have HNN := hide hnn
 obtain ⟨hf1, hf2, hf3, hf4, hf5⟩ := hf
 dsimp only at hf1 hf2 hf3 hf4 hf5
 rw [← hnn] at hf2
 have HX := hide hf4
 have HY := hide hf5
 clear hnn hf4 hf5 hf3
 obtain ⟨W0, hW0⟩ : ∃ W, ((w.alloc (.cells #[.int .i64 key, .slice o l.length cap, .slice oR n cR] 41)).alloc (.cells #[.int .i64 0, .slice none 0 0, .slice none 0 0] 213)) = W := ⟨_, rfl⟩
 have hb_W0 : Below w.heap.size w W0 := by rw [← hW0]; exact (((Below.refl _ _).alloc (Nat.le_refl _) _).alloc (by simp <;> omega) _)
 have HB := hide hb_W0
 clear hb_W0
 have zz : w.heap.size < W0.heap.size := by rw [← hW0]; simp <;> omega
 have z0 : W0.cell? ⟨w.heap.size, 0, none⟩ = some (.int .i64 key) := by rw [← hW0]; simp [go_sem]
 have z1 : W0.cell? ⟨w.heap.size, 1, none⟩ = some (.slice o l.length cap) := by rw [← hW0]; simp [go_sem]
 have z2 : W0.cell? ⟨w.heap.size, 2, none⟩ = some (.slice oR n cR) := by rw [← hW0]; simp [go_sem]
 have zr : w.heap.size + 1 < W0.heap.size := by rw [← hW0]; simp
 have r0 : W0.cell? ⟨w.heap.size + 1, 0, none⟩ = some (.int .i64 0) := by rw [← hW0]; simp [go_sem]
 have r1 : W0.cell? ⟨w.heap.size + 1, 1, none⟩ = some (.slice none 0 0) := by rw [← hW0]; simp [go_sem]
 have r2 : W0.cell? ⟨w.heap.size + 1, 2, none⟩ = some (.slice none 0 0) := by rw [← hW0]; simp [go_sem]
 have fr0 : W0.frozen? ⟨w.heap.size + 1, 0, none⟩ = false := by rw [← hW0]; simp [go_sem]
 have fr1 : W0.frozen? ⟨w.heap.size + 1, 1, none⟩ = false := by rw [← hW0]; simp [go_sem]
 have fr2 : W0.frozen? ⟨w.heap.size + 1, 2, none⟩ = false := by rw [← hW0]; simp [go_sem]
 have HR0 := hide (show W0.heap[w.heap.size + 1]? = some (.cells #[.int .i64 0, .slice none 0 0, .slice none 0 0] 213 (0, 0)) by rw [← hW0]; exact box_new2 w _ _ _)
 have hzr := zr
 have hzz0 := zz
 have HKE := hide (fun W => isKey_any key W)
 have HBO := hide (implBacksOk_any o cap l W0 ((hR.kept HB.out (Nat.le_refl _)).le HB.out.size) hf1)
 have HRK := hide hR
 have HG := hide hG
 clear hR hG
 have HNO := hide (fun h => poolB_no (m := ⟨key, l, lll⟩) h)
 have hw0 := HB.out.size
 cases hk : keyB key with
 | false =>
  rw [hk] at HKE
  go_enter Tryz.func175, Tryz.ntmps175
  go_wp2_with (first | (go_at_call 184; refine (HKE.out _).mono ?_; rintro e w1 ⟨rfl, rfl⟩) | (go_at_call 209; refine HBO.out.mono ?_; rintro e w2 ⟨rfl, hb2⟩; have hb2 := hide hb2))
  refine bodyPost_ret (v := .tuple #[polv 0 (.slice none 0 0) (.slice none 0 0), .bool false]) (by simp [results, Tryz.results175, go_sem, r0, r1, r2]) rfl (from_no (HNO.out (.inl hk)) (setQ_below HB.out (Nat.le_succ _) _ _ _))
 | true =>
  rw [hk] at HKE
  have HK := hide hk
  clear hk
  cases hbo : backsOkB l with
  | false =>
   rw [hbo] at HBO
   go_enter Tryz.func175, Tryz.ntmps175
   go_wp2_with (first | (go_at_call 184; refine (HKE.out _).mono ?_; rintro e w1 ⟨rfl, rfl⟩) | (go_at_call 209; refine HBO.out.mono ?_; rintro e w2 ⟨rfl, hb2⟩; have s0 := bC hb2 r0 zr; have s1 := bC hb2 r1 zr; have s2 := bC hb2 r2 zr; have t0 := bF hb2 fr0 zr; have t1 := bF hb2 fr1 zr; have t2 := bF hb2 fr2 zr; have hb2 := hide hb2))
   refine bodyPost_ret (v := .tuple #[polv 0 (.slice none 0 0) (.slice none 0 0), .bool false]) (by simp [results, Tryz.results175, go_sem, s0, s1, s2]) rfl (from_no (HNO.out (.inr (.inl hbo))) (setQ_below (HB.out.trans (hb2.out.mono HB.out.size)) (Nat.le_succ _) _ _ _))
  | true =>
   rw [hbo] at HBO
   have HBK := hide hbo
   clear hbo
   by_cases h1 : (n : Int) < 1
   ·go_enter Tryz.func175, Tryz.ntmps175
    go_wp2_with (first | (go_at_call 184; refine (HKE.out _).mono ?_; rintro e w1 ⟨rfl, rfl⟩) | (go_at_call 209; refine HBO.out.mono ?_; rintro e w2 ⟨rfl, hb2⟩; have s0 := bC hb2 r0 zr; have s1 := bC hb2 r1 zr; have s2 := bC hb2 r2 zr; have t0 := bF hb2 fr0 zr; have t1 := bF hb2 fr1 zr; have t2 := bF hb2 fr2 zr; have y0 := bC hb2 z0 zz; have y1 := bC hb2 z1 zz; have y2 := bC hb2 z2 zz; have hb2 := hide hb2))
    refine bodyPost_ret (v := .tuple #[polv 0 (.slice none 0 0) (.slice none 0 0), .bool false]) (by simp [results, Tryz.results175, go_sem, s0, s1, s2]) rfl (from_no (HNO.out (.inr (.inr (.inl (show lll.length < 1 by have := HNN.out; omega))))) (setQ_below (HB.out.trans (hb2.out.mono HB.out.size)) (Nat.le_succ _) _ _ _))
   by_cases h3 : (3 : Int) < (n : Int)
   ·go_enter Tryz.func175, Tryz.ntmps175
    go_wp2_with (first | (go_at_call 184; refine (HKE.out _).mono ?_; rintro e w1 ⟨rfl, rfl⟩) | (go_at_call 209; refine HBO.out.mono ?_; rintro e w2 ⟨rfl, hb2⟩; have s0 := bC hb2 r0 zr; have s1 := bC hb2 r1 zr; have s2 := bC hb2 r2 zr; have t0 := bF hb2 fr0 zr; have t1 := bF hb2 fr1 zr; have t2 := bF hb2 fr2 zr; have y0 := bC hb2 z0 zz; have y1 := bC hb2 z1 zz; have y2 := bC hb2 z2 zz; have hb2 := hide hb2))
    refine bodyPost_ret (v := .tuple #[polv 0 (.slice none 0 0) (.slice none 0 0), .bool false]) (by simp [results, Tryz.results175, go_sem, s0, s1, s2]) rfl (from_no (HNO.out (.inr (.inr (.inr (.inl (show 3 < lll.length by have := HNN.out; omega)))))) (setQ_below (HB.out.trans (hb2.out.mono HB.out.size)) (Nat.le_succ _) _ _ _))
   have h1n : 1 ≤ n := by omega
   have h3n : n ≤ 3 := by omega
   go_enter Tryz.func175, Tryz.ntmps175
   go_wp2_with (first | (go_at_call 184; refine (HKE.out _).mono ?_; rintro e w1 ⟨rfl, rfl⟩) | (go_at_call 209; refine HBO.out.mono ?_; rintro e w2 ⟨rfl, hb2⟩; have s0 := bC hb2 r0 zr; have s1 := bC hb2 r1 zr; have s2 := bC hb2 r2 zr; have t0 := bF hb2 fr0 zr; have t1 := bF hb2 fr1 zr; have t2 := bF hb2 fr2 zr; have y0 := bC hb2 z0 zz; have y1 := bC hb2 z1 zz; have y2 := bC hb2 z2 zz; have hb2 := hide hb2))
   have hs2 := hb2.out.size
   have HBC := hide (HB.out.trans (hb2.out.mono HB.out.size))
   have HRB := hide ((hb2.out.block _ hzr).trans HR0.out)
   clear z0 z1 z2 r0 r1 r2 fr0 fr1 fr2 s0 s1 s2 t0 t1 t2 HKE HBO
   go_loopw [4, 35] (fun rv iv wr => ∃ (i : Nat), i ≤ n ∧ iv = .int .i64 (i : Int) ∧ Hid (ownL layT 240 wr w2.heap.size rv ((lll.map tabF).take i)) ∧ Hid (∀ j, j < i → tabOkB (lll.getD j []) = true) ∧ Hid (Below w2.heap.size w2 wr))
    (fun _ iv _ => n - (intOf iv).toNat)
   case atStart => exact ⟨0, Nat.zero_le _, rfl, by rw [List.take_zero]; exact World.ownsRow_nil _ _ _ _, fun j hj => absurd hj (Nat.not_lt_zero _), Below.refl _ _⟩
   case round =>
    rename_i rv _
    obtain ⟨i, hi', rfl, HOW, HOK, HBR⟩ := hrel
    have hsr := HBR.out.size
    have y0w := bC HBR.out y0 (by omega)
    have y1w := bC HBR.out y1 (by omega)
    have y2w := bC HBR.out y2 (by omega)
    have HBW := hide (HBC.out.trans (HBR.out.mono (show w.heap.size ≤ w2.heap.size by omega)))
    have hrb := (HBR.out.block _ (show w.heap.size + 1 < w2.heap.size by omega)).trans HRB.out
    by_cases hlt : i < n
    ·skip
     have hlt' : (i : Int) < (n : Int) := by omega
     have hif : i < lll.length := by rw [← HNN.out]; exact hlt
     obtain ⟨b, off, o', c', rfl, hbl, hcu0, hru0⟩ := HG.out.at (Nat.le_refl _) i hif
     have hcu := bC HBW.out hcu0 hbl
     have hru := (hru0.kept HBW.out (Nat.le_refl _)).le HBW.out.size
     have HTK := hide (take_tab lll i hif)
     have hxi := HX.out i hif
     have hyi := HY.out i hif
     have HNI := hide (fun h => HNO.out (.inr (.inr (.inr (.inr (.inl ⟨i, hif, h⟩))))))
     have HPT := hide (pairTableFrom_any o' c' (lll.getD i []) wr hru hxi hyi)
     clear hcu0 hru0 hru hxi hyi
     obtain ⟨ll, hll⟩ : ∃ ll, lll.getD i [] = ll := ⟨_, rfl⟩
     rw [hll] at hcu HTK HNI HPT
     have HLL := hide hll
     clear hll
     obtain ⟨m, hm⟩ : ∃ m, ll.length = m := ⟨_, rfl⟩
     rw [hm] at hcu HPT
     clear hm
     cases hok : tabOkB ll with
     | false =>
      rw [hok] at HPT
      simp only [Bool.false_eq_true, if_false] at HPT
      have g0 := bx_frozen hrb 0
      have g1 := bx_frozen hrb 1
      have g2 := bx_frozen hrb 2
      go_wp2_with fail
      refine HPT.out.mono ?_
      rintro e v1 ⟨rfl, hb1⟩
      have hs1 := hb1.size
      have hrb1 := (hb1.block _ (show w.heap.size + 1 < wr.heap.size by omega)).trans hrb
      obtain ⟨W2, hW2⟩ : ∃ W, v1.alloc (.cells (ptA ptZ) 240) = W := ⟨_, rfl⟩
      have hrb2 : W2.heap[w.heap.size + 1]? = some (.cells #[.int .i64 0, .slice none 0 0, .slice none 0 0] 213 (0, 0)) := by rw [← hW2]; exact (Below.heap_alloc _ _ _ (by omega)).trans hrb1
      have HB2 : Hid (Below w.heap.size w W2) := by rw [← hW2]; exact (HBW.out.trans (hb1.mono HBW.out.size)).alloc (by have := HBW.out.size; omega) _
      have q0 : W2.cell? ⟨w.heap.size + 1, 0, none⟩ = some (.int .i64 0) := bx_cell hrb2 0 _ rfl
      have gq0 := bx_frozen hrb2 0
      have q1 : W2.cell? ⟨w.heap.size + 1, 1, none⟩ = some (.slice none 0 0) := bx_cell hrb2 1 _ rfl
      have gq1 := bx_frozen hrb2 1
      have q2 : W2.cell? ⟨w.heap.size + 1, 2, none⟩ = some (.slice none 0 0) := bx_cell hrb2 2 _ rfl
      have gq2 := bx_frozen hrb2 2
      clear hb1 hrb1 hrb2
      go_wp2_with (first | (refine wpList_store_pt rfl (.tmp 7) (.tmp 42) rfl v1.heap.size ptZ ptZ rfl rfl (World.alloc_heap_new v1 _) ?_; rw [World.setRow_alloc_new, hW2]))
      refine bodyPost_ret (v := .tuple #[polv 0 (.slice none 0 0) (.slice none 0 0), .bool false]) (by simp [results, Tryz.results175, go_sem, q0, q1, q2]) rfl (from_no (HNI.out hok) (setQ_below HB2.out (Nat.le_succ _) _ _ _))
     | true =>
      have HOKI := hide hok
      rw [hok] at HPT
      simp only [if_true] at HPT
      clear hok
      obtain ⟨f, hf⟩ : ∃ f, tabF ll = f := ⟨_, rfl⟩
      rw [hf] at HPT HTK
      clear hf
      go_wp2_with fail
      refine HPT.out.mono ?_
      rintro e v1 ⟨rfl, hb1⟩
      have hs1 := hb1.size
      obtain ⟨W2, hW2⟩ : ∃ W, v1.alloc (.cells (ptA f) 240) = W := ⟨_, rfl⟩
      have hb2' : Below wr.heap.size wr W2 := by rw [← hW2]; exact hb1.alloc hs1 _
      have HZ5 : Hid (W2.heap[v1.heap.size]? = some (.cells (ptA f) 240 (0, 0))) := by rw [← hW2]; exact World.alloc_heap_new v1 _
      have HOW2 := hide (own_kept HOW.out hb2')
      have HB3 := hide (HBR.out.trans (hb2'.mono hsr))
      have hs3 := hb2'.size
      obtain ⟨oq, cq, eq, _⟩ := ownL.open (L := layT) HOW.out
      have HLN := hide (show ((lll.map tabF).take i).length = i by rw [List.length_take, List.length_map]; omega)
      rw [HLN.out] at eq
      subst eq
      clear hb1 hb2'
      obtain ⟨W3, hW3⟩ : ∃ W, W2.alloc (.cells (ptA f) 240) = W := ⟨_, rfl⟩
      have hb3 : Below W2.heap.size W2 W3 := by rw [← hW3]; exact (Below.refl _ _).alloc (Nat.le_refl _) _
      have HRO := hide (show RdL layT W3.heap.size W3 (some ⟨W2.heap.size, 0, none⟩) [f] by rw [← hW3]; exact one_rdT W2 f)
      have HOW3 := hide (own_kept HOW2.out hb3)
      have HB4 := hide (HB3.out.trans (hb3.mono (by omega)))
      have hs4 := hb3.size
      clear hb3
      go_wp2_with (first | (refine wpList_store_pt rfl (.tmp 7) (.tmp 42) rfl v1.heap.size f ptZ rfl rfl (World.alloc_heap_new v1 _) ?_; rw [World.setRow_alloc_new, hW2]) | (refine wpList_load_pt rfl (.tmp 7) rfl v1.heap.size rfl f HZ5.out ?_) | (refine wpList_one_pt rfl (.tmp 48) rfl f rfl ?_; rw [hW3]) | (at_builtin; refine wpList_append_lay appT rfl (.tmp 47) (.tmp 49) rfl w2.heap.size (.slice oq i cq) ((lll.map tabF).take i) rfl HOW3.out (some ⟨W2.heap.size, 0, none⟩) 1 W3.heap.size [f] 1 rfl rfl (by simp) HRO.out (by rw [HLN.out]; simp; omega) (by omega) ?_))
      intro v8 w8 ho8 hg8 _
      have HB8 := hide (HB4.out.grown hg8 (by omega) (fun k h => (HOW3.out.lt k h).1))
      have HO8 := hide ho8
      clear ho8 hg8
      go_wp2
      go_roundw
      case rel => exact ⟨i + 1, by omega, by go_num, by rw [HTK.out]; exact HO8.out, (fun j hj => by rcases Nat.lt_succ_iff_lt_or_eq.1 hj with h' | h'; (· exact HOK.out j h'); (· rw [h', HLL.out]; exact HOKI.out)), HB8.out⟩
      case measure => simp [intOf]; omega
    ·skip
     have e : i = n := by omega
     subst e
     have HALL := hide (show (lll.map tabF).take i = lll.map tabF by rw [HNN.out, show lll.length = (lll.map tabF).length by simp, List.take_length])
     rw [HALL.out] at HOW
     obtain ⟨g, cq, eq⟩ := own_someT HOW.out (by rw [List.length_map, ← HNN.out]; omega)
     rw [List.length_map, ← HNN.out] at eq
     subst eq
     have HRG := hide (show wr.rangeAt g 0 (ptL (tabF (lll.getD 0 []))) from own_range HOW.out (by rw [← HNN.out]; omega))
     have hgl : g < wr.heap.size := (HOW.out.lt g rfl).2
     have HYS := hide (fun h6 => poolB_yes (m := ⟨key, l, lll⟩) HK.out HBK.out (by show 1 ≤ lll.length; rw [← HNN.out]; exact h1n) (by show lll.length ≤ 3; rw [← HNN.out]; exact h3n) (fun j hj => HOK.out j (by rw [HNN.out]; exact hj)) h6)
     have HN6 := hide (fun h6 => HNO.out (.inr (.inr (.inr (.inr (.inr h6))))))
     have HNT := hide (newestTable_any key o cap l wr.drew ((HRK.out.kept HBW.out (Nat.le_refl _)).le HBW.out.size) hf1 HK.out HBK.out)
     have HEQ := hide (fun W => eq_pt (tabF (lll.getD 0 [])) (newF key l) W)
     obtain ⟨f0, hf0⟩ : ∃ f, tabF (lll.getD 0 []) = f := ⟨_, rfl⟩
     obtain ⟨f1, hf1'⟩ : ∃ f, newF key l = f := ⟨_, rfl⟩
     dsimp only at HYS HN6
     rw [hf0, hf1'] at HYS HN6 HEQ
     rw [hf0] at HRG
     rw [hf1'] at HNT
     clear hf0 hf1'
     have h0n : (0 : Int) < (i : Int) := by omega
     have hine : ¬ (i = 0) := by omega
     have hgd := guardPt
     have HRB1 := hide hrb
     clear hrb h1 h3
     have HALLB := hide (fun v1 (hb : Below wr.heap.size wr v1) => bx_all ((hb.block _ (show w.heap.size + 1 < wr.heap.size by omega)).trans HRB1.out))
     have hzwr : w.heap.size < wr.heap.size := by omega
     cases hr : eqPtB f0 f1 with
     | false =>
      go_wp2
      refine wp_region_held_drew (S := (fun w' => w'.rangeAt g 0 (ptL f0) ∧ w'.cell? ⟨w.heap.size, 0, none⟩ = some (.int .i64 key) ∧ w'.cell? ⟨w.heap.size, 1, none⟩ = some (.slice o l.length cap))) (by kernel_rfl) ⟨HRG.out, y0w, y1w⟩ (fun hHeld => ?_)
      refine wpAnyH_take (i := 0) (oi := _) (v := .slice (some ⟨g, 0, none⟩) i cq) rfl (by kernel_rfl) (by kernel_rfl) (by kernel_rfl) (fun _ _ _ h => h) (Or.inl ⟨by rfl, fun w hSw => by obtain ⟨_, hS1, hS2⟩ := hSw; go_simp⟩) hHeld ?_
      try simp only [Act.put, List.setIfInBounds_toArray, List.set_cons_zero, List.set_cons_succ]
      refine wpAnyH_take (i := 1) (oi := _) (v := .pointer (some ⟨g, 0, none⟩)) rfl (by kernel_rfl) (by kernel_rfl) (by kernel_rfl) (fun _ _ _ h => h) (Or.inl ⟨by rfl, fun w hSw => by obtain ⟨_, hS1, hS2⟩ := hSw; go_simp⟩) hHeld ?_
      try simp only [Act.put, List.setIfInBounds_toArray, List.set_cons_zero, List.set_cons_succ]
      refine wpAnyH_take (i := 2) (oi := _) (v := ptv f0) rfl (by kernel_rfl) (by kernel_rfl) (by kernel_rfl) (fun _ _ _ h => h) (yieldsIf_load_mid (by rfl) _ _ rfl g 0 rfl (ptL f0) _ (fun w h => h.1) ptU rfl ptI) hHeld ?_
      try simp only [Act.put, List.setIfInBounds_toArray, List.set_cons_zero, List.set_cons_succ]
      refine wpAnyH_take (i := 3) (oi := _) (v := .pointer (some ⟨w.heap.size, 0, none⟩)) rfl (by kernel_rfl) (by kernel_rfl) (by kernel_rfl) (fun _ _ _ h => h) (Or.inl ⟨by rfl, fun w hSw => by obtain ⟨_, hS1, hS2⟩ := hSw; go_simp⟩) hHeld ?_
      try simp only [Act.put, List.setIfInBounds_toArray, List.set_cons_zero, List.set_cons_succ]
      refine wpAnyH_take (i := 4) (oi := _) (v := .int .i64 key) rfl (by kernel_rfl) (by kernel_rfl) (by kernel_rfl) (fun _ _ _ h => h) (Or.inl ⟨by rfl, fun w hSw => by obtain ⟨_, hS1, hS2⟩ := hSw; go_simp⟩) hHeld ?_
      try simp only [Act.put, List.setIfInBounds_toArray, List.set_cons_zero, List.set_cons_succ]
      refine wpAnyH_take (i := 5) (oi := _) (v := .pointer (some ⟨w.heap.size, 1, none⟩)) rfl (by kernel_rfl) (by kernel_rfl) (by kernel_rfl) (fun _ _ _ h => h) (Or.inl ⟨by rfl, fun w hSw => by obtain ⟨_, hS1, hS2⟩ := hSw; go_simp⟩) hHeld ?_
      try simp only [Act.put, List.setIfInBounds_toArray, List.set_cons_zero, List.set_cons_succ]
      refine wpAnyH_take (i := 6) (oi := _) (v := .slice o l.length cap) rfl (by kernel_rfl) (by kernel_rfl) (by kernel_rfl) (fun _ _ _ h => h) (Or.inl ⟨by rfl, fun w hSw => by obtain ⟨_, hS1, hS2⟩ := hSw; go_simp⟩) hHeld ?_
      try simp only [Act.put, List.setIfInBounds_toArray, List.set_cons_zero, List.set_cons_succ]
      refine wpAnyH_ready (rs := [7]) (by kernel_rfl) (by simp) ?_
      refine AllReadyH.cons rfl (fun K hK => ?_) AllReadyH.nil
      go_simp
      go_at_call 202
      refine HNT.out.mono ?_
      rintro e v1 ⟨rfl, hb4⟩
      replace hb4 : Below wr.heap.size wr v1 := (Below.drew (Below.refl _ _)).trans hb4
      have k0 := bC hb4 y0w hzwr
      have k1 := bC hb4 y1w hzwr
      have k2 := bC hb4 y2w hzwr
      have hra := range_kept HRG.out hb4 hgl
      obtain ⟨q0, q1, q2, gq0, gq1, gq2⟩ := HALLB.out v1 hb4
      have HB4 := hide hb4
      clear hb4
      go_wp2_with fail
      refine hK.out _ _ ⟨hra, k0, k1⟩ (fun hHeld => ?_)
      clear hK K
      try simp only [Act.put, List.setIfInBounds_toArray, List.set_cons_zero, List.set_cons_succ]
      refine wpAnyH_ready (rs := [8]) (by kernel_rfl) (by simp) ?_
      refine AllReadyH.cons rfl (fun K hK => ?_) AllReadyH.nil
      have heq := HEQ.out v1
      rw [hr] at heq
      go_simp
      refine hK.out _ _ ⟨hra, k0, k1⟩ (fun hHeld => ?_)
      clear hK K hHeld heq
      try simp only [Act.put, List.setIfInBounds_toArray, List.set_cons_zero, List.set_cons_succ]
      refine wpAnyH_done (by kernel_rfl) ?_ _
      clear hra
      go_wp2
      refine bodyPost_ret (v := .tuple #[polv 0 (.slice none 0 0) (.slice none 0 0), .bool false]) (by simp [results, Tryz.results175, go_sem, q0, q1, q2]) rfl (from_no (HN6.out hr) (setQ_below (HBW.out.trans (HB4.out.mono HBW.out.size)) (Nat.le_succ _) _ _ _))
     | true =>
      go_wp2
      refine wp_region_held_drew (S := (fun w' => w'.rangeAt g 0 (ptL f0) ∧ w'.cell? ⟨w.heap.size, 0, none⟩ = some (.int .i64 key) ∧ w'.cell? ⟨w.heap.size, 1, none⟩ = some (.slice o l.length cap))) (by kernel_rfl) ⟨HRG.out, y0w, y1w⟩ (fun hHeld => ?_)
      refine wpAnyH_take (i := 0) (oi := _) (v := .slice (some ⟨g, 0, none⟩) i cq) rfl (by kernel_rfl) (by kernel_rfl) (by kernel_rfl) (fun _ _ _ h => h) (Or.inl ⟨by rfl, fun w hSw => by obtain ⟨_, hS1, hS2⟩ := hSw; go_simp⟩) hHeld ?_
      try simp only [Act.put, List.setIfInBounds_toArray, List.set_cons_zero, List.set_cons_succ]
      refine wpAnyH_take (i := 1) (oi := _) (v := .pointer (some ⟨g, 0, none⟩)) rfl (by kernel_rfl) (by kernel_rfl) (by kernel_rfl) (fun _ _ _ h => h) (Or.inl ⟨by rfl, fun w hSw => by obtain ⟨_, hS1, hS2⟩ := hSw; go_simp⟩) hHeld ?_
      try simp only [Act.put, List.setIfInBounds_toArray, List.set_cons_zero, List.set_cons_succ]
      refine wpAnyH_take (i := 2) (oi := _) (v := ptv f0) rfl (by kernel_rfl) (by kernel_rfl) (by kernel_rfl) (fun _ _ _ h => h) (yieldsIf_load_mid (by rfl) _ _ rfl g 0 rfl (ptL f0) _ (fun w h => h.1) ptU rfl ptI) hHeld ?_
      try simp only [Act.put, List.setIfInBounds_toArray, List.set_cons_zero, List.set_cons_succ]
      refine wpAnyH_take (i := 3) (oi := _) (v := .pointer (some ⟨w.heap.size, 0, none⟩)) rfl (by kernel_rfl) (by kernel_rfl) (by kernel_rfl) (fun _ _ _ h => h) (Or.inl ⟨by rfl, fun w hSw => by obtain ⟨_, hS1, hS2⟩ := hSw; go_simp⟩) hHeld ?_
      try simp only [Act.put, List.setIfInBounds_toArray, List.set_cons_zero, List.set_cons_succ]
      refine wpAnyH_take (i := 4) (oi := _) (v := .int .i64 key) rfl (by kernel_rfl) (by kernel_rfl) (by kernel_rfl) (fun _ _ _ h => h) (Or.inl ⟨by rfl, fun w hSw => by obtain ⟨_, hS1, hS2⟩ := hSw; go_simp⟩) hHeld ?_
      try simp only [Act.put, List.setIfInBounds_toArray, List.set_cons_zero, List.set_cons_succ]
      refine wpAnyH_take (i := 5) (oi := _) (v := .pointer (some ⟨w.heap.size, 1, none⟩)) rfl (by kernel_rfl) (by kernel_rfl) (by kernel_rfl) (fun _ _ _ h => h) (Or.inl ⟨by rfl, fun w hSw => by obtain ⟨_, hS1, hS2⟩ := hSw; go_simp⟩) hHeld ?_
      try simp only [Act.put, List.setIfInBounds_toArray, List.set_cons_zero, List.set_cons_succ]
      refine wpAnyH_take (i := 6) (oi := _) (v := .slice o l.length cap) rfl (by kernel_rfl) (by kernel_rfl) (by kernel_rfl) (fun _ _ _ h => h) (Or.inl ⟨by rfl, fun w hSw => by obtain ⟨_, hS1, hS2⟩ := hSw; go_simp⟩) hHeld ?_
      try simp only [Act.put, List.setIfInBounds_toArray, List.set_cons_zero, List.set_cons_succ]
      refine wpAnyH_ready (rs := [7]) (by kernel_rfl) (by simp) ?_
      refine AllReadyH.cons rfl (fun K hK => ?_) AllReadyH.nil
      go_simp
      go_at_call 202
      refine HNT.out.mono ?_
      rintro e v1 ⟨rfl, hb4⟩
      replace hb4 : Below wr.heap.size wr v1 := (Below.drew (Below.refl _ _)).trans hb4
      have k0 := bC hb4 y0w hzwr
      have k1 := bC hb4 y1w hzwr
      have k2 := bC hb4 y2w hzwr
      have hra := range_kept HRG.out hb4 hgl
      obtain ⟨q0, q1, q2, gq0, gq1, gq2⟩ := HALLB.out v1 hb4
      have HB4 := hide hb4
      clear hb4
      go_wp2_with fail
      refine hK.out _ _ ⟨hra, k0, k1⟩ (fun hHeld => ?_)
      clear hK K
      try simp only [Act.put, List.setIfInBounds_toArray, List.set_cons_zero, List.set_cons_succ]
      refine wpAnyH_ready (rs := [8]) (by kernel_rfl) (by simp) ?_
      refine AllReadyH.cons rfl (fun K hK => ?_) AllReadyH.nil
      have heq := HEQ.out v1
      rw [hr] at heq
      go_simp
      refine hK.out _ _ ⟨hra, k0, k1⟩ (fun hHeld => ?_)
      clear hK K hHeld heq
      try simp only [Act.put, List.setIfInBounds_toArray, List.set_cons_zero, List.set_cons_succ]
      refine wpAnyH_done (by kernel_rfl) ?_ _
      clear hra
      go_wp2
      refine bodyPost_ret (v := .tuple #[polv key (.slice o l.length cap) (.slice (some ⟨g, 0, none⟩) i cq), .bool true]) (by simp [results, Tryz.results175, go_sem, q0, q1, q2]) rfl ?_
      have hyes := HYS.out hr
      have hlow : w.heap.size + 1 < w2.heap.size := by omega
      have hown := own_low (own_low (own_low (own_kept HOW.out HB4.out) hlow 0 (.int .i64 key)) hlow 1 (.slice o l.length cap)) hlow 2 (.slice (some ⟨g, 0, none⟩) i cq)
      have hni := HNN.out
      subst hni
      exact ⟨_, by rw [hyes], fun _ => ⟨some ⟨g, 0, none⟩, cq, rfl, own_mono hown (by omega)⟩, fun h => absurd (h.symm.trans hyes) (by simp), setQ_below (HBW.out.trans (HB4.out.mono HBW.out.size)) (Nat.le_succ _) _ _ _⟩

end Go.Proofs.YtajfkcpifnpkeaaGreat

/- Pools as an argument of the laws: how they are opened, counted and copied. -/
namespace Go.Proofs.YtajfkcpifnpkeaaGreat
open Go.ChangeShapes Go.WideShapes Go.ChangeAt Go.RowKit Go.Joins
set_option linter.unusedVariables false
set_option linter.unusedSimpArgs false

theorem bx_allP {W : World} {B : Nat} {x y z : Value} {T : TypeId} (h : W.heap[B]? = some (.cells #[x, y, z] T (0, 0))) : W.cell? ⟨B, 0, none⟩ = some x ∧ W.cell? ⟨B, 1, none⟩ = some y ∧ W.cell? ⟨B, 2, none⟩ = some z ∧ W.frozen? ⟨B, 0, none⟩ = false ∧ W.frozen? ⟨B, 1, none⟩ = false ∧ W.frozen? ⟨B, 2, none⟩ = false :=
 ⟨bx_cell h 0 _ rfl, bx_cell h 1 _ rfl, bx_cell h 2 _ rfl, bx_frozen h 0, bx_frozen h 1, bx_frozen h 2⟩
theorem setP_belowT {C : Nat} {w W : World} {B : Nat} (h : Below C w W) (hB : C ≤ B) (x y z : Value) : Below C w (setP W B x y z) := ((h.setCell (p := ⟨B, 0, none⟩) hB _).setCell (p := ⟨B, 1, none⟩) hB _).setCell (p := ⟨B, 2, none⟩) hB _
theorem setP_sizeT (W : World) (B : Nat) (x y z : Value) : (setP W B x y z).heap.size = W.heap.size := by simp [World.setCell]
theorem stp_setT (W : World) (B : Nat) (x y z : Value) : Stp B (B + 1) W (setP W B x y z) := ((stp_set W B 0 x).trans (stp_set _ B 1 y)).trans (stp_set _ B 2 z)
theorem in_monoT {lo lo' hi : Nat} {w : World} {v : Value} {m : Pm} (h : InPm lo hi w v m) (hl : lo' ≤ lo) : InPm lo' hi w v m := by
 obtain ⟨vb, vr, mid, e, k1, k2, h1, h2⟩ := h
 exact ⟨vb, vr, mid, e, by omega, k2, InRow.mono h1 hl (Nat.le_refl _), h2⟩
theorem box_new3 (w : World) (c : Array Value) (T : TypeId) (o1 o2 : Obj) : (((w.alloc o1).alloc o2).alloc (.cells c T)).heap[w.heap.size + 1 + 1]? = some (.cells c T (0, 0)) := by
 have h := World.alloc_heap_new ((w.alloc o1).alloc o2) (.cells c T)
 rw [World.size_alloc, World.size_alloc] at h
 exact h
theorem box_mid3 (w : World) (c : Array Value) (T : TypeId) (o1 o2 : Obj) : (((w.alloc o1).alloc (.cells c T)).alloc o2).heap[w.heap.size + 1]? = some (.cells c T (0, 0)) := by
 have h := box_new2 w c T o1
 exact (Below.heap_alloc _ _ _ (by simp)).trans h
theorem fillU_step {T : TypeId} {wr : World} {base g : Nat} {hs : List Hd} {k n : Nat} {o : Option Addr} {m c : Nat} (hk : k < n) (hl : hs.length = k) (h : wr.ownsRow base T 1 (.slice (some ⟨g, 0, none⟩) n n) n ((hs ++ List.replicate (n - k) layH.d).flatMap layH.cs)) :
  (wr.setCell ⟨g, k, none⟩ (.slice o m c)).ownsRow base T 1 (.slice (some ⟨g, 0, none⟩) n n) n (((hs ++ [(o, m, c)]) ++ List.replicate (n - (k + 1)) layH.d).flatMap layH.cs) := by
 have h1 := (h.stored k (.slice o m c)).1
 rw [flat_set1 layH rfl (a := (o, m, c)) rfl] at h1
 have e1 : n - k = (n - (k + 1)) + 1 := by omega
 rw [e1, List.replicate_succ, List.set_append_right _ _ (by omega), hl, Nat.sub_self, List.set_cons_zero] at h1
 rw [List.append_assoc]
 exact h1
theorem RiT.at {a C : Nat} {w : World} {o : Option Addr} {n c : Nat} {ll : List (List Int)} (h : RiT a C w (.slice o n c) ll) (hC : C ≤ w.heap.size) (i : Nat) (hi : i < ll.length) : ∃ b off o' c', o = some ⟨b, off, none⟩ ∧ b < C ∧ w.cell? ⟨b, off + i, none⟩ = some (.slice o' (ll.getD i []).length c') ∧ RdI C w o' (ll.getD i []) := by
 obtain ⟨hs, h0, h1, h2⟩ := h
 obtain ⟨o1, c1, e, r⟩ := h1.open
 injection e with e1 e2 e3
 subst e1
 rcases r with r | ⟨b, off, ho, hb, r⟩
 ·subst r; simp at h0; omega
 ·obtain ⟨o', c', e', r'⟩ := (h2 i hi).open
  have hc := RdL.head r i (by omega)
  unfold hv at e'
  rw [e'] at hc
  exact ⟨b, off, o', c', ho, hb, hc, r'⟩

set_option maxRecDepth 100000 in
set_option maxHeartbeats 2000000 in
theorem toIntSS_in (v : Value) (xs : List (List Int)) (w : World) (hR : RiT 0 w.heap.size w v xs) (hlen : xs.length ≤ 1048576) (hx : ∀ i, i < xs.length → (xs.getD i []).length ≤ 1048576) :
  Calls Tryz.prog 161 #[v] w fun e w' => ∃ v', e = .returned v' ∧ InT w.heap.size w'.heap.size w' v' xs ∧ Below w.heap.size w w' := by
 obtain ⟨o, cap, ev⟩ : ∃ o c, v = .slice o xs.length c := by
  obtain ⟨hs, h0, ⟨o, c, e, _⟩, _⟩ := hR
  exact ⟨o, c, by rw [e, h0]⟩
 subst ev
 obtain ⟨i0, hi, hz0, hz1, hz2⟩ := info_parts infoIntS
 have HR0 := hide hR
 clear hR
 go_enter Tryz.func161, Tryz.ntmps161
 go_wp2_with (at_make; refine wpList_make_full _ rfl _ _ 152 rfl w.heap.size 175 i0 (.slice none 0 0) 1 Tryz.underlying152 hi hz0 hz1 _ _ _ _ xs.length rfl rfl rfl rfl ?b2 ?b3 ?b4 ?_)
 case b2 => rw [hz2]; omega
 case b3 => unfold maxLen; omega
 case b4 => simp
 intro w3 hown hgrow
 have HB3 := hide (show Below w.heap.size w w3 from (Below.refl _ _).grown hgrow (Nat.le_refl _) (fun k h => by cases h))
 have HO3 : Hid (w3.ownsRow w.heap.size 175 1 (.slice (some ⟨w.heap.size, 0, none⟩) xs.length xs.length) xs.length ((([] : List Hd) ++ List.replicate (xs.length - 0) layH.d).flatMap layH.cs)) := by
  rw [List.nil_append, Nat.sub_zero, ← made_flat layH (.slice none 0 0) rfl, show layH.k = 1 from rfl, Nat.mul_one]; exact hown
 have hs3 : w.heap.size + 1 ≤ w3.heap.size := (hown.lt w.heap.size rfl).2
 clear hown hgrow
 go_wp2
 go_loopw [4] (fun iv wr => ∃ (k : Nat) (hs : List Hd) (L H : Nat → Nat), k ≤ xs.length ∧ iv = .int .i64 (k : Int) ∧ Hid (wr.ownsRow w.heap.size 175 1 (.slice (some ⟨w.heap.size, 0, none⟩) xs.length xs.length) xs.length ((hs ++ List.replicate (xs.length - k) layH.d).flatMap layH.cs)) ∧ Hid (Rw InI [] (xs.take k) (w.heap.size + 1) wr.heap.size wr hs L H) ∧ Hid (Below w.heap.size w wr) ∧ w.heap.size + 1 ≤ wr.heap.size)
  (fun iv _ => xs.length - (intOf iv).toNat)
 case atStart => exact ⟨0, [], fun _ => 0, fun _ => 0, Nat.zero_le _, rfl, HO3.out, by rw [List.take_zero]; exact Rw.nil _ _ _ _ _ _ _, HB3.out, hs3⟩
 case round =>
  obtain ⟨k, hs, L, H, hk8, rfl, HO, HR, HBr, hsr⟩ := hrel
  clear HO3 HB3 hs3
  have hhl : hs.length = k := by have h1 := HR.out.len; rw [List.length_take] at h1; omega
  by_cases hlt : k < xs.length
  ·have z1 : (k : Int) < (xs.length : Int) := by omega
   have HS := hide (show xs.take (k + 1) = xs.take k ++ [xs.getD k []] by rw [List.take_succ_eq_append_getElem hlt]; simp [hlt])
   obtain ⟨b, off, o', c', rfl, hbl, hc0, hr0⟩ := HR0.out.at (Nat.le_refl _) k hlt
   have hc := bC HBr.out hc0 hbl
   have hbw : b < wr.heap.size := by omega
   have HL := hide (toIntS_any o' c' (xs.getD k []) wr ((hr0.kept HBr.out (Nat.le_refl _)).le HBr.out.size) (hx k hlt))
   have HXL := hide hlen
   clear hc0 hr0
   have HHL := hide hhl
   have hxs := HXL.out
   clear hxs
   obtain ⟨row, hrow⟩ : ∃ r, xs.getD k [] = r := ⟨_, rfl⟩
   rw [hrow] at HL hc HS
   clear hrow
   obtain ⟨q, hq⟩ : ∃ q, row.length = q := ⟨_, rfl⟩
   rw [hq] at HL hc
   have HQ := hide hq
   clear hq
   go_wp2_with fail
   refine HL.out.mono ?_
   rintro e v1 ⟨g4, rfl, ow4, hb4⟩
   obtain ⟨o4, ho4⟩ : ∃ o : Option Addr, some ⟨g4, 0, none⟩ = o := ⟨_, rfl⟩
   rw [ho4] at ow4 ⊢
   have HIN : Hid (InI wr.heap.size v1.heap.size v1 (.slice o4 q q) row) := InRow.of ow4
   clear ow4
   have HO4 := hide (own_kept HO.out hb4)
   have hln : ((hs ++ List.replicate (xs.length - k) layH.d).flatMap layH.cs).length = xs.length := by rw [flat_length, List.length_append, List.length_replicate, HHL.out, show layH.k = 1 from rfl]; omega
   have hcl := HO4.out.cellAt k (by omega)
   have hfr := HO4.out.frozenAt k
   obtain ⟨u, hu⟩ : ∃ u, v1.cell? ⟨w.heap.size, k, none⟩ = some u := ⟨_, hcl.trans (List.getElem?_eq_getElem (by omega))⟩
   have HO5 := hide (fillU_step (o := o4) (m := q) (c := q) hlt HHL.out HO4.out)
   have HR4 := (HR.out.kept InI.stp hb4).snoc (l2 := wr.heap.size) (h2 := v1.heap.size) (Nat.le_refl _) (by omega) hb4.size (x := row) (o := o4) (m := q) (c := q) HIN.out
   rw [← HS.out] at HR4
   have HR5 := HR4.step InI.stp (stp_set v1 w.heap.size k (.slice o4 q q)) (fun i hi => .inl (HR4.bd i hi).1)
   have HR6 : Hid (Rw InI [] (xs.take (k + 1)) (w.heap.size + 1) (v1.setCell ⟨w.heap.size, k, none⟩ (.slice o4 q q)).heap.size (v1.setCell ⟨w.heap.size, k, none⟩ (.slice o4 q q)) _ _ _) := HR5.mono (Nat.le_refl _) (by simp)
   have HB5 := hide ((HBr.out.trans (hb4.mono HBr.out.size)).setCell (p := ⟨w.heap.size, k, none⟩) (Nat.le_refl _) (.slice o4 q q))
   have hs5 : w.heap.size + 1 ≤ v1.heap.size := by have := hb4.size; omega
   clear hb4 hcl HR4 HR5 hln HL hhl hc
   go_wp2
   go_roundw
   case rel => exact ⟨k + 1, _, _, _, by omega, by go_num, HO5.out, HR6.out, HB5.out, by simpa using hs5⟩
   case measure => simp [intOf]; omega
  ·have e : k = xs.length := by omega
   subst e
   go_wp2
   go_ret
   have h1 := HO.out
   rw [Nat.sub_self, List.replicate_zero, List.append_nil] at h1
   have h2 := HR.out
   rw [List.take_length] at h2
   have h3 : ∀ b, (Value.slice (some ⟨w.heap.size, 0, none⟩) xs.length xs.length).ownBlock = some b → b = w.heap.size := fun b e => (Option.some.inj e).symm
   have h4 : InT w.heap.size wr.heap.size wr (.slice (some ⟨w.heap.size, 0, none⟩) xs.length xs.length) xs := by
    refine ⟨hs, L, H, ⟨by rw [hhl]; exact h1, fun b e => ?_⟩, h2.mono (by omega) (Nat.le_refl _), fun i hi b e => ?_⟩
    ·have := h3 b e; omega
    ·have := h3 b e
     have := h2.bd i hi
     omega
   exact ⟨_, rfl, h4, HBr.out⟩

set_option maxRecDepth 100000 in
set_option maxHeartbeats 2000000 in
theorem toIntSSS_in (v : Value) (xs : List (List (List Int))) (w : World) (hR : RiR 0 w.heap.size w v xs) (hlen : xs.length ≤ 1048576) (hx : ∀ i, i < xs.length → (xs.getD i []).length ≤ 1048576) (hy : ∀ i, i < xs.length → ∀ j, j < (xs.getD i []).length → ((xs.getD i []).getD j []).length ≤ 1048576) :
  Calls Tryz.prog 108 #[v] w fun e w' => ∃ v', e = .returned v' ∧ InR w.heap.size w'.heap.size w' v' xs ∧ Below w.heap.size w w' := by
 obtain ⟨o, cap, ev⟩ : ∃ o c, v = .slice o xs.length c := by
  obtain ⟨hs, h0, ⟨o, c, e, _⟩, _⟩ := hR
  exact ⟨o, c, by rw [e, h0]⟩
 subst ev
 obtain ⟨i0, hi, hz0, hz1, hz2⟩ := info_parts infoIntSS
 have HR0 := hide hR
 clear hR
 go_enter Tryz.func108, Tryz.ntmps108
 go_wp2_with (at_make; refine wpList_make_full _ rfl _ _ 26 rfl w.heap.size 152 i0 (.slice none 0 0) 1 Tryz.underlying26 hi hz0 hz1 _ _ _ _ xs.length rfl rfl rfl rfl ?b2 ?b3 ?b4 ?_)
 case b2 => rw [hz2]; omega
 case b3 => unfold maxLen; omega
 case b4 => simp
 intro w3 hown hgrow
 have HB3 := hide (show Below w.heap.size w w3 from (Below.refl _ _).grown hgrow (Nat.le_refl _) (fun k h => by cases h))
 have HO3 : Hid (w3.ownsRow w.heap.size 152 1 (.slice (some ⟨w.heap.size, 0, none⟩) xs.length xs.length) xs.length ((([] : List Hd) ++ List.replicate (xs.length - 0) layH.d).flatMap layH.cs)) := by
  rw [List.nil_append, Nat.sub_zero, ← made_flat layH (.slice none 0 0) rfl, show layH.k = 1 from rfl, Nat.mul_one]; exact hown
 have hs3 : w.heap.size + 1 ≤ w3.heap.size := (hown.lt w.heap.size rfl).2
 clear hown hgrow
 go_wp2
 go_loopw [4] (fun iv wr => ∃ (k : Nat) (hs : List Hd) (L H : Nat → Nat), k ≤ xs.length ∧ iv = .int .i64 (k : Int) ∧ Hid (wr.ownsRow w.heap.size 152 1 (.slice (some ⟨w.heap.size, 0, none⟩) xs.length xs.length) xs.length ((hs ++ List.replicate (xs.length - k) layH.d).flatMap layH.cs)) ∧ Hid (Rw InT [] (xs.take k) (w.heap.size + 1) wr.heap.size wr hs L H) ∧ Hid (Below w.heap.size w wr) ∧ w.heap.size + 1 ≤ wr.heap.size)
  (fun iv _ => xs.length - (intOf iv).toNat)
 case atStart => exact ⟨0, [], fun _ => 0, fun _ => 0, Nat.zero_le _, rfl, HO3.out, by rw [List.take_zero]; exact Rw.nil _ _ _ _ _ _ _, HB3.out, hs3⟩
 case round =>
  obtain ⟨k, hs, L, H, hk8, rfl, HO, HR, HBr, hsr⟩ := hrel
  clear HO3 HB3 hs3
  have hhl : hs.length = k := by have h1 := HR.out.len; rw [List.length_take] at h1; omega
  by_cases hlt : k < xs.length
  ·have z1 : (k : Int) < (xs.length : Int) := by omega
   have HS := hide (show xs.take (k + 1) = xs.take k ++ [xs.getD k []] by rw [List.take_succ_eq_append_getElem hlt]; simp [hlt])
   obtain ⟨b, off, o', c', rfl, hbl0, hc0, hr0⟩ := (RiR.mon.go (RiR.stp.go HR0.out (lo := w.heap.size) (hi := w.heap.size + wr.heap.size) ⟨HBr.out.os, HBr.out.tape, HBr.out.output, HBr.out.size, fun k hk _ => HBr.out.block k hk⟩ (.inr (Nat.le_refl _))) (Nat.le_refl _) HBr.out.size).at (Nat.le_refl _) k hlt
   have hc := hc0
   have HL := hide (toIntSS_in (.slice o' (xs.getD k []).length c') (xs.getD k []) wr (RiT.of hr0) (hx k hlt) (hy k hlt))
   have HXL := hide hlen
   clear hc0 hr0
   have HHL := hide hhl
   have hxs := HXL.out
   clear hxs
   obtain ⟨row, hrow⟩ : ∃ r, xs.getD k [] = r := ⟨_, rfl⟩
   rw [hrow] at HL hc HS
   clear hrow
   obtain ⟨q, hq⟩ : ∃ q, row.length = q := ⟨_, rfl⟩
   rw [hq] at HL hc
   have HQ := hide hq
   clear hq
   go_wp2_with fail
   refine HL.out.mono ?_
   rintro e v1 ⟨v4, rfl, in4, hb4⟩
   obtain ⟨o4, c4, e4, _⟩ := RiT.rd (InT.ri in4)
   rw [HQ.out] at e4
   subst e4
   have HIN := hide in4
   clear in4
   have HO4 := hide (own_kept HO.out hb4)
   have hln : ((hs ++ List.replicate (xs.length - k) layH.d).flatMap layH.cs).length = xs.length := by rw [flat_length, List.length_append, List.length_replicate, HHL.out, show layH.k = 1 from rfl]; omega
   have hcl := HO4.out.cellAt k (by omega)
   have hfr := HO4.out.frozenAt k
   obtain ⟨u, hu⟩ : ∃ u, v1.cell? ⟨w.heap.size, k, none⟩ = some u := ⟨_, hcl.trans (List.getElem?_eq_getElem (by omega))⟩
   have HO5 := hide (fillU_step (o := o4) (m := q) (c := c4) hlt HHL.out HO4.out)
   have HR4 := (HR.out.kept InT.stp hb4).snoc (l2 := wr.heap.size) (h2 := v1.heap.size) (Nat.le_refl _) (by omega) hb4.size (x := row) (o := o4) (m := q) (c := c4) HIN.out
   rw [← HS.out] at HR4
   have HR5 := HR4.step InT.stp (stp_set v1 w.heap.size k (.slice o4 q c4)) (fun i hi => .inl (HR4.bd i hi).1)
   have HR6 : Hid (Rw InT [] (xs.take (k + 1)) (w.heap.size + 1) (v1.setCell ⟨w.heap.size, k, none⟩ (.slice o4 q c4)).heap.size (v1.setCell ⟨w.heap.size, k, none⟩ (.slice o4 q c4)) _ _ _) := HR5.mono (Nat.le_refl _) (by simp)
   have HB5 := hide ((HBr.out.trans (hb4.mono HBr.out.size)).setCell (p := ⟨w.heap.size, k, none⟩) (Nat.le_refl _) (.slice o4 q c4))
   have hs5 : w.heap.size + 1 ≤ v1.heap.size := by have := hb4.size; omega
   clear hb4 hcl HR4 HR5 hln HL hhl hc
   go_wp2
   go_roundw
   case rel => exact ⟨k + 1, _, _, _, by omega, by go_num, HO5.out, HR6.out, HB5.out, by simpa using hs5⟩
   case measure => simp [intOf]; omega
  ·have e : k = xs.length := by omega
   subst e
   go_wp2
   go_ret
   have h1 := HO.out
   rw [Nat.sub_self, List.replicate_zero, List.append_nil] at h1
   have h2 := HR.out
   rw [List.take_length] at h2
   have h3 : ∀ b, (Value.slice (some ⟨w.heap.size, 0, none⟩) xs.length xs.length).ownBlock = some b → b = w.heap.size := fun b e => (Option.some.inj e).symm
   have h4 : InR w.heap.size wr.heap.size wr (.slice (some ⟨w.heap.size, 0, none⟩) xs.length xs.length) xs := by
    refine ⟨hs, L, H, ⟨by rw [hhl]; exact h1, fun b e => ?_⟩, h2.mono (by omega) (Nat.le_refl _), fun i hi b e => ?_⟩
    ·have := h3 b e; omega
    ·have := h3 b e
     have := h2.bd i hi
     omega
   exact ⟨_, rfl, h4, HBr.out⟩

theorem leftTo_sum (ll : List (List Int)) (n : Int) : ∀ k, leftTo ll n k = n - (ll.length : Int) - (sumN (lenT ll) k : Int)
 | 0 => by simp [leftTo, sumN]
 | k + 1 => by
  rw [leftTo, leftTo_sum ll n k, show sumN (lenT ll) (k + 1) = sumN (lenT ll) k + (ll.getD k []).length from rfl]
  omega
set_option maxRecDepth 100000 in
set_option maxHeartbeats 1000000 in
theorem szIntSSS_any (v : Value) (lll : List (List (List Int))) (n : Int) (w : World) (hR : RiR 0 w.heap.size w v lll) (hl : lll.length ≤ maxLen) (hx : ∀ i, i < lll.length → (lll.getD i []).length ≤ maxLen) (hy : ∀ i, i < lll.length → ∀ j, j < (lll.getD i []).length → ((lll.getD i []).getD j []).length ≤ maxLen) (h0 : 0 ≤ n) (h1 : n ≤ 1048576) :
  Calls Tryz.prog 99 #[v, .int .i64 n] w fun e w' => (e = .returned (.int .i64 (-1)) ∨ ∃ z : Int, e = .returned (.int .i64 z) ∧ 0 ≤ z ∧ z ≤ n ∧ (lll.length : Int) + (szR lll : Int) ≤ n ∧ ∀ i, i < lll.length → ((lll.getD i []).length : Int) ≤ n) ∧ Below w.heap.size w w' := by
 obtain ⟨o, cap, ev⟩ : ∃ o c, v = .slice o lll.length c := by
  obtain ⟨hs, h0, ⟨o, c, e, _⟩, _⟩ := hR
  exact ⟨o, c, by rw [e, h0]⟩
 subst ev
 have hl' := hl
 unfold maxLen at hl'
 by_cases h : n - lll.length < 0
 ·go_enter Tryz.func99, Tryz.ntmps99
  go_wp2
  go_ret
  exact ⟨.inl rfl, Below.refl _ _⟩
 ·go_enter Tryz.func99, Tryz.ntmps99
  go_wp2
  go_loopw [1, 5] (fun n' i wr => ∃ (k : Nat) (z : Int), k ≤ lll.length ∧ i = .int .i64 (k : Int) ∧ n' = .int .i64 z ∧ 0 ≤ z ∧ z ≤ n - (lll.length : Int) - (sumN (lenR lll) k : Int) ∧ Hid (∀ i, i < k → ((lll.getD i []).length : Int) ≤ n) ∧ Hid (Below w.heap.size w wr))
   (fun _ i _ => lll.length - (intOf i).toNat)
  case atStart => exact ⟨0, n - lll.length, Nat.zero_le _, rfl, rfl, by omega, by simp [sumN], fun i hi => absurd hi (Nat.not_lt_zero _), Below.refl _ _⟩
  case round =>
   obtain ⟨k, z, hk, rfl, rfl, hz0, hz1, HLN, HBr⟩ := hrel
   by_cases hlt : k < lll.length
   ·obtain ⟨b, off, o', c', rfl, hb, hc, hr⟩ := (RiR.mon.go (RiR.stp.go hR (Stp.of (lo := 0) (hi := 0) HBr.out) (.inl (Nat.zero_le _))) (Nat.le_refl _) HBr.out.size).at (Nat.le_refl _) k hlt
    have hsn : (0 : Int) ≤ (sumN (lenR lll) k : Int) := by omega
    have HZ := hide (szIntSS_any o' (lll.getD k []) c' z wr hr (hx k hlt) (hy k hlt) hz0 (by omega))
    have HSU := hide (show sumN (lenR lll) (k + 1) = sumN (lenR lll) k + szT (lll.getD k []) from rfl)
    have HEL := hide (show leftLL (lll.getD k []) z = z - ((lll.getD k []).length : Int) - (szT (lll.getD k []) : Int) from leftTo_sum _ _ _)
    have hz1' := hz1
    obtain ⟨ll, hll⟩ : ∃ ll, lll.getD k [] = ll := ⟨_, rfl⟩
    rw [hll] at hc HZ HSU HEL
    have HLL := hide hll
    have HR := hide hR
    clear hr hll hR hx hy
    obtain ⟨m, hm⟩ : ∃ m, ll.length = m := ⟨_, rfl⟩
    rw [hm] at hc HZ HEL
    have HM := hide hm
    clear hm
    generalize sumN (lenR lll) k = sk at *
    go_wp2_with fail
    refine HZ.out.mono ?_
    rintro e w2 ⟨rfl | ⟨hfit, rfl⟩, hb2⟩
    ·have HB2 := hide (HBr.out.trans (hb2.mono HBr.out.size))
     clear hb2
     go_wp2
     go_ret
     exact ⟨.inl rfl, HB2.out⟩
    ·have HB2 := hide (HBr.out.trans (hb2.mono HBr.out.size))
     have hpos := hfit ll.length (Nat.le_refl _)
     have hpos' : 0 ≤ leftLL ll z := hpos
     have hE := HEL.out
     have hmz : (m : Int) ≤ n := by omega
     have HE2 := hide hE
     clear hfit hb2 hpos hE HEL
     generalize leftLL ll z = y at *
     go_wp2
     go_roundw
     case rel => exact ⟨k + 1, y, by omega, by go_num, rfl, hpos', by (have := HE2.out; rw [HSU.out]; push_cast; omega), fun i hi => (by rcases Nat.lt_succ_iff_lt_or_eq.1 hi with h' | h'; exact HLN.out i h'; rw [h', HLL.out, HM.out]; exact hmz), HB2.out⟩
     case measure => simp [intOf]; omega
   ·have e : k = lll.length := by omega
    subst e
    have hsz : sumN (lenR lll) lll.length = szR lll := rfl
    rw [hsz] at hz1
    clear hsz
    go_wp2
    go_ret
    exact ⟨.inr ⟨z, rfl, hz0, by omega, by omega, HLN.out⟩, HBr.out⟩
theorem row_le (ll : List (List Int)) (j : Nat) (h : j < ll.length) : (ll.getD j []).length ≤ szT ll := by
 have := sumN_at (lenT ll) h
 unfold szT; unfold lenT at *; omega
theorem tab_le (lll : List (List (List Int))) (i : Nat) (h : i < lll.length) : szT (lll.getD i []) ≤ szR lll := by
 have := sumN_at (lenR lll) h
 unfold szR; unfold lenR at *; omega
theorem fit_of {key : Int} {l : List Bk} {lll : List (List (List Int))} {n : Int} (hn : n ≤ 1048576) (hl : (l.length : Int) ≤ 1048576) (h1 : (lll.length : Int) + (szR lll : Int) ≤ n) (h2 : ∀ i, i < lll.length → ((lll.getD i []).length : Int) ≤ n) : fitPm ⟨key, l, lll⟩ :=
 ⟨by show l.length ≤ _; omega, by show lll.length ≤ _; omega, by show szR lll ≤ _; omega, fun i hi => by have := h2 i hi; show (lll.getD i []).length ≤ _; omega, fun i hi j hj => by
  have h3 := row_le (lll.getD i []) j hj
  have h4 := tab_le lll i hi
  show ((lll.getD i []).getD j []).length ≤ _
  omega⟩
/-- A pool's lengths may be lengths. -/
def lenPm (m : Pm) : Prop := m.l.length ≤ maxLen ∧ m.ring.length ≤ maxLen ∧ (∀ i, i < m.ring.length → (m.ring.getD i []).length ≤ maxLen) ∧ ∀ i, i < m.ring.length → ∀ j, j < (m.ring.getD i []).length → ((m.ring.getD i []).getD j []).length ≤ maxLen
set_option maxRecDepth 100000 in
set_option maxHeartbeats 1000000 in
theorem szPool_n (v : Value) (m : Pm) (n : Int) (w : World) (hR : RdPm w.heap.size w v m) (hl : lenPm m) (hn0 : 0 ≤ n) (hn1 : n ≤ 1048576) :
  Calls Tryz.prog 45 #[v, .int .i64 n] w fun e w' => (∃ z : Int, e = .returned (.int .i64 z) ∧ ((z < 0 ∧ -1 ≤ z) ∨ (0 ≤ z ∧ z ≤ n ∧ fitPm m))) ∧ Below w.heap.size w w' := by
 obtain ⟨vb, vr, rfl, ⟨o, c, rfl, b1⟩, r1⟩ := hR
 obtain ⟨oR, cR, rfl⟩ := RiR.len r1
 obtain ⟨l1, l2, l3, l4⟩ := hl
 have hs := fun W => szBackS_any o m.l.length c n W l1 hn0 hn1
 have HRG := hide (fun W (hb : Below w.heap.size w W) (z : Int) h0 h1 => szIntSSS_any (.slice oR m.ring.length cR) m.ring z W (RiR.mon.go (RiR.stp.go r1 (Stp.of (lo := 0) (hi := 0) hb) (.inl (Nat.zero_le _))) (Nat.le_refl _) hb.size) l2 l3 l4 h0 h1)
 clear b1 r1 l3 l4
 obtain ⟨W0, hW0⟩ : ∃ W, (w.alloc (.cells #[.int .i64 m.key, .slice o m.l.length c, .slice oR m.ring.length cR] 28)) = W := ⟨_, rfl⟩
 have hb_W0 : Below w.heap.size w W0 := by rw [← hW0]; exact ((Below.refl _ _).alloc (Nat.le_refl _) _)
 have HB := hide hb_W0
 clear hb_W0
 have zz : w.heap.size < W0.heap.size := by rw [← hW0]; simp
 have z0 : W0.cell? ⟨w.heap.size, 0, none⟩ = some (.int .i64 m.key) := by rw [← hW0]; simp [go_sem]
 have z1 : W0.cell? ⟨w.heap.size, 1, none⟩ = some (.slice o m.l.length c) := by rw [← hW0]; simp [go_sem]
 have z2 : W0.cell? ⟨w.heap.size, 2, none⟩ = some (.slice oR m.ring.length cR) := by rw [← hW0]; simp [go_sem]
 by_cases h : n - (m.l.length : Int) < 0
 ·rw [if_pos h] at hs
  go_enter Tryz.func45, Tryz.ntmps45
  go_wp2_with fail
  refine (hs _).mono ?_
  rintro e w1 ⟨rfl, rfl⟩
  go_wp2
  go_ret
  exact ⟨⟨_, rfl, .inl ⟨by decide, by decide⟩⟩, HB.out⟩
 ·rw [if_neg h] at hs
  have hz0 : (0 : Int) ≤ n - (m.l.length : Int) := by omega
  have HRG2 := hide (HRG.out W0 HB.out (n - (m.l.length : Int)) hz0 (by omega))
  go_enter Tryz.func45, Tryz.ntmps45
  go_wp2_with fail
  refine (hs _).mono ?_
  rintro e w1 ⟨rfl, rfl⟩
  go_wp2_with fail
  refine HRG2.out.mono ?_
  rintro e w2 ⟨rfl | ⟨z, rfl, hz1, hz2, hz3, hz4⟩, hb2⟩
  ·have HB2 := hide (HB.out.trans (hb2.mono HB.out.size))
   clear hb2
   go_wp2
   go_ret
   exact ⟨⟨_, rfl, .inl ⟨by decide, by decide⟩⟩, HB2.out⟩
  ·have HB2 := hide (HB.out.trans (hb2.mono HB.out.size))
   have HF : Hid (fitPm m) := fit_of (n := n - (m.l.length : Int)) (by omega) (by omega) hz3 hz4
   clear hb2 hz3 hz4
   go_wp2
   go_ret
   exact ⟨⟨_, rfl, .inr ⟨hz1, by omega, HF.out⟩⟩, HB2.out⟩

set_option maxRecDepth 100000 in
set_option maxHeartbeats 2000000 in
theorem toPool_sh (v : Value) (m : Pm) (w : World) (hR : RdPm w.heap.size w v m) (hf : fitPm m) :
  Calls Tryz.prog 52 #[v] w fun e w' => ∃ v', e = .returned v' ∧ InPm w.heap.size w'.heap.size w' v' m ∧ Below w.heap.size w w' := by
 obtain ⟨vb, vr, rfl, ⟨o, c, rfl, b1⟩, r1⟩ := hR
 obtain ⟨oR, cR, rfl⟩ := RiR.len r1
 obtain ⟨hf1, hf2, hf3, hf4, hf5⟩ := hf
 have HBK := hide (fun W (hb : Below w.heap.size w W) => toBackS_any o c m.l W ((b1.rd.kept hb (Nat.le_refl _)).le hb.size) hf1)
 have HRG := hide (fun W (hb : Below w.heap.size w W) => toIntSSS_in (.slice oR m.ring.length cR) m.ring W (RiR.mon.go (RiR.stp.go r1 (Stp.of (lo := 0) (hi := 0) hb) (.inl (Nat.zero_le _))) (Nat.le_refl _) hb.size) hf2 hf4 hf5)
 clear b1 r1 hf4 hf5
 obtain ⟨W0, hW0⟩ : ∃ W, (((w.alloc (.cells #[.int .i64 m.key, .slice o m.l.length c, .slice oR m.ring.length cR] 28)).alloc (.cells #[.int .i64 0, .slice none 0 0, .slice none 0 0] 41)).alloc (.cells #[.int .i64 0, .slice none 0 0, .slice none 0 0] 41)) = W := ⟨_, rfl⟩
 have hb_W0 : Below w.heap.size w W0 := by rw [← hW0]; exact ((((Below.refl _ _).alloc (Nat.le_refl _) _).alloc (by simp <;> omega) _).alloc (by simp <;> omega) _)
 have HB := hide hb_W0
 clear hb_W0
 have zz : w.heap.size < W0.heap.size := by rw [← hW0]; simp <;> omega
 have z0 : W0.cell? ⟨w.heap.size, 0, none⟩ = some (.int .i64 m.key) := by rw [← hW0]; simp [go_sem]
 have z1 : W0.cell? ⟨w.heap.size, 1, none⟩ = some (.slice o m.l.length c) := by rw [← hW0]; simp [go_sem]
 have z2 : W0.cell? ⟨w.heap.size, 2, none⟩ = some (.slice oR m.ring.length cR) := by rw [← hW0]; simp [go_sem]
 have zr : w.heap.size + 1 < W0.heap.size := by rw [← hW0]; simp <;> omega
 have r0 : W0.cell? ⟨w.heap.size + 1, 0, none⟩ = some (.int .i64 0) := by rw [← hW0]; simp [go_sem]
 have r1 : W0.cell? ⟨w.heap.size + 1, 1, none⟩ = some (.slice none 0 0) := by rw [← hW0]; simp [go_sem]
 have r2 : W0.cell? ⟨w.heap.size + 1, 2, none⟩ = some (.slice none 0 0) := by rw [← hW0]; simp [go_sem]
 have fr0 : W0.frozen? ⟨w.heap.size + 1, 0, none⟩ = false := by rw [← hW0]; simp [go_sem]
 have fr1 : W0.frozen? ⟨w.heap.size + 1, 1, none⟩ = false := by rw [← hW0]; simp [go_sem]
 have fr2 : W0.frozen? ⟨w.heap.size + 1, 2, none⟩ = false := by rw [← hW0]; simp [go_sem]
 have zx : w.heap.size + 1 + 1 < W0.heap.size := by rw [← hW0]; simp
 have x0 : W0.cell? ⟨w.heap.size + 1 + 1, 0, none⟩ = some (.int .i64 0) := by rw [← hW0]; simp [go_sem]
 have x1 : W0.cell? ⟨w.heap.size + 1 + 1, 1, none⟩ = some (.slice none 0 0) := by rw [← hW0]; simp [go_sem]
 have x2 : W0.cell? ⟨w.heap.size + 1 + 1, 2, none⟩ = some (.slice none 0 0) := by rw [← hW0]; simp [go_sem]
 have fx0 : W0.frozen? ⟨w.heap.size + 1 + 1, 0, none⟩ = false := by rw [← hW0]; simp [go_sem]
 have fx1 : W0.frozen? ⟨w.heap.size + 1 + 1, 1, none⟩ = false := by rw [← hW0]; simp [go_sem]
 have fx2 : W0.frozen? ⟨w.heap.size + 1 + 1, 2, none⟩ = false := by rw [← hW0]; simp [go_sem]
 have h0x : W0.heap[w.heap.size + 1 + 1]? = some (.cells #[.int .i64 0, .slice none 0 0, .slice none 0 0] 41 (0, 0)) := by rw [← hW0]; exact box_new3 w _ _ _ _
 have h0r : W0.heap[w.heap.size + 1]? = some (.cells #[.int .i64 0, .slice none 0 0, .slice none 0 0] 41 (0, 0)) := by rw [← hW0]; exact box_mid3 w _ _ _ _
 have hzx := zx
 have hw0 := HB.out.size
 obtain ⟨W1, hW1⟩ : ∃ W, W0.setCell ⟨w.heap.size + 1 + 1, 0, none⟩ (.int .i64 m.key) = W := ⟨_, rfl⟩
 have h1x := box_put h0x 0 (.int .i64 m.key)
 rw [hW1] at h1x
 have h1r : W1.heap[w.heap.size + 1]? = some (.cells #[.int .i64 0, .slice none 0 0, .slice none 0 0] 41 (0, 0)) := by rw [← hW1]; exact (far_block (by omega) _ _).trans h0r
 have hs1 : W1.heap.size = W0.heap.size := by rw [← hW1]; simp
 have hB1 : Below w.heap.size w W1 := by rw [← hW1]; exact HB.out.setCell (p := ⟨w.heap.size + 1 + 1, 0, none⟩) (show w.heap.size ≤ w.heap.size + 1 + 1 by omega) _
 have a0 : W1.cell? ⟨w.heap.size, 0, none⟩ = some (.int .i64 m.key) := by rw [← hW1]; exact (cell_far (by omega)).trans z0
 have a1 : W1.cell? ⟨w.heap.size, 1, none⟩ = some (.slice o m.l.length c) := by rw [← hW1]; exact (cell_far (by omega)).trans z1
 have a2 : W1.cell? ⟨w.heap.size, 2, none⟩ = some (.slice oR m.ring.length cR) := by rw [← hW1]; exact (cell_far (by omega)).trans z2
 have HB1 := hide hB1
 have HS1 := hide hs1
 have H1X := hide h1x
 have H1R := hide h1r
 clear hB1 hs1 h1x h1r h0x h0r z1 z2 r0 r1 r2 fr0 fr1 fr2 HB
 go_enter Tryz.func52, Tryz.ntmps52
 go_wp2_with fail
 refine (HBK.out W1 HB1.out).mono ?_
 rintro e v1 ⟨g1, rfl, ow1, hb1⟩
 have hsv := hb1.size
 have hx1 := (hb1.block _ (show w.heap.size + 1 + 1 < W1.heap.size by have := HS1.out; omega)).trans H1X.out
 have hr1 := (hb1.block _ (show w.heap.size + 1 < W1.heap.size by have := HS1.out; omega)).trans H1R.out
 have b0 := bC hb1 a0 (by have := HS1.out; omega)
 have b1 := bC hb1 a1 (by have := HS1.out; omega)
 have b2 := bC hb1 a2 (by have := HS1.out; omega)
 have p1 : v1.cell? ⟨w.heap.size + 1 + 1, 1, none⟩ = some (.slice none 0 0) := bx_cell hx1 1 _ rfl
 have q1 := bx_frozen hx1 1
 obtain ⟨og, hog⟩ : ∃ o : Option Addr, some ⟨g1, 0, none⟩ = o := ⟨_, rfl⟩
 rw [hog] at ow1 ⊢
 clear hog
 obtain ⟨W2, hW2⟩ : ∃ W, v1.setCell ⟨w.heap.size + 1 + 1, 1, none⟩ (.slice og m.l.length m.l.length) = W := ⟨_, rfl⟩
 have h2x := box_put hx1 1 (.slice og m.l.length m.l.length)
 rw [hW2] at h2x
 have h2r : W2.heap[w.heap.size + 1]? = some (.cells #[.int .i64 0, .slice none 0 0, .slice none 0 0] 41 (0, 0)) := by rw [← hW2]; exact (far_block (by omega) _ _).trans hr1
 have hs2 : W2.heap.size = v1.heap.size := by rw [← hW2]; simp
 have hB2 : Below w.heap.size w W2 := by rw [← hW2]; exact (HB1.out.trans (hb1.mono HB1.out.size)).setCell (p := ⟨w.heap.size + 1 + 1, 1, none⟩) (show w.heap.size ≤ w.heap.size + 1 + 1 by omega) _
 have HO2 : Hid (InL layK 150 W0.heap.size W2.heap.size W2 (.slice og m.l.length m.l.length) m.l) := by rw [← hW2]; exact InRow.of (own_low (own_mono ow1 (by have := HS1.out; omega)) hzx 1 _)
 have d0 : W2.cell? ⟨w.heap.size, 0, none⟩ = some (.int .i64 m.key) := by rw [← hW2]; exact (cell_far (by omega)).trans b0
 have d1 : W2.cell? ⟨w.heap.size, 1, none⟩ = some (.slice o m.l.length c) := by rw [← hW2]; exact (cell_far (by omega)).trans b1
 have d2 : W2.cell? ⟨w.heap.size, 2, none⟩ = some (.slice oR m.ring.length cR) := by rw [← hW2]; exact (cell_far (by omega)).trans b2
 have HB2 := hide hB2
 have HS2 := hide hs2
 have H2X := hide h2x
 have H2R := hide h2r
 clear hB2 hs2 h2x h2r hx1 hr1 ow1 hb1
 go_wp2_with fail
 refine (HRG.out W2 HB2.out).mono ?_
 rintro e v3 ⟨vr3, rfl, in3, hb3⟩
 obtain ⟨o3, c3, e3⟩ := RiR.len (InR.ri in3)
 subst e3
 have hsv3 := hb3.size
 have hx3 := (hb3.block _ (show w.heap.size + 1 + 1 < W2.heap.size by have := HS2.out; have := HS1.out; omega)).trans H2X.out
 have hr3 := (hb3.block _ (show w.heap.size + 1 < W2.heap.size by have := HS2.out; have := HS1.out; omega)).trans H2R.out
 have p2 : v3.cell? ⟨w.heap.size + 1 + 1, 2, none⟩ = some (.slice none 0 0) := bx_cell hx3 2 _ rfl
 have q2 := bx_frozen hx3 2
 obtain ⟨W4, hW4⟩ : ∃ W, v3.setCell ⟨w.heap.size + 1 + 1, 2, none⟩ (.slice o3 m.ring.length c3) = W := ⟨_, rfl⟩
 have h4x := box_put hx3 2 (.slice o3 m.ring.length c3)
 rw [hW4] at h4x
 have h4r : W4.heap[w.heap.size + 1]? = some (.cells #[.int .i64 0, .slice none 0 0, .slice none 0 0] 41 (0, 0)) := by rw [← hW4]; exact (far_block (by omega) _ _).trans hr3
 have hB4 : Below w.heap.size w W4 := by rw [← hW4]; exact (HB2.out.trans (hb3.mono HB2.out.size)).setCell (p := ⟨w.heap.size + 1 + 1, 2, none⟩) (show w.heap.size ≤ w.heap.size + 1 + 1 by omega) _
 have hs4 : W4.heap.size = v3.heap.size := by rw [← hW4]; simp
 have HIN : Hid (InPm W0.heap.size W4.heap.size W4 (plv m.key (.slice og m.l.length m.l.length) (.slice o3 m.ring.length c3)) m) := by
  rw [hs4, ← hW4]
  exact ⟨_, _, W2.heap.size, rfl, by have := HS2.out; have := HS1.out; omega, hsv3, InRow.step (InRow.step HO2.out (Stp.of (lo := 0) (hi := 0) hb3) (.inl (Nat.zero_le _))) (stp_set v3 (w.heap.size + 1 + 1) 2 _) (.inl (by omega)), InR.stp.go in3 (stp_set v3 (w.heap.size + 1 + 1) 2 _) (.inl (by have := HS2.out; have := HS1.out; omega))⟩
 obtain ⟨e0, e1, e2, g0, g1', g2⟩ := bx_allP h4x
 obtain ⟨t0, t1, t2, u0, u1, u2⟩ := bx_allP h4r
 have HB4 := hide hB4
 clear hB4 h4x h4r hx3 hr3 in3 hb3 hs4
 go_wp2
 refine bodyPost_ret (v := plv m.key (.slice og m.l.length m.l.length) (.slice o3 m.ring.length c3)) (by simp [results, Tryz.results52, go_sem, t0, t1, t2]) rfl ⟨_, rfl, ?_, setP_belowT HB4.out (Nat.le_succ _) _ _ _⟩
 rw [setP_sizeT]
 exact in_monoT (HIN.out.step (stp_setT W4 (w.heap.size + 1) _ _ _) (.inl (by omega))) (by omega)

end Go.Proofs.YtajfkcpifnpkeaaGreat

/- PoolOk, on both sides. -/
namespace Go.Proofs.YtajfkcpifnpkeaaGreat
open Go.ChangeShapes Go.WideShapes Go.ChangeAt Go.RowKit Go.Joins
set_option linter.unusedVariables false
set_option linter.unusedSimpArgs false

theorem moved_all {aa bb : List (List Int)} : ∀ k, movedTo aa bb k = 0 → ∀ i, i < k → aa.getD i [] = bb.getD i []
 | 0, _ => fun i hi => absurd hi (Nat.not_lt_zero _)
 | k + 1, h => fun i hi => by
  have hb := (movedTo_bd aa bb k).1
  by_cases e : aa.getD k [] = bb.getD k []
  ·have h1 := movedTo_same (aa := aa) (bb := bb) (k := k) rfl rfl e
   rcases Nat.lt_succ_iff_lt_or_eq.1 hi with h' | h'
   ·exact moved_all k (by omega) i h'
   ·rw [h']; exact e
  ·have h1 := movedTo_diff (aa := aa) (bb := bb) (k := k) rfl rfl e
   omega
theorem moved_none {aa bb : List (List Int)} : ∀ k, (∀ i, i < k → aa.getD i [] = bb.getD i []) → movedTo aa bb k = 0
 | 0, _ => rfl
 | k + 1, h => by
  rw [← movedTo_same (aa := aa) (bb := bb) (k := k) rfl rfl (h k (by omega))]
  exact moved_none k (fun i hi => h i (by omega))
theorem tab_pair {ll : List (List Int)} (h : tabOkB ll = true) : ll.length = 8 ∧ ∀ i, i < 8 → pairOkB (ll.getD i []) = true := by
 unfold tabOkB at h
 simp only [Bool.and_eq_true, decide_eq_true_eq, List.all_eq_true, List.mem_range] at h
 exact h
theorem moved_eq {key : Int} {l : List Bk} {ll : List (List Int)} (hl : backsOkB l = true) (h : tabOkB ll = true) : movedI ll (newT key l) = 0 ↔ eqPtB (tabF ll) (newF key l) = true := by
 obtain ⟨h8, hp⟩ := tab_pair h
 have hm : movedI ll (newT key l) = movedTo ll (newT key l) 8 := by rw [movedI, if_pos ⟨h8, newT_len key l⟩]
 rw [hm]
 have hn : ∀ i, i < 8 → (newT key l).getD i [] = pairI key i l := fun i hi => by unfold newT; rw [rowsOf_get _ _ _ hi]
 constructor
 ·intro h0
  unfold eqPtB
  rw [List.all_eq_true]
  intro i hi
  have hi' : i < 8 := by simpa using hi
  have h1 := moved_all 8 h0 i hi'
  unfold tabF newF
  rw [h1, hn i hi']
  exact beq_self_eq_true _
 ·intro h0
  unfold eqPtB at h0
  rw [List.all_eq_true] at h0
  refine moved_none 8 (fun i hi => ?_)
  have h1 := eq_of_beq (h0 i (by simpa using hi))
  unfold tabF newF at h1
  rw [hn i hi, ← ipList_of (hp i hi), h1, ipList_of (pairI_ok key i hl)]
theorem pool_rest {m : Pm} (h1 : keyB m.key = true) (h2 : backsOkB m.l = true) (h3 : 1 ≤ m.ring.length) (h4 : m.ring.length ≤ 3) (h5 : ∀ i, i < m.ring.length → tabOkB (m.ring.getD i []) = true) (h6 : movedI (m.ring.getD 0 []) (newT m.key m.l) = 0) : poolB m = true :=
 poolB_yes h1 h2 h3 h4 h5 ((moved_eq h2 (h5 0 (by omega))).1 h6)

end Go.Proofs.YtajfkcpifnpkeaaGreat

