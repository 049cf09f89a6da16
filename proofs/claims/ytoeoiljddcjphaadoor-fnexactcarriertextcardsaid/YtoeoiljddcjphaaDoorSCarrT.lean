/- What is carried, as text: the words, and the model's. -/
import Derived.Test.YtoeoiljddcjphaaDoorSText2
import Derived.Test.YtoeoiljddcjphaaDoorSStops
import Derived.Test.YtoeoiljddcjphaaDoorSHere
namespace Go.Proofs.YtoeoiljddcjphaaDoor
open Go.ChangeShapes Go.WideShapes Go.ChangeAt Go.RowKit Go.Joins
set_option linter.unusedVariables false
set_option linter.unusedSimpArgs false


/-- The letter of what is done at a stop. -/
def letFn (y : Int) : Int := if y = 1 then 104 else 111
def hereT (h : Bool) : List Int := if h = true then [62] else []
/-- A stop's text. -/
def segT (x : Stop) : List Int := [32] ++ (hereT x.2 ++ ([letFn x.1.2] ++ digL x.1.1.toNat))
def stT (g : List (Int × Int)) (pl : Int) (pre : List Nat) : List Int := pre.flatMap (fun i => segT (stopAt g pl i))
theorem stT_snoc (g : List (Int × Int)) (pl : Int) (pre : List Nat) (k : Nat) : stT g pl (pre ++ [k]) = stT g pl pre ++ segT (stopAt g pl k) := by simp [stT]
def carrTL (a b f s : Int) (n : Nat) (g : List (Int × Int)) (pl : Int) : List Int := pktT a b f s n ++ stT g pl (upto (fun i => i) g.length)
theorem pktT_le (a b f s : Int) (n : Nat) : (pktT a b f s n).length ≤ 300000 := by
  cases h : packetOkB a b f s n with
  | false => rw [pktT_no h]; simp
  | true =>
    obtain ⟨a', b', s', _, _, _, _, _, ha, hb, hs, hn, e⟩ := pktT_yes h
    have := pktTL_len a' b' f s' n
    rw [e]; omega
theorem routeT_seg (op : Bool) : ∀ (g : List (Int × Int)) (p : Int), routeR op p g = true → ∀ i, i < g.length → segOkB (g.getD i (0, 0)).1 (g.getD i (0, 0)).2 = true
  | [], _, _, i, hi => by simp at hi
  | q :: g, p, h, i, hi => by
    rw [routeR, Bool.and_eq_true, Bool.and_eq_true, Bool.and_eq_true] at h
    cases i with
    | zero => exact h.1.1.1
    | succ i => exact routeT_seg op g _ h.2 i (by simpa using hi)
theorem stop_seg {a b f s : Int} {n : Nat} {g : List (Int × Int)} {pl st : Int} (h : carrierOkB a b f s n g pl st = true) (k : Nat) : (0 ≤ (stopAt g pl k).1.1 ∧ (stopAt g pl k).1.1 < 6) ∧ ((stopAt g pl k).1.2 = 0 ∨ (stopAt g pl k).1.2 = 1) := by
  unfold stopAt
  by_cases hk : k < g.length
  · have h2 : routeR (opens3 f) 0 g = true := by unfold carrierOkB at h; rw [Bool.and_eq_true] at h; exact h.2
    have := segOkB_iff.1 (routeT_seg _ g 0 h2 k hk)
    rw [List.getD_eq_getElem?_getD] at this
    show (0 ≤ (g[k]?.getD (0, 0)).1 ∧ (g[k]?.getD (0, 0)).1 < 6) ∧ ((g[k]?.getD (0, 0)).2 = 0 ∨ (g[k]?.getD (0, 0)).2 = 1)
    omega
  · have e : g[k]? = none := by simp; omega
    rw [e]
    simp
theorem segT_len {x : Stop} (h0 : 0 ≤ x.1.1) (h1 : x.1.1 < 6) : (segT x).length ≤ 10 := by
  have := digL_len x.1.1.toNat
  have h2 : (hereT x.2).length ≤ 1 := by unfold hereT; split <;> simp
  simp only [segT, List.length_append, List.length_cons, List.length_nil]
  omega
theorem stT_len {a b f s : Int} {n : Nat} {g : List (Int × Int)} {pl st : Int} (h : carrierOkB a b f s n g pl st = true) : ∀ (pre : List Nat), (stT g pl pre).length ≤ 10 * pre.length
  | [] => by simp [stT]
  | k :: pre => by
    have h1 := stT_len h pre
    have h2 := stop_seg h k
    have h3 := segT_len h2.1.1 h2.1.2
    have e : stT g pl (k :: pre) = segT (stopAt g pl k) ++ stT g pl pre := by simp [stT]
    rw [e, List.length_append, List.length_cons]
    omega
theorem segT_eq (K : List Int) (h : Bool) (y : Int) (x : Nat) : (((K ++ [32]) ++ hereT h) ++ [letFn y]) ++ digL x = K ++ segT (((x : Int), y), h) := by simp [segT]

set_option maxRecDepth 100000 in
set_option maxHeartbeats 8000000 in
theorem specCarrT_yes (a b f s : Int) (o : Option Addr) (len cap bb off cg : Nat) (g : List (Int × Int)) (pl st : Int) (w : World) (hl : len ≤ maxLen) (hbb : bb < w.heap.size)
    (hcell : ∀ i, i < g.length → w.cell? ⟨bb, off + i * 2, none⟩ = some (.int .i64 (g.getD i (0, 0)).1) ∧ w.cell? ⟨bb, off + i * 2 + 1, none⟩ = some (.int .i64 (g.getD i (0, 0)).2)) (hok : carrierOkB a b f s len g pl st = true) :
    Calls Tryd.prog 16 #[crr a b f s (.slice o len cap) (.slice (some ⟨bb, off, none⟩) g.length cg) pl st] w fun e w' => ∃ v, e = .returned v ∧ ownB w' w.heap.size v (carrTL a b f s len g pl) ∧ Below w.heap.size w w' := by
  obtain ⟨_, h2, h3, h4, h5, _, _⟩ := carrierOkB_head hok
  have HSEG := hide (fun k => stop_seg hok k)
  have HSTL := hide (fun pre => stT_len hok pre)
  have hpl := pktT_le a b f s len
  obtain ⟨W0, hW0⟩ : ∃ W, (w.alloc (.cells #[.int .i64 a, .int .i64 b, .int .i64 f, .int .i64 s, .slice o len cap, .slice (some ⟨bb, off, none⟩) g.length cg, .int .i64 pl, .int .i64 st] 29)) = W := ⟨_, rfl⟩
  have bx : W0.heap[w.heap.size]? = some (.cells #[.int .i64 a, .int .i64 b, .int .i64 f, .int .i64 s, .slice o len cap, .slice (some ⟨bb, off, none⟩) g.length cg, .int .i64 pl, .int .i64 st] 29 (0, 0)) := by rw [← hW0]; exact heap_alloc_new w _
  have hB0 : Below w.heap.size w W0 := by rw [← hW0]; exact (Below.refl _ _).alloc (Nat.le_refl _) _
  have t0 : TxS w.heap.size w W0 := TxS.below hB0 (Nat.le_refl _)
  have hs0 := t0.sz (Nat.le_refl _)
  have HOK := hide (specCarrierOk_any a b f s o (some ⟨bb, off, none⟩) len cap cg g pl st W0 hl (by unfold maxLen; omega) (RdG.kept (.inr ⟨bb, off, rfl, hbb, hcell⟩) hB0))
  rw [hok] at HOK
  clear hB0 hok
  have bxc0 : W0.cell? ⟨w.heap.size, 0, none⟩ = some (.int .i64 a) := cellT bx 0 _ rfl
  have bxc1 : W0.cell? ⟨w.heap.size, 1, none⟩ = some (.int .i64 b) := cellT bx 1 _ rfl
  have bxc2 : W0.cell? ⟨w.heap.size, 2, none⟩ = some (.int .i64 f) := cellT bx 2 _ rfl
  have bxc3 : W0.cell? ⟨w.heap.size, 3, none⟩ = some (.int .i64 s) := cellT bx 3 _ rfl
  have bxc4 : W0.cell? ⟨w.heap.size, 4, none⟩ = some (.slice o len cap) := cellT bx 4 _ rfl
  have bxc5 : W0.cell? ⟨w.heap.size, 5, none⟩ = some (.slice (some ⟨bb, off, none⟩) g.length cg) := cellT bx 5 _ rfl
  have bxc6 : W0.cell? ⟨w.heap.size, 6, none⟩ = some (.int .i64 pl) := cellT bx 6 _ rfl
  have bxc7 : W0.cell? ⟨w.heap.size, 7, none⟩ = some (.int .i64 st) := cellT bx 7 _ rfl
  go_enter Tryd.func16, Tryd.ntmps16
  go_wp2_with fail
  refine HOK.out.mono ?_
  rintro e y0 ⟨rfl, hb0⟩
  have st0 := TxS.below hb0 hs0
  clear bxc0 bxc1 bxc2 bxc3 bxc4 bxc5 bxc6 bxc7
  replace bx := st0.box bx (by decide)
  replace t0 := t0.trans st0
  replace hs0 := st0.sz hs0
  clear st0 hb0 HOK
  have bxc0 : y0.cell? ⟨w.heap.size, 0, none⟩ = some (.int .i64 a) := cellT bx 0 _ rfl
  have bxc1 : y0.cell? ⟨w.heap.size, 1, none⟩ = some (.int .i64 b) := cellT bx 1 _ rfl
  have bxc2 : y0.cell? ⟨w.heap.size, 2, none⟩ = some (.int .i64 f) := cellT bx 2 _ rfl
  have bxc3 : y0.cell? ⟨w.heap.size, 3, none⟩ = some (.int .i64 s) := cellT bx 3 _ rfl
  have bxc4 : y0.cell? ⟨w.heap.size, 4, none⟩ = some (.slice o len cap) := cellT bx 4 _ rfl
  go_wp2_with fail
  refine (specPacketText_any w.heap.size a b f s o len cap y0 hl hs0).mono ?_
  rintro e y1 ⟨x1, rfl, ho1, st1⟩
  obtain ⟨T0, hT0⟩ : ∃ q, pktT a b f s len = q := ⟨_, rfl⟩
  have HT0 := hide hT0
  rw [hT0] at ho1 hpl
  clear hT0 bxc0 bxc1 bxc2 bxc3 bxc4
  replace bx := st1.box bx (by decide)
  replace t0 := t0.trans st1
  replace hs0 := st1.sz hs0
  have HO1 := hide ho1
  have HT := hide t0
  clear st1 ho1 t0
  go_wp2
  go_loopw [3, 4] (fun bv iv wr => ∃ k : Nat, k ≤ g.length ∧ iv = .int .i64 k ∧ ownB wr w.heap.size bv (T0 ++ stT g pl (upto (fun i => i) k)) ∧ TxS w.heap.size y1 wr)
    (fun _ iv _ => g.length - (intOf iv).toNat)
  case atStart => exact ⟨0, Nat.zero_le _, rfl, by simpa [stT, upto] using HO1.out, TxS.refl _ _⟩
  case round =>
    obtain ⟨k, hk, rfl, ho, sr⟩ := hrel
    have hsr := sr.sz hs0
    have bxr := sr.box bx (by decide)
    have c5 : wr.cell? ⟨w.heap.size, 5, none⟩ = some (.slice (some ⟨bb, off, none⟩) g.length cg) := cellT bxr 5 _ rfl
    by_cases hlt : k < g.length
    · have z1 : (k : Int) < (g.length : Int) := by omega
      have hsl := HSTL.out (upto (fun i => i) k)
      rw [upto_length] at hsl
      have hsg := HSEG.out k
      have HN := hide (stT_snoc g pl (upto (fun i => i) k) k)
      have e9 : g.getD k (0, 0) = (stopAt g pl k).1 := by unfold stopAt; rw [List.getD_eq_getElem?_getD]
      have e8 : (stopAt g pl k).2 = decide ((k : Int) = pl) := rfl
      have hcx := hcell k hlt
      rw [e9] at hcx
      generalize stopAt g pl k = sk at *
      obtain ⟨⟨x, y⟩, h⟩ := sk
      dsimp only at hcx hsg e8
      obtain ⟨⟨hx0, hx1⟩, hy⟩ := hsg
      obtain ⟨x, rfl⟩ := Int.eq_ofNat_of_zero_le hx0
      have hBw := (HT.out.trans sr).bel
      have p0 := (hBw.cell (p := ⟨bb, off + k * 2, none⟩) hbb).trans hcx.1
      have p1 := (hBw.cell (p := ⟨bb, off + k * 2 + 1, none⟩) hbb).trans hcx.2
      obtain ⟨K, hK⟩ : ∃ q, T0 ++ stT g pl (upto (fun i => i) k) = q := ⟨_, rfl⟩
      have hKl : K.length ≤ 400000 := by rw [← hK, List.length_append]; omega
      rw [hK] at ho
      have HK := hide hK
      have HSR := hide sr
      have hld := digL_len x
      clear hK hcx hBw e9 sr
      go_wp2_with (at_builtin; refine wpList_append_one 32 rfl _ _ rfl w.heap.size _ K rfl ho rfl ?c3 hsr ?_)
      case c3 => omega
      intro x3 y3 ho3 st3
      have hs3 := st3.sz hsr
      have bx3 := st3.box bxr (by decide)
      have d6 : y3.cell? ⟨w.heap.size, 6, none⟩ = some (.int .i64 pl) := cellT bx3 6 _ rfl
      have d5 : y3.cell? ⟨w.heap.size, 5, none⟩ = some (.slice (some ⟨bb, off, none⟩) g.length cg) := cellT bx3 5 _ rfl
      have q0 := (st3.bel.cell (p := ⟨bb, off + k * 2, none⟩) hbb).trans p0
      have q1 := (st3.bel.cell (p := ⟨bb, off + k * 2 + 1, none⟩) hbb).trans p1
      have HS3 := hide (HSR.out.trans st3)
      obtain ⟨K3, hK3⟩ : ∃ q, K ++ [32] = q := ⟨_, rfl⟩
      have hKl3 : K3.length ≤ 400001 := by rw [← hK3, List.length_append]; simp only [List.length_cons, List.length_nil]; omega
      rw [hK3] at ho3
      have HK3 := hide hK3
      clear hK3 ho p0 p1 c5 HSR st3 bxr
      by_cases hh : (k : Int) = pl
      · have eh : h = true := by rw [e8]; simpa using hh
        subst eh
        clear e8
        obtain rfl : pl = (k : Int) := hh.symm
        go_wp2_with (at_builtin; refine wpList_append_one 62 rfl _ _ rfl w.heap.size _ K3 rfl ho3 rfl ?c4 hs3 ?_)
        case c4 => omega
        intro x4 y4 ho4 st4
        have hs4 := st4.sz hs3
        have bx4 := st4.box bx3 (by decide)
        have f5 : y4.cell? ⟨w.heap.size, 5, none⟩ = some (.slice (some ⟨bb, off, none⟩) g.length cg) := cellT bx4 5 _ rfl
        have s0 := (st4.bel.cell (p := ⟨bb, off + k * 2, none⟩) hbb).trans q0
        have s1 := (st4.bel.cell (p := ⟨bb, off + k * 2 + 1, none⟩) hbb).trans q1
        obtain ⟨K4, hK4⟩ : ∃ q, K3 ++ [62] = q := ⟨_, rfl⟩
        have hKl4 : K4.length ≤ 400002 := by rw [← hK4, List.length_append]; simp only [List.length_cons, List.length_nil]; omega
        rw [hK4] at ho4
        have HK4 := hide hK4
        have HS4 := hide (HS3.out.trans st4)
        clear hK4 ho3 q0 q1 d5 d6 st4 bx3 HS3
        rcases hy with hy | hy
        · subst hy
          go_wp2_with (at_builtin; refine wpList_append_one 111 rfl _ _ rfl w.heap.size _ K4 rfl ho4 rfl ?c5 hs4 ?_)
          case c5 => omega
          intro x5 y5 ho5 st5
          have hs5 := st5.sz hs4
          have bx5 := st5.box bx4 (by decide)
          have r5 : y5.cell? ⟨w.heap.size, 5, none⟩ = some (.slice (some ⟨bb, off, none⟩) g.length cg) := cellT bx5 5 _ rfl
          have r0 := (st5.bel.cell (p := ⟨bb, off + k * 2, none⟩) hbb).trans s0
          obtain ⟨K5, hK5⟩ : ∃ q, K4 ++ [111] = q := ⟨_, rfl⟩
          have hKl5 : K5.length ≤ 400003 := by rw [← hK5, List.length_append]; simp only [List.length_cons, List.length_nil]; omega
          rw [hK5] at ho5
          have HK5 := hide hK5
          have HS5 := hide (HS4.out.trans st5)
          clear hK5 ho4 s0 s1 f5 st5 HS4
          go_wp2_with fail
          refine (l1digits_any x (by omega) y5).mono ?_
          rintro e y6 ⟨q6, rfl, hq6, hb6⟩
          obtain ⟨o6, c6, rfl, R6⟩ := hq6.open
          have nl6 := own_nilB hq6
          have st6 := TxS.below hb6 hs5
          have hp6 := own_kept ho5 hb6
          have hs6 := st6.sz hs5
          have HS6 := hide (HS5.out.trans st6)
          clear ho5 hq6 hb6 r5 r0 st6 bx5
          go_wp2_with (at_builtin; refine wpList_append_txt rfl _ _ rfl w.heap.size _ K5 rfl hp6 o6 c6 (digL x) _ rfl rfl nl6 R6 ?c7 hs6 ?_)
          case c7 => omega
          intro x7 y7 ho7 st7
          have HO7 : Hid (ownB y7 w.heap.size x7 (T0 ++ stT g (k : Int) (upto (fun i => i) (k + 1)))) := by unfold Hid; rw [upto_succ, HN.out, ← List.append_assoc, HK.out, ← segT_eq, HK3.out, show hereT true = [62] from rfl, HK4.out, show letFn 0 = 111 from rfl, HK5.out]; exact ho7
          have HS7 := hide (HS6.out.trans st7)
          clear ho7 st7 hp6 R6 nl6
          go_wp2
          go_roundw
          case rel => exact ⟨k + 1, by omega, by go_num, HO7.out, HS7.out⟩
          case measure => simp [intOf]; omega
        · subst hy
          go_wp2_with (at_builtin; refine wpList_append_one 104 rfl _ _ rfl w.heap.size _ K4 rfl ho4 rfl ?c5 hs4 ?_)
          case c5 => omega
          intro x5 y5 ho5 st5
          have hs5 := st5.sz hs4
          have bx5 := st5.box bx4 (by decide)
          have r5 : y5.cell? ⟨w.heap.size, 5, none⟩ = some (.slice (some ⟨bb, off, none⟩) g.length cg) := cellT bx5 5 _ rfl
          have r0 := (st5.bel.cell (p := ⟨bb, off + k * 2, none⟩) hbb).trans s0
          obtain ⟨K5, hK5⟩ : ∃ q, K4 ++ [104] = q := ⟨_, rfl⟩
          have hKl5 : K5.length ≤ 400003 := by rw [← hK5, List.length_append]; simp only [List.length_cons, List.length_nil]; omega
          rw [hK5] at ho5
          have HK5 := hide hK5
          have HS5 := hide (HS4.out.trans st5)
          clear hK5 ho4 s0 s1 f5 st5 HS4
          go_wp2_with fail
          refine (l1digits_any x (by omega) y5).mono ?_
          rintro e y6 ⟨q6, rfl, hq6, hb6⟩
          obtain ⟨o6, c6, rfl, R6⟩ := hq6.open
          have nl6 := own_nilB hq6
          have st6 := TxS.below hb6 hs5
          have hp6 := own_kept ho5 hb6
          have hs6 := st6.sz hs5
          have HS6 := hide (HS5.out.trans st6)
          clear ho5 hq6 hb6 r5 r0 st6 bx5
          go_wp2_with (at_builtin; refine wpList_append_txt rfl _ _ rfl w.heap.size _ K5 rfl hp6 o6 c6 (digL x) _ rfl rfl nl6 R6 ?c7 hs6 ?_)
          case c7 => omega
          intro x7 y7 ho7 st7
          have HO7 : Hid (ownB y7 w.heap.size x7 (T0 ++ stT g (k : Int) (upto (fun i => i) (k + 1)))) := by unfold Hid; rw [upto_succ, HN.out, ← List.append_assoc, HK.out, ← segT_eq, HK3.out, show hereT true = [62] from rfl, HK4.out, show letFn 1 = 104 from rfl, HK5.out]; exact ho7
          have HS7 := hide (HS6.out.trans st7)
          clear ho7 st7 hp6 R6 nl6
          go_wp2
          go_roundw
          case rel => exact ⟨k + 1, by omega, by go_num, HO7.out, HS7.out⟩
          case measure => simp [intOf]; omega
      · have eh : h = false := by rw [e8]; simpa using hh
        subst eh
        have hkp : decide ((k : Int) = pl) = false := by simpa using hh
        clear e8
        rcases hy with hy | hy
        · subst hy
          go_wp2_with (at_builtin; refine wpList_append_one 111 rfl _ _ rfl w.heap.size _ K3 rfl ho3 rfl ?c5 hs3 ?_)
          case c5 => omega
          intro x5 y5 ho5 st5
          have hs5 := st5.sz hs3
          have bx5 := st5.box bx3 (by decide)
          have r5 : y5.cell? ⟨w.heap.size, 5, none⟩ = some (.slice (some ⟨bb, off, none⟩) g.length cg) := cellT bx5 5 _ rfl
          have r0 := (st5.bel.cell (p := ⟨bb, off + k * 2, none⟩) hbb).trans q0
          obtain ⟨K5, hK5⟩ : ∃ q, K3 ++ [111] = q := ⟨_, rfl⟩
          have hKl5 : K5.length ≤ 400002 := by rw [← hK5, List.length_append]; simp only [List.length_cons, List.length_nil]; omega
          rw [hK5] at ho5
          have HK5 := hide hK5
          have HS5 := hide (HS3.out.trans st5)
          clear hK5 ho3 q0 q1 d5 st5 HS3
          go_wp2_with fail
          refine (l1digits_any x (by omega) y5).mono ?_
          rintro e y6 ⟨q6, rfl, hq6, hb6⟩
          obtain ⟨o6, c6, rfl, R6⟩ := hq6.open
          have nl6 := own_nilB hq6
          have st6 := TxS.below hb6 hs5
          have hp6 := own_kept ho5 hb6
          have hs6 := st6.sz hs5
          have HS6 := hide (HS5.out.trans st6)
          clear ho5 hq6 hb6 r5 r0 st6 bx5
          go_wp2_with (at_builtin; refine wpList_append_txt rfl _ _ rfl w.heap.size _ K5 rfl hp6 o6 c6 (digL x) _ rfl rfl nl6 R6 ?c7 hs6 ?_)
          case c7 => omega
          intro x7 y7 ho7 st7
          have HO7 : Hid (ownB y7 w.heap.size x7 (T0 ++ stT g pl (upto (fun i => i) (k + 1)))) := by unfold Hid; rw [upto_succ, HN.out, ← List.append_assoc, HK.out, ← segT_eq, HK3.out, show hereT false = [] from rfl, List.append_nil, show letFn 0 = 111 from rfl, HK5.out]; exact ho7
          have HS7 := hide (HS6.out.trans st7)
          clear ho7 st7 hp6 R6 nl6
          go_wp2
          go_roundw
          case rel => exact ⟨k + 1, by omega, by go_num, HO7.out, HS7.out⟩
          case measure => simp [intOf]; omega
        · subst hy
          go_wp2_with (at_builtin; refine wpList_append_one 104 rfl _ _ rfl w.heap.size _ K3 rfl ho3 rfl ?c5 hs3 ?_)
          case c5 => omega
          intro x5 y5 ho5 st5
          have hs5 := st5.sz hs3
          have bx5 := st5.box bx3 (by decide)
          have r5 : y5.cell? ⟨w.heap.size, 5, none⟩ = some (.slice (some ⟨bb, off, none⟩) g.length cg) := cellT bx5 5 _ rfl
          have r0 := (st5.bel.cell (p := ⟨bb, off + k * 2, none⟩) hbb).trans q0
          obtain ⟨K5, hK5⟩ : ∃ q, K3 ++ [104] = q := ⟨_, rfl⟩
          have hKl5 : K5.length ≤ 400002 := by rw [← hK5, List.length_append]; simp only [List.length_cons, List.length_nil]; omega
          rw [hK5] at ho5
          have HK5 := hide hK5
          have HS5 := hide (HS3.out.trans st5)
          clear hK5 ho3 q0 q1 d5 st5 HS3
          go_wp2_with fail
          refine (l1digits_any x (by omega) y5).mono ?_
          rintro e y6 ⟨q6, rfl, hq6, hb6⟩
          obtain ⟨o6, c6, rfl, R6⟩ := hq6.open
          have nl6 := own_nilB hq6
          have st6 := TxS.below hb6 hs5
          have hp6 := own_kept ho5 hb6
          have hs6 := st6.sz hs5
          have HS6 := hide (HS5.out.trans st6)
          clear ho5 hq6 hb6 r5 r0 st6 bx5
          go_wp2_with (at_builtin; refine wpList_append_txt rfl _ _ rfl w.heap.size _ K5 rfl hp6 o6 c6 (digL x) _ rfl rfl nl6 R6 ?c7 hs6 ?_)
          case c7 => omega
          intro x7 y7 ho7 st7
          have HO7 : Hid (ownB y7 w.heap.size x7 (T0 ++ stT g pl (upto (fun i => i) (k + 1)))) := by unfold Hid; rw [upto_succ, HN.out, ← List.append_assoc, HK.out, ← segT_eq, HK3.out, show hereT false = [] from rfl, List.append_nil, show letFn 1 = 104 from rfl, HK5.out]; exact ho7
          have HS7 := hide (HS6.out.trans st7)
          clear ho7 st7 hp6 R6 nl6
          go_wp2
          go_roundw
          case rel => exact ⟨k + 1, by omega, by go_num, HO7.out, HS7.out⟩
          case measure => simp [intOf]; omega
    · have hke : k = g.length := by omega
      subst hke
      have hc9 : T0 ++ stT g pl (upto (fun i => i) g.length) = carrTL a b f s len g pl := by unfold carrTL; rw [HT0.out]
      rw [hc9] at ho
      have HO := hide ho
      have HX := hide (HT.out.trans sr).bel
      have z1 : ¬ ((g.length : Int) < (g.length : Int)) := by omega
      clear ho sr hc9
      go_wp2
      go_ret
      exact ⟨_, rfl, HO.out, HX.out⟩

end Go.Proofs.YtoeoiljddcjphaaDoor
