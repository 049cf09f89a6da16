/- Packets as text, the model's and the program's. -/
import Derived.Test.YtoeoiljddcjphaaDoorSFlowT
import Derived.Test.YtoeoiljddcjphaaDoorSPacket
namespace Go.Proofs.YtoeoiljddcjphaaDoor
open Go.ChangeShapes Go.WideShapes Go.ChangeAt Go.RowKit Go.Joins
set_option linter.unusedVariables false
set_option linter.unusedSimpArgs false

/-- The letter of the flag i. -/
def letC (i : Nat) : Int := ([115, 97, 102, 114] : List Int).getD i 0
def letB (f : Int) (i : Nat) : Bool := f / 2 ^ i % 2 == 1
def letTo (f : Int) : Nat → List Int
  | 0 => []
  | i + 1 => letTo f i ++ (if letB f i = true then [letC i] else [])
theorem letTo_len (f : Int) : ∀ i, (letTo f i).length ≤ i
  | 0 => Nat.le_refl _
  | i + 1 => by
    have := letTo_len f i
    rw [letTo, List.length_append]
    split <;> simp <;> omega
theorem letTo_yes {f : Int} {i : Nat} (h : letB f i = true) : letTo f (i + 1) = letTo f i ++ [letC i] := by rw [letTo, if_pos h]
theorem letTo_no {f : Int} {i : Nat} (h : letB f i = false) : letTo f (i + 1) = letTo f i := by rw [letTo, h]; simp
theorem letTo_isB (f : Int) : ∀ i, i ≤ 4 → isB (letTo f i)
  | 0, _ => fun x hx => by simp [letTo] at hx
  | i + 1, h => by
    have ih := letTo_isB f i (by omega)
    intro x hx
    rw [letTo, List.mem_append] at hx
    rcases hx with hx | hx
    · exact ih x hx
    · split at hx
      · rw [List.mem_singleton] at hx
        subst hx
        rcases (show i = 0 ∨ i = 1 ∨ i = 2 ∨ i = 3 by omega) with h | h | h | h <;> subst h <;> decide
      · simp at hx
theorem bit_and (f : Int) (h0 : 0 ≤ f) (h1 : f < 16) (i : Nat) (hi : i < 4) : bits .and .i64 f (2 ^ i) = (if letB f i = true then 2 ^ i else 0) := by
  rcases (show f = 0 ∨ f = 1 ∨ f = 2 ∨ f = 3 ∨ f = 4 ∨ f = 5 ∨ f = 6 ∨ f = 7 ∨ f = 8 ∨ f = 9 ∨ f = 10 ∨ f = 11 ∨ f = 12 ∨ f = 13 ∨ f = 14 ∨ f = 15 by omega) with h | h | h | h | h | h | h | h | h | h | h | h | h | h | h | h <;> subst h <;>
  rcases (show i = 0 ∨ i = 1 ∨ i = 2 ∨ i = 3 by omega) with h | h | h | h <;> subst h <;> decide +kernel

set_option maxRecDepth 100000 in
set_option maxHeartbeats 2000000 in
theorem letters_any (f : Int) (w : World) (h0 : 0 ≤ f) (h1 : f < 16) :
    Calls Tryd.prog 65 #[.int .i64 f] w fun e w' => ∃ v, e = .returned v ∧ ownB w' w.heap.size v (letTo f 4) ∧ Below w.heap.size w w' := by
  have HBA := hide (bit_and f h0 h1)
  go_enter Tryd.func65, Tryd.ntmps65
  go_wp2
  go_loopw [3, 5] (fun lv iv wr => ∃ i : Nat, i ≤ 4 ∧ iv = .int .i64 i ∧ ownB wr w.heap.size lv (letTo f i) ∧ Below w.heap.size w wr)
    (fun _ iv _ => 4 - (intOf iv).toNat)
  case atStart => exact ⟨0, by omega, rfl, World.ownsRow_nil _ _ _ _, Below.refl _ _⟩
  case round =>
    obtain ⟨i, hi, rfl, ho, hb⟩ := hrel
    by_cases hlt : i < 4
    · have hs := hb.size
      have HL := hide (letTo_len f i)
      have HY := hide (fun h => letTo_yes (f := f) (i := i) h)
      have HN := hide (fun h => letTo_no (f := f) (i := i) h)
      have HBI := hide (HBA.out i hlt)
      clear HBA
      obtain ⟨K, hK⟩ : ∃ q, letTo f i = q := ⟨_, rfl⟩
      rw [hK] at ho HL HY HN
      have HO := hide ho
      have HBB := hide hb
      clear hK ho hb hi
      rcases (show i = 0 ∨ i = 1 ∨ i = 2 ∨ i = 3 by omega) with h | h | h | h
      all_goals subst h
      · by_cases hbit : letB f 0 = true
        · have hand : bits .and .i64 f 1 = 1 := by have := HBI.out; rw [if_pos hbit] at this; exact this
          have HF := hide (HY.out hbit)
          clear HBI hbit
          go_wp2_with (first | (at_builtin; refine wpList_append_one 115 rfl _ _ rfl w.heap.size _ K rfl HO.out rfl ?c1 ?c2 ?_) | go_in)
          case c1 => have := HL.out; omega
          case c2 => exact hs
          intro v2 w2 ho2 s2
          have HO2 : Hid (ownB w2 w.heap.size v2 (letTo f 1)) := by unfold Hid; rw [HF.out]; exact ho2
          have HB2 := hide (HBB.out.trans s2.bel)
          clear ho2 s2
          go_wp2
          go_roundw
          case rel => exact ⟨1, by omega, by go_num, HO2.out, HB2.out⟩
          case measure => simp [intOf]
        · have hbf : letB f 0 = false := by simpa using hbit
          have hand : bits .and .i64 f 1 = 0 := by have := HBI.out; rw [hbf] at this; exact this
          have HF := hide (HN.out hbf)
          clear HBI hbit hbf
          go_wp2
          go_roundw
          case rel => exact ⟨1, by omega, by go_num, by rw [HF.out]; exact HO.out, HBB.out⟩
          case measure => simp [intOf]
      · by_cases hbit : letB f 1 = true
        · have hand : bits .and .i64 f 2 = 2 := by have := HBI.out; rw [if_pos hbit] at this; exact this
          have HF := hide (HY.out hbit)
          clear HBI hbit
          go_wp2_with (first | (at_builtin; refine wpList_append_one 97 rfl _ _ rfl w.heap.size _ K rfl HO.out rfl ?c1 ?c2 ?_) | go_in)
          case c1 => have := HL.out; omega
          case c2 => exact hs
          intro v2 w2 ho2 s2
          have HO2 : Hid (ownB w2 w.heap.size v2 (letTo f 2)) := by unfold Hid; rw [HF.out]; exact ho2
          have HB2 := hide (HBB.out.trans s2.bel)
          clear ho2 s2
          go_wp2
          go_roundw
          case rel => exact ⟨2, by omega, by go_num, HO2.out, HB2.out⟩
          case measure => simp [intOf]
        · have hbf : letB f 1 = false := by simpa using hbit
          have hand : bits .and .i64 f 2 = 0 := by have := HBI.out; rw [hbf] at this; exact this
          have HF := hide (HN.out hbf)
          clear HBI hbit hbf
          go_wp2
          go_roundw
          case rel => exact ⟨2, by omega, by go_num, by rw [HF.out]; exact HO.out, HBB.out⟩
          case measure => simp [intOf]
      · by_cases hbit : letB f 2 = true
        · have hand : bits .and .i64 f 4 = 4 := by have := HBI.out; rw [if_pos hbit] at this; exact this
          have HF := hide (HY.out hbit)
          clear HBI hbit
          go_wp2_with (first | (at_builtin; refine wpList_append_one 102 rfl _ _ rfl w.heap.size _ K rfl HO.out rfl ?c1 ?c2 ?_) | go_in)
          case c1 => have := HL.out; omega
          case c2 => exact hs
          intro v2 w2 ho2 s2
          have HO2 : Hid (ownB w2 w.heap.size v2 (letTo f 3)) := by unfold Hid; rw [HF.out]; exact ho2
          have HB2 := hide (HBB.out.trans s2.bel)
          clear ho2 s2
          go_wp2
          go_roundw
          case rel => exact ⟨3, by omega, by go_num, HO2.out, HB2.out⟩
          case measure => simp [intOf]
        · have hbf : letB f 2 = false := by simpa using hbit
          have hand : bits .and .i64 f 4 = 0 := by have := HBI.out; rw [hbf] at this; exact this
          have HF := hide (HN.out hbf)
          clear HBI hbit hbf
          go_wp2
          go_roundw
          case rel => exact ⟨3, by omega, by go_num, by rw [HF.out]; exact HO.out, HBB.out⟩
          case measure => simp [intOf]
      · by_cases hbit : letB f 3 = true
        · have hand : bits .and .i64 f 8 = 8 := by have := HBI.out; rw [if_pos hbit] at this; exact this
          have HF := hide (HY.out hbit)
          clear HBI hbit
          go_wp2_with (first | (at_builtin; refine wpList_append_one 114 rfl _ _ rfl w.heap.size _ K rfl HO.out rfl ?c1 ?c2 ?_) | go_in)
          case c1 => have := HL.out; omega
          case c2 => exact hs
          intro v2 w2 ho2 s2
          have HO2 : Hid (ownB w2 w.heap.size v2 (letTo f 4)) := by unfold Hid; rw [HF.out]; exact ho2
          have HB2 := hide (HBB.out.trans s2.bel)
          clear ho2 s2
          go_wp2
          go_roundw
          case rel => exact ⟨4, by omega, by go_num, HO2.out, HB2.out⟩
          case measure => simp [intOf]
        · have hbf : letB f 3 = false := by simpa using hbit
          have hand : bits .and .i64 f 8 = 0 := by have := HBI.out; rw [hbf] at this; exact this
          have HF := hide (HN.out hbf)
          clear HBI hbit hbf
          go_wp2
          go_roundw
          case rel => exact ⟨4, by omega, by go_num, by rw [HF.out]; exact HO.out, HBB.out⟩
          case measure => simp [intOf]
    · have e : i = 4 := by omega
      subst e
      have HO := hide ho
      clear ho
      go_wp2
      go_ret
      exact ⟨_, rfl, HO.out, hb⟩

/-- A packet's text. -/
def pktTL (a b : Nat) (f : Int) (s n : Nat) : List Int := (((((flowTL a b ++ [32]) ++ letTo f 4) ++ [32, 35]) ++ digL s) ++ [32, 43]) ++ digL n
def pktT (a b f s : Int) (n : Nat) : List Int := if packetOkB a b f s n = true then pktTL a.toNat b.toNat f s.toNat n else []
theorem pktTL_len (a b : Nat) (f : Int) (s n : Nat) : (pktTL a b f s n).length ≤ a + b + s + n + 20 := by
  have := flowTL_len a b; have := letTo_len f 4; have := digL_len s; have := digL_len n
  simp only [pktTL, List.length_append, List.length_cons, List.length_nil]; omega
theorem pktTL_pos (a b : Nat) (f : Int) (s n : Nat) : 0 < (pktTL a b f s n).length := by simp only [pktTL, List.length_append, List.length_cons, List.length_nil]; omega
theorem pktT_yes {a b f s : Int} {n : Nat} (h : packetOkB a b f s n = true) : ∃ (a' b' s' : Nat), a = a' ∧ b = b' ∧ s = s' ∧ 0 ≤ f ∧ f < 16 ∧ a' ≤ 65535 ∧ b' ≤ 65535 ∧ s' ≤ 65535 ∧ n ≤ 16 ∧ pktT a b f s n = pktTL a' b' f s' n := by
  have hh := packetOkB_iff.1 h
  have hf := flowOkB_iff.1 hh.1
  obtain ⟨_, f0, f1, s0, s1, hn, _⟩ := hh
  refine ⟨a.toNat, b.toNat, s.toNat, by omega, by omega, by omega, f0, f1, by omega, by omega, by omega, by omega, ?_⟩
  unfold pktT
  rw [if_pos h]
theorem pktT_no {a b f s : Int} {n : Nat} (h : packetOkB a b f s n = false) : pktT a b f s n = [] := by unfold pktT; rw [h]; rfl
theorem isB_app {l m : List Int} (h : isB l) (k : isB m) : isB (l ++ m) := fun x hx => by
  rcases List.mem_append.1 hx with q | q
  · exact h x q
  · exact k x q
theorem isB_two (x y : Int) (h : 0 ≤ x ∧ x ≤ 255 ∧ 0 ≤ y ∧ y ≤ 255) : isB [x, y] := fun z hz => by simp at hz; rcases hz with e | e <;> subst e <;> omega
theorem isB_one (x : Int) (h : 0 ≤ x ∧ x ≤ 255) : isB [x] := fun z hz => by simp at hz; subst hz; exact h
theorem pktTL_isB (a b : Nat) (f : Int) (s n : Nat) : isB (pktTL a b f s n) :=
  isB_app (isB_app (isB_app (isB_app (isB_app (isB_app (flowTL_isB a b) (isB_one 32 (by decide))) (letTo_isB f 4 (by decide))) (isB_two 32 35 (by decide))) (digL_isB s)) (isB_two 32 43 (by decide))) (digL_isB n)

set_option maxRecDepth 100000 in
set_option maxHeartbeats 4000000 in
theorem implPacketText_any (base : Nat) (a b f s : Int) (o : Option Addr) (len cap : Nat) (w : World) (hl : len ≤ maxLen) (hbase : base ≤ w.heap.size) (hT : PTab base w) :
    Calls Tryd.prog 34 #[pkt a b f s (.slice o len cap)] w fun e w' => ∃ v, e = .returned v ∧ ownB w' base v (pktT a b f s len) ∧ TxS base w w' := by
  obtain ⟨W0, hW0⟩ : ∃ W, (w.alloc (.cells #[.int .i64 a, .int .i64 b, .int .i64 f, .int .i64 s, .slice o len cap] 26)) = W := ⟨_, rfl⟩
  have bx : W0.heap[w.heap.size]? = some (.cells #[.int .i64 a, .int .i64 b, .int .i64 f, .int .i64 s, .slice o len cap] 26 (0, 0)) := by rw [← hW0]; exact heap_alloc_new w _
  have hB0 : Below w.heap.size w W0 := by rw [← hW0]; exact (Below.refl _ _).alloc (Nat.le_refl _) _
  have t0 : TxS base w W0 := TxS.below hB0 hbase
  have hs0 := t0.sz hbase
  clear hB0
  have HOK := hide (implPacketOk_any a b f s o len cap W0 hl)
  obtain ⟨B, hB⟩ : ∃ B, packetOkB a b f s len = B := ⟨_, rfl⟩
  rw [hB] at HOK
  cases B with
  | false =>
    have bxc0 : W0.cell? ⟨w.heap.size, 0, none⟩ = some (.int .i64 a) := cellT bx 0 _ rfl
    have bxc1 : W0.cell? ⟨w.heap.size, 1, none⟩ = some (.int .i64 b) := cellT bx 1 _ rfl
    have bxc2 : W0.cell? ⟨w.heap.size, 2, none⟩ = some (.int .i64 f) := cellT bx 2 _ rfl
    have bxc3 : W0.cell? ⟨w.heap.size, 3, none⟩ = some (.int .i64 s) := cellT bx 3 _ rfl
    have bxc4 : W0.cell? ⟨w.heap.size, 4, none⟩ = some (.slice o len cap) := cellT bx 4 _ rfl
    have HN := hide (pktT_no hB)
    clear hB
    go_enter Tryd.func34, Tryd.ntmps34
    go_wp2_with fail
    refine HOK.out.mono ?_
    rintro e y ⟨rfl, hb⟩
    have st := TxS.below hb hs0
    have HT := hide (t0.trans st)
    clear st hb bx bxc0 bxc1 bxc2 bxc3 bxc4
    go_wp2
    go_ret
    exact ⟨_, rfl, by rw [HN.out]; exact World.ownsRow_nil _ _ _ _, HT.out⟩
  | true =>
    obtain ⟨a', b', s', rfl, rfl, rfl, f0, f1, ha, hb', hs', hn, hE⟩ := pktT_yes hB
    have HE := hide hE
    have hla := flowTL_len a' b'
    have hll := letTo_len f 4
    have hls := digL_len s'
    have hln := digL_len len
    clear hE hB
    replace hT := hT.tx t0 (Nat.le_refl _)
    have bxc0 : W0.cell? ⟨w.heap.size, 0, none⟩ = some (.int .i64 a') := cellT bx 0 _ rfl
    have bxc1 : W0.cell? ⟨w.heap.size, 1, none⟩ = some (.int .i64 b') := cellT bx 1 _ rfl
    have bxc2 : W0.cell? ⟨w.heap.size, 2, none⟩ = some (.int .i64 f) := cellT bx 2 _ rfl
    have bxc3 : W0.cell? ⟨w.heap.size, 3, none⟩ = some (.int .i64 s') := cellT bx 3 _ rfl
    have bxc4 : W0.cell? ⟨w.heap.size, 4, none⟩ = some (.slice o len cap) := cellT bx 4 _ rfl
    go_enter Tryd.func34, Tryd.ntmps34
    go_wp2_with fail
    refine HOK.out.mono ?_
    rintro e y0 ⟨rfl, hb0⟩
    have st0 := TxS.below hb0 hs0
    clear bxc0 bxc1 bxc2 bxc3 bxc4
    replace bx := st0.box bx (by decide)
    replace hT := hT.tx st0 (Nat.le_refl _)
    replace t0 := t0.trans st0
    replace hs0 := st0.sz hs0
    clear st0 hb0 HOK
    have bxc0 : y0.cell? ⟨w.heap.size, 0, none⟩ = some (.int .i64 a') := cellT bx 0 _ rfl
    have bxc1 : y0.cell? ⟨w.heap.size, 1, none⟩ = some (.int .i64 b') := cellT bx 1 _ rfl
    have hnil : ownB y0 base (.slice none 0 0) ([] : List Int) := World.ownsRow_nil _ _ _ _
    go_wp2_with fail
    refine (appendFlow_any base (.slice none 0 0) [] a' b' y0 hnil hs0 hT (by omega) (by omega) (by simp)).mono ?_
    rintro e y1 ⟨x1, rfl, ho1, st1⟩
    obtain ⟨K1, hK1⟩ : ∃ q, ([] : List Int) ++ flowTL a' b' = q := ⟨_, rfl⟩
    rw [hK1] at ho1
    have bK1 : K1.length ≤ 131075 := by rw [← hK1, List.length_append]; simp only [List.length_nil]; omega
    have EK1 := hide hK1
    clear hK1
    clear bxc0 bxc1
    replace bx := st1.box bx (by decide)
    replace hT := hT.tx st1 (Nat.le_refl _)
    replace t0 := t0.trans st1
    replace hs0 := st1.sz hs0
    clear hnil st1
    go_wp2_with (at_builtin; refine wpList_append_one 32 rfl _ _ rfl base x1 K1 rfl ho1 rfl ?c2 hs0 ?_)
    case c2 => omega
    intro x2 y2 ho2 st2
    obtain ⟨K2, hK2⟩ : ∃ q, K1 ++ [32] = q := ⟨_, rfl⟩
    rw [hK2] at ho2
    have bK2 : K2.length ≤ 131076 := by rw [← hK2, List.length_append]; simp only [List.length_cons, List.length_nil]; omega
    have EK2 := hide hK2
    clear hK2
    replace bx := st2.box bx (by decide)
    replace hT := hT.tx st2 (Nat.le_refl _)
    replace t0 := t0.trans st2
    replace hs0 := st2.sz hs0
    clear ho1 st2
    have bxc2 : y2.cell? ⟨w.heap.size, 2, none⟩ = some (.int .i64 f) := cellT bx 2 _ rfl
    go_wp2_with fail
    refine (letters_any f y2 f0 f1).mono ?_
    rintro e y3 ⟨q3, rfl, hq3, hb3⟩
    obtain ⟨o3, c3, rfl, R3⟩ := hq3.open
    have nl3 := own_nilB hq3
    have st3 := TxS.below hb3 hs0
    have hp3 := own_kept ho2 hb3
    clear ho2 hq3 hb3
    clear bxc2
    replace bx := st3.box bx (by decide)
    replace hT := hT.tx st3 (Nat.le_refl _)
    replace t0 := t0.trans st3
    replace hs0 := st3.sz hs0
    clear st3
    go_wp2_with (at_builtin; refine wpList_append_txt rfl _ _ rfl base x2 K2 rfl hp3 o3 c3 (letTo f 4) _ rfl rfl nl3 R3 ?c4 hs0 ?_)
    case c4 => omega
    intro x4 y4 ho4 st4
    obtain ⟨K4, hK4⟩ : ∃ q, K2 ++ letTo f 4 = q := ⟨_, rfl⟩
    rw [hK4] at ho4
    have bK4 : K4.length ≤ 131080 := by rw [← hK4, List.length_append]; omega
    have EK4 := hide hK4
    clear hK4
    replace bx := st4.box bx (by decide)
    replace hT := hT.tx st4 (Nat.le_refl _)
    replace t0 := t0.trans st4
    replace hs0 := st4.sz hs0
    clear hp3 R3 nl3 st4
    go_wp2_with (at_builtin; refine wpList_append_str rfl _ _ rfl base x4 K4 rfl ho4 _ [32, 35] rfl rfl ?c5 hs0 ?_)
    case c5 => simp only [List.length_cons, List.length_nil]; omega
    intro x5 y5 ho5 st5
    obtain ⟨K5, hK5⟩ : ∃ q, K4 ++ [32, 35] = q := ⟨_, rfl⟩
    rw [hK5] at ho5
    have bK5 : K5.length ≤ 131082 := by rw [← hK5, List.length_append]; simp only [List.length_cons, List.length_nil]; omega
    have EK5 := hide hK5
    clear hK5
    replace bx := st5.box bx (by decide)
    replace hT := hT.tx st5 (Nat.le_refl _)
    replace t0 := t0.trans st5
    replace hs0 := st5.sz hs0
    clear ho4 st5
    have bxc3 : y5.cell? ⟨w.heap.size, 3, none⟩ = some (.int .i64 s') := cellT bx 3 _ rfl
    go_wp2_with fail
    refine (appendInt_any base x5 K5 s' y5 ho5 hs0 hT (by omega) (by omega)).mono ?_
    rintro e y6 ⟨x6, rfl, ho6, st6⟩
    obtain ⟨K6, hK6⟩ : ∃ q, K5 ++ digL s' = q := ⟨_, rfl⟩
    rw [hK6] at ho6
    have bK6 : K6.length ≤ 196618 := by rw [← hK6, List.length_append]; omega
    have EK6 := hide hK6
    clear hK6
    clear bxc3
    replace bx := st6.box bx (by decide)
    replace hT := hT.tx st6 (Nat.le_refl _)
    replace t0 := t0.trans st6
    replace hs0 := st6.sz hs0
    clear ho5 st6
    go_wp2_with (at_builtin; refine wpList_append_str rfl _ _ rfl base x6 K6 rfl ho6 _ [32, 43] rfl rfl ?c7 hs0 ?_)
    case c7 => simp only [List.length_cons, List.length_nil]; omega
    intro x7 y7 ho7 st7
    obtain ⟨K7, hK7⟩ : ∃ q, K6 ++ [32, 43] = q := ⟨_, rfl⟩
    rw [hK7] at ho7
    have bK7 : K7.length ≤ 196620 := by rw [← hK7, List.length_append]; simp only [List.length_cons, List.length_nil]; omega
    have EK7 := hide hK7
    clear hK7
    replace bx := st7.box bx (by decide)
    replace hT := hT.tx st7 (Nat.le_refl _)
    replace t0 := t0.trans st7
    replace hs0 := st7.sz hs0
    clear ho6 st7
    have bxc4 : y7.cell? ⟨w.heap.size, 4, none⟩ = some (.slice o len cap) := cellT bx 4 _ rfl
    go_wp2_with fail
    refine (appendInt_any base x7 K7 len y7 ho7 hs0 hT (by omega) (by omega)).mono ?_
    rintro e y8 ⟨x8, rfl, ho8, st8⟩
    obtain ⟨K8, hK8⟩ : ∃ q, K7 ++ digL len = q := ⟨_, rfl⟩
    rw [hK8] at ho8
    have bK8 : K8.length ≤ 196637 := by rw [← hK8, List.length_append]; omega
    have EK8 := hide hK8
    clear hK8
    clear bxc4
    replace bx := st8.box bx (by decide)
    replace hT := hT.tx st8 (Nat.le_refl _)
    replace t0 := t0.trans st8
    replace hs0 := st8.sz hs0
    clear ho7 st8
    have HO : Hid (ownB y8 base x8 (pktT a' b' f s' len)) := by unfold Hid; rw [HE.out]; unfold pktTL; rw [← List.nil_append (flowTL a' b')]; rw [EK1.out, EK2.out, EK4.out, EK5.out, EK6.out, EK7.out, EK8.out]; exact ho8
    have HT := hide t0
    clear ho8 t0
    go_wp2
    go_ret
    exact ⟨_, rfl, HO.out, HT.out⟩

theorem bit_shr (f : Int) (h0 : 0 ≤ f) (h1 : f < 16) (i : Nat) (hi : i < 4) : bits .and .i64 (f / 2 ^ i) 1 = (if letB f i = true then 1 else 0) := by
  rcases (show f = 0 ∨ f = 1 ∨ f = 2 ∨ f = 3 ∨ f = 4 ∨ f = 5 ∨ f = 6 ∨ f = 7 ∨ f = 8 ∨ f = 9 ∨ f = 10 ∨ f = 11 ∨ f = 12 ∨ f = 13 ∨ f = 14 ∨ f = 15 by omega) with h | h | h | h | h | h | h | h | h | h | h | h | h | h | h | h <;> subst h <;>
  rcases (show i = 0 ∨ i = 1 ∨ i = 2 ∨ i = 3 by omega) with h | h | h | h <;> subst h <;> decide +kernel
end Go.Proofs.YtoeoiljddcjphaaDoor
