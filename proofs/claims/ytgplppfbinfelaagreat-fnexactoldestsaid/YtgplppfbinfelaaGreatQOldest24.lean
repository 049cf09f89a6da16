/- The model's CarrierOk: a plain function, and the contract. -/
import Derived.Test.YtgplppfbinfelaaGreatQOldest22
import Derived.Test.YtgplppfbinfelaaGreatQOldest15
import Derived.Test.YtgplppfbinfelaaGreatQOldest04
namespace Go.Proofs.YtgplppfbinfelaaGreat
open Go.ChangeShapes Go.WideShapes Go.ChangeAt Go.RowKit Go.Joins
set_option linter.unusedVariables false
set_option linter.unusedSimpArgs false
set_option maxRecDepth 100000
set_option maxHeartbeats 40000000
def opens3 (f : Int) : Bool := bits .and .i64 f 3 == 1
def routeR (op : Bool) : Int → List (Int × Int) → Bool
  | _, [] => true
  | h, p :: l => segOkB p.1 p.2 && !(p.2 == 1 && !op) && !(decide (p.2 < h)) && routeR op p.2 l
def headB (a b f s : Int) (n m : Nat) (pl st : Int) : Bool := packetOkB a b f s n && decide (1 ≤ (m : Int)) && decide ((m : Int) ≤ 24) && decide (0 ≤ pl) && decide (pl < (m : Int)) && decide (0 ≤ st) && decide (st ≤ 100000)
def carrierOkB (a b f s : Int) (n : Nat) (g : List (Int × Int)) (pl st : Int) : Bool := headB a b f s n g.length pl st && routeR (opens3 f) 0 g
theorem headB_iff {a b f s : Int} {n m : Nat} {pl st : Int} : headB a b f s n m pl st = true ↔ (packetOkB a b f s n = true ∧ 1 ≤ (m : Int) ∧ (m : Int) ≤ 24 ∧ 0 ≤ pl ∧ pl < (m : Int) ∧ 0 ≤ st ∧ st ≤ 100000 ∧ True) := by simp [headB, and_assoc]
theorem carrierOkB_no {a b f s : Int} {n : Nat} {g : List (Int × Int)} {pl st : Int} (h : ¬ (packetOkB a b f s n = true ∧ 1 ≤ (g.length : Int) ∧ (g.length : Int) ≤ 24 ∧ 0 ≤ pl ∧ pl < (g.length : Int) ∧ 0 ≤ st ∧ st ≤ 100000 ∧ True)) : false = carrierOkB a b f s n g pl st := by
  have : headB a b f s n g.length pl st = false := by rw [Bool.eq_false_iff]; exact fun q => h (headB_iff.1 q)
  simp [carrierOkB, this]
theorem carrierOkB_yes {a b f s : Int} {n : Nat} {g : List (Int × Int)} {pl st : Int} (h : headB a b f s n g.length pl st = true) : routeR (opens3 f) 0 g = carrierOkB a b f s n g pl st := by simp [carrierOkB, h]
def boxC (k : Nat) (a b f s : Int) (v g : Value) (pl st : Int) (w : World) : Prop :=
  w.cell? ⟨k, 0, none⟩ = some (.int .i64 a) ∧ w.cell? ⟨k, 1, none⟩ = some (.int .i64 b) ∧ w.cell? ⟨k, 2, none⟩ = some (.int .i64 f) ∧ w.cell? ⟨k, 3, none⟩ = some (.int .i64 s) ∧ w.cell? ⟨k, 4, none⟩ = some v ∧
  w.cell? ⟨k, 5, none⟩ = some g ∧ w.cell? ⟨k, 6, none⟩ = some (.int .i64 pl) ∧ w.cell? ⟨k, 7, none⟩ = some (.int .i64 st)
theorem boxC.kept {k : Nat} {a b f s : Int} {v g : Value} {pl st : Int} {w w' : World} {B : Nat} (h : boxC k a b f s v g pl st w) (hb : Below B w w') (hk : k < B) : boxC k a b f s v g pl st w' :=
  ⟨(hb.cell (p := ⟨k, 0, none⟩) hk).trans h.1, (hb.cell (p := ⟨k, 1, none⟩) hk).trans h.2.1, (hb.cell (p := ⟨k, 2, none⟩) hk).trans h.2.2.1, (hb.cell (p := ⟨k, 3, none⟩) hk).trans h.2.2.2.1, (hb.cell (p := ⟨k, 4, none⟩) hk).trans h.2.2.2.2.1,
   (hb.cell (p := ⟨k, 5, none⟩) hk).trans h.2.2.2.2.2.1, (hb.cell (p := ⟨k, 6, none⟩) hk).trans h.2.2.2.2.2.2.1, (hb.cell (p := ⟨k, 7, none⟩) hk).trans h.2.2.2.2.2.2.2⟩
theorem boxC_new (w : World) (a b f s : Int) (v g : Value) (pl st : Int) (e : TypeId) : boxC w.heap.size a b f s v g pl st (w.alloc (.cells #[.int .i64 a, .int .i64 b, .int .i64 f, .int .i64 s, v, g, .int .i64 pl, .int .i64 st] e)) := by
  unfold boxC; simp
theorem l1opens_any (a b f s : Int) (o : Option Addr) (len cap : Nat) (w : World) :
    Calls Tryz.prog 79 #[pkt a b f s (.slice o len cap)] w fun e w' => e = .returned (.bool (opens3 f)) ∧ Below w.heap.size w w' := by
  have hB : Below w.heap.size w w := Below.refl _ _
  go_enter Tryz.func79, Tryz.ntmps79
  go_wp2
  go_ret
  exact ⟨rfl, by (repeat (first | with_reducible (first|exact hB|exact Below.refl _ _|refine Below.drew ?_|refine below_drewN ?_ _|refine Below.alloc ?_ ?_ _|refine Below.setCell ?_ ?_ _) | (focus (simp; first | done | omega)) | omega))⟩
def prevG (g : List (Int × Int)) (k : Nat) : Int := if k = 0 then 0 else (g.getD (k - 1) (0, 0)).2
theorem routeR_drop (op : Bool) (g : List (Int × Int)) (k : Nat) (h : k < g.length) : routeR op (prevG g k) (g.drop k) = (segOkB (g.getD k (0, 0)).1 (g.getD k (0, 0)).2 && !((g.getD k (0, 0)).2 == 1 && !op) && !(decide ((g.getD k (0, 0)).2 < prevG g k)) && routeR op (prevG g (k + 1)) (g.drop (k + 1))) := by
  rw [List.drop_eq_getElem_cons h]
  have e : g.getD k (0, 0) = g[k] := by simp [h]
  rw [e]
  simp [routeR, prevG, e, h]
theorem routeR_end (op : Bool) (g : List (Int × Int)) : routeR op (prevG g g.length) (g.drop g.length) = true := by simp [routeR]
theorem route_step {A B C X R : Bool} (h : R = (A && B && C && X)) (h1 : A = true) (h2 : B = true) (h3 : C = true) : R = X := by rw [h, h1, h2, h3]; rfl
theorem route_stop {A B C X R : Bool} (h : R = (A && B && C && X)) (h1 : A = false ∨ B = false ∨ C = false) : R = false := by rw [h]; rcases h1 with h | h | h <;> rw [h] <;> simp
theorem specCarrierOk_yes (a b f s : Int) (o og : Option Addr) (len cap cg : Nat) (g : List (Int × Int)) (pl st : Int) (w : World) (hl : len ≤ maxLen) (hG : RdG w og g) (h1 : packetOkB a b f s len = true) (h2 : 1 ≤ (g.length : Int)) (h3 : (g.length : Int) ≤ 24) (h4 : 0 ≤ pl) (h5 : pl < (g.length : Int)) (h6 : 0 ≤ st) (h7 : st ≤ 100000) :
    Calls Tryz.prog 92 #[crr a b f s (.slice o len cap) (.slice og g.length cg) pl st] w fun e w' => e = .returned (.bool (routeR (opens3 f) 0 g)) ∧ Below w.heap.size w w' := by
  have hp := fun w => specPacketOk_any a b f s o len cap w hl
  rw [h1] at hp
  have bx := boxC_new w a b f s (.slice o len cap) (.slice og g.length cg) pl st 94
  have hz : w.heap.size < (w.alloc (.cells #[.int .i64 a, .int .i64 b, .int .i64 f, .int .i64 s, .slice o len cap, .slice og g.length cg, .int .i64 pl, .int .i64 st] 94)).heap.size := by simp
  have hb0 : Below w.heap.size w (w.alloc (.cells #[.int .i64 a, .int .i64 b, .int .i64 f, .int .i64 s, .slice o len cap, .slice og g.length cg, .int .i64 pl, .int .i64 st] 94)) := (Below.refl _ _).alloc (Nat.le_refl _) _
  have hn1 : ¬ ((g.length : Int) < 1) := by omega
  have hn2 : ¬ ((g.length : Int) ≤ pl) := by omega
  have hn3 : ¬ (24 < (g.length : Int)) := by omega
  go_enter Tryz.func92, Tryz.ntmps92
  go_wp2_with fail
  generalize (w.alloc (.cells #[.int .i64 a, .int .i64 b, .int .i64 f, .int .i64 s, .slice o len cap, .slice og g.length cg, .int .i64 pl, .int .i64 st] 94)) = w0 at *
  refine (hp _).mono ?_
  rintro e w1 ⟨rfl, hb1⟩
  replace bx := bx.kept hb1 hz
  have hz1 : w.heap.size < w1.heap.size := Nat.lt_of_lt_of_le hz hb1.size
  have hB1 : Below w.heap.size w w1 := hb0.trans (hb1.mono (Nat.le_of_lt hz))
  have hG1 := hG.kept hB1
  clear hb0 hb1 hG hp hz
  have bx2 := bx
  obtain ⟨x0, x1, x2, x3, x4, x5, x6, x7⟩ := bx2
  go_wp2
  go_loopw [3] (fun i wr => ∃ k : Nat, k ≤ g.length ∧ i = .int .i64 k ∧ routeR (opens3 f) 0 g = routeR (opens3 f) (prevG g k) (g.drop k) ∧ Below w1.heap.size w1 wr)
    (fun i _ => g.length - (intOf i).toNat)
  case atStart => exact ⟨0, Nat.zero_le _, rfl, by simp [prevG], Below.refl _ _⟩
  case round =>
    obtain ⟨k, hk, rfl, hrt, hBr⟩ := hrel
    have bxr := bx.kept hBr hz1
    have hsr := hBr.size
    have hBW : Below w.heap.size w wr := hB1.trans (hBr.mono (Nat.le_of_lt hz1))
    have hGr := hG1.kept hBr
    clear bx x0 x1 x2 x3 x4 x5 x6 x7 hG1
    have bx2 := bxr
    obtain ⟨x0, x1, x2, x3, x4, x5, x6, x7⟩ := bx2
    by_cases hlt : k < g.length
    · rw [routeR_drop _ g k hlt] at hrt
      rcases hGr with hG0 | ⟨bb, off, rfl, hbb, hcell⟩
      · subst hG0; simp at hlt
      have hc := hcell k hlt
      have hcp : 0 < k → wr.cell? ⟨bb, off + (k - 1) * 2 + 1, none⟩ = some (.int .i64 (prevG g k)) := fun h => by
        have := (hcell (k - 1) (by omega)).2
        simpa [prevG, Nat.ne_of_gt h] using this
      clear hcell
      obtain ⟨x, y, hxy⟩ : ∃ x y, g.getD k (0, 0) = (x, y) := ⟨_, _, rfl⟩
      rw [hxy] at hc hrt
      dsimp only at hc hrt
      have i1 : (0 : Int) ≤ (k : Int) := by omega
      have i2 : (k : Int) < (g.length : Int) := by omega
      generalize hzz : prevG g k = z at *
      generalize hq : opens3 f = op at *
      have hso := fun w => specSegOk_any x y w
      have hop := fun w => l1opens_any a b f s o len cap w
      rw [hq] at hop
      have HRT := hide hrt
      have hwr : w.heap.size < wr.heap.size := Nat.lt_of_lt_of_le hz1 hsr
      have HBW := hide hBW
      have HBR := hide hBr
      have HXY := hide hxy
      have G0 := Grown.cell x0 hwr
      have G1 := Grown.cell x1 hwr
      have G2 := Grown.cell x2 hwr
      have G3 := Grown.cell x3 hwr
      have G4 := Grown.cell x4 hwr
      have G5 := Grown.cell x5 hwr
      have Gx := Grown.cell hc.1 hbb
      have Gy := Grown.cell hc.2 hbb
      clear hrt bxr x1 x2 x3 x4 x6 x7 hc hBW hBr hB1 hsr hxy hz1
      by_cases c1 : segOkB x y = true
      · rw [c1] at hso
        have hyy := (segOkB_iff.1 c1)
        by_cases c2 : y = 1
        · subst c2
          cases op with
          | false =>
            have HR2 := hide (hq ▸ route_stop HRT.out (.inr (.inl (by simp))) : routeR (opens3 f) 0 g = false)
            clear HRT hcp hzz
            go_wp2
            (refine wp_region_grown (by kernel_rfl) (by kernel_rfl) ?_; intro hne9; (repeat (go_big_quiet_step ((first | (go_at_call 151; exact grown_of _ (hso _)) | (go_at_call 79; exact grown_of _ (hop _)))))); (with_reducible refine wpQuiet_nil ?_); intro _ hw9; obtain ⟨pq, hw8⟩ := hw9; subst hw8)
            go_wp2
            go_ret
            exact ⟨ret_bool HR2.out.symm, HBW.out.trans (pq.b.mono HBW.out.size)⟩
          | true =>
            rcases Nat.eq_zero_or_pos k with hk0 | hk0
            · subst hk0
              have HR2 := hide (route_step HRT.out c1 (by simp) (by rw [show z = 0 from hzz.symm]; simp <;> omega))
              simp only [Nat.zero_mul, Nat.add_zero] at Gx Gy
              clear HRT hcp hzz
              go_wp2
              (refine wp_region_grown (by kernel_rfl) (by kernel_rfl) ?_; intro hne9; (repeat (go_big_quiet_step ((first | (go_at_call 151; exact grown_of _ (hso _)) | (go_at_call 79; exact grown_of _ (hop _)))))); (with_reducible refine wpQuiet_nil ?_); intro _ hw9; obtain ⟨pq, hw8⟩ := hw9; subst hw8)
              go_wp2
              go_roundw
              case rel => exact ⟨0 + 1, by omega, by go_num, HR2.out, HBR.out.trans (pq.b.mono HBR.out.size)⟩
              case measure => simp [intOf]; omega
            · obtain ⟨j, rfl⟩ : ∃ j, k = j + 1 := ⟨k - 1, by omega⟩
              have Gz := Grown.cell (hcp hk0) hbb
              simp only [Nat.add_sub_cancel] at Gz
              have i3 : (j : Int) < (g.length : Int) := by omega
              have i4 : 0 < (j : Int) + 1 := by omega
              by_cases c4 : 1 < z
              · have HR2 := hide (hq ▸ route_stop HRT.out (.inr (.inr (by simp [c4]))) : routeR (opens3 f) 0 g = false)
                clear HRT hcp hzz
                go_wp2
                (refine wp_region_grown (by kernel_rfl) (by kernel_rfl) ?_; intro hne9; (repeat (go_big_quiet_step ((first | (go_at_call 151; exact grown_of _ (hso _)) | (go_at_call 79; exact grown_of _ (hop _)))))); (with_reducible refine wpQuiet_nil ?_); intro _ hw9; obtain ⟨pq, hw8⟩ := hw9; subst hw8)
                go_wp2
                go_ret
                exact ⟨ret_bool HR2.out.symm, HBW.out.trans (pq.b.mono HBW.out.size)⟩
              · have c4b : decide (1 < z) = false := decide_eq_false c4
                have HR2 := hide (route_step HRT.out c1 (by simp) (by simp <;> omega))
                clear HRT hcp hzz
                go_wp2
                (refine wp_region_grown (by kernel_rfl) (by kernel_rfl) ?_; intro hne9; (repeat (go_big_quiet_step ((first | (go_at_call 151; exact grown_of _ (hso _)) | (go_at_call 79; exact grown_of _ (hop _)))))); (with_reducible refine wpQuiet_nil ?_); intro _ hw9; obtain ⟨pq, hw8⟩ := hw9; subst hw8)
                go_wp2
                go_roundw
                case rel => exact ⟨j + 1 + 1, by omega, by go_num, HR2.out, HBR.out.trans (pq.b.mono HBR.out.size)⟩
                case measure => simp [intOf]; omega
        · have c2b : (y == 1) = false := by simp [c2]
          rcases Nat.eq_zero_or_pos k with hk0 | hk0
          · subst hk0
            have HR2 := hide (route_step HRT.out c1 (by simp [c2b]) (by rw [show z = 0 from hzz.symm]; simp <;> omega))
            simp only [Nat.zero_mul, Nat.add_zero] at Gx Gy
            clear HRT hcp hzz
            go_wp2
            (refine wp_region_grown (by kernel_rfl) (by kernel_rfl) ?_; intro hne9; (repeat (go_big_quiet_step ((first | (go_at_call 151; exact grown_of _ (hso _)) | (go_at_call 79; exact grown_of _ (hop _)))))); (with_reducible refine wpQuiet_nil ?_); intro _ hw9; obtain ⟨pq, hw8⟩ := hw9; subst hw8)
            go_wp2
            go_roundw
            case rel => exact ⟨0 + 1, by omega, by go_num, HR2.out, HBR.out.trans (pq.b.mono HBR.out.size)⟩
            case measure => simp [intOf]; omega
          · obtain ⟨j, rfl⟩ : ∃ j, k = j + 1 := ⟨k - 1, by omega⟩
            have Gz := Grown.cell (hcp hk0) hbb
            simp only [Nat.add_sub_cancel] at Gz
            have i3 : (j : Int) < (g.length : Int) := by omega
            have i4 : 0 < (j : Int) + 1 := by omega
            by_cases c4 : y < z
            · have HR2 := hide (hq ▸ route_stop HRT.out (.inr (.inr (by simp [c4]))) : routeR (opens3 f) 0 g = false)
              clear HRT hcp hzz
              go_wp2
              (refine wp_region_grown (by kernel_rfl) (by kernel_rfl) ?_; intro hne9; (repeat (go_big_quiet_step ((first | (go_at_call 151; exact grown_of _ (hso _)) | (go_at_call 79; exact grown_of _ (hop _)))))); (with_reducible refine wpQuiet_nil ?_); intro _ hw9; obtain ⟨pq, hw8⟩ := hw9; subst hw8)
              go_wp2
              go_ret
              exact ⟨ret_bool HR2.out.symm, HBW.out.trans (pq.b.mono HBW.out.size)⟩
            · have c4b : decide (y < z) = false := decide_eq_false c4
              have HR2 := hide (route_step HRT.out c1 (by simp [c2b]) (by simp <;> omega))
              clear HRT hcp hzz
              go_wp2
              (refine wp_region_grown (by kernel_rfl) (by kernel_rfl) ?_; intro hne9; (repeat (go_big_quiet_step ((first | (go_at_call 151; exact grown_of _ (hso _)) | (go_at_call 79; exact grown_of _ (hop _)))))); (with_reducible refine wpQuiet_nil ?_); intro _ hw9; obtain ⟨pq, hw8⟩ := hw9; subst hw8)
              go_wp2
              go_roundw
              case rel => exact ⟨j + 1 + 1, by omega, by go_num, HR2.out, HBR.out.trans (pq.b.mono HBR.out.size)⟩
              case measure => simp [intOf]; omega
      · have c1' : segOkB x y = false := by simpa using c1
        rw [c1'] at hso
        have HR2 := hide (hq ▸ route_stop HRT.out (.inl c1') : routeR (opens3 f) 0 g = false)
        clear HRT hcp hzz
        go_wp2
        (refine wp_region_grown (by kernel_rfl) (by kernel_rfl) ?_; intro hne9; (repeat (go_big_quiet_step ((first | (go_at_call 151; exact grown_of _ (hso _)) | (go_at_call 79; exact grown_of _ (hop _)))))); (with_reducible refine wpQuiet_nil ?_); intro _ hw9; obtain ⟨pq, hw8⟩ := hw9; subst hw8)
        go_wp2
        go_ret
        exact ⟨ret_bool HR2.out.symm, HBW.out.trans (pq.b.mono HBW.out.size)⟩
    · have e : k = g.length := by omega
      subst e
      have HE : Hid (true = routeR (opens3 f) 0 g) := by rw [routeR_end] at hrt; exact hrt.symm
      go_wp2
      go_ret
      exact ⟨ret_bool HE.out, hBW⟩
theorem specCarrierOk_any (a b f s : Int) (o og : Option Addr) (len cap cg : Nat) (g : List (Int × Int)) (pl st : Int) (w : World) (hl : len ≤ maxLen) (hgl : g.length ≤ maxLen) (hG : RdG w og g) :
    Calls Tryz.prog 92 #[crr a b f s (.slice o len cap) (.slice og g.length cg) pl st] w fun e w' => e = .returned (.bool (carrierOkB a b f s len g pl st)) ∧ Below w.heap.size w w' := by
  have hgl' := hgl
  unfold maxLen at hgl'
  have hp := fun w => specPacketOk_any a b f s o len cap w hl
  have bx := boxC_new w a b f s (.slice o len cap) (.slice og g.length cg) pl st 94
  have hz : w.heap.size < (w.alloc (.cells #[.int .i64 a, .int .i64 b, .int .i64 f, .int .i64 s, .slice o len cap, .slice og g.length cg, .int .i64 pl, .int .i64 st] 94)).heap.size := by simp
  have hb0 : Below w.heap.size w (w.alloc (.cells #[.int .i64 a, .int .i64 b, .int .i64 f, .int .i64 s, .slice o len cap, .slice og g.length cg, .int .i64 pl, .int .i64 st] 94)) := (Below.refl _ _).alloc (Nat.le_refl _) _
  by_cases h1 : packetOkB a b f s len = true
  · by_cases h2 : 1 ≤ (g.length : Int)
    · by_cases h3 : (g.length : Int) ≤ 24
      · by_cases h4 : 0 ≤ pl
        · by_cases h5 : pl < (g.length : Int)
          · by_cases h6 : 0 ≤ st
            · by_cases h7 : st ≤ 100000
              · rw [← carrierOkB_yes (headB_iff.2 ⟨h1, h2, h3, h4, h5, h6, h7, trivial⟩)]
                exact specCarrierOk_yes a b f s o og len cap cg g pl st w hl hG h1 h2 h3 h4 h5 h6 h7
              · have HN := hide (carrierOkB_no (a := a) (b := b) (f := f) (s := s) (n := len) (g := g) (pl := pl) (st := st) (fun q => h7 q.2.2.2.2.2.2.1))
                try rw [h1] at hp
                try rw [Bool.eq_false_iff.2 h1] at hp
                go_enter Tryz.func92, Tryz.ntmps92
                go_wp2_with fail
                generalize (w.alloc (.cells #[.int .i64 a, .int .i64 b, .int .i64 f, .int .i64 s, .slice o len cap, .slice og g.length cg, .int .i64 pl, .int .i64 st] 94)) = w0 at *
                refine (hp _).mono ?_
                rintro e w1 ⟨rfl, hb1⟩
                have bx1 := bx.kept hb1 hz
                have HB1 := hide (hb0.trans (hb1.mono (Nat.le_of_lt hz)))
                clear hb0 hb1 hG hp hz bx
                obtain ⟨x0, x1, x2, x3, x4, x5, x6, x7⟩ := bx1
                go_wp2
                go_ret
                exact ⟨ret_bool HN.out, HB1.out⟩
            · have HN := hide (carrierOkB_no (a := a) (b := b) (f := f) (s := s) (n := len) (g := g) (pl := pl) (st := st) (fun q => h6 q.2.2.2.2.2.1))
              try rw [h1] at hp
              try rw [Bool.eq_false_iff.2 h1] at hp
              go_enter Tryz.func92, Tryz.ntmps92
              go_wp2_with fail
              generalize (w.alloc (.cells #[.int .i64 a, .int .i64 b, .int .i64 f, .int .i64 s, .slice o len cap, .slice og g.length cg, .int .i64 pl, .int .i64 st] 94)) = w0 at *
              refine (hp _).mono ?_
              rintro e w1 ⟨rfl, hb1⟩
              have bx1 := bx.kept hb1 hz
              have HB1 := hide (hb0.trans (hb1.mono (Nat.le_of_lt hz)))
              clear hb0 hb1 hG hp hz bx
              obtain ⟨x0, x1, x2, x3, x4, x5, x6, x7⟩ := bx1
              go_wp2
              go_ret
              exact ⟨ret_bool HN.out, HB1.out⟩
          · have HN := hide (carrierOkB_no (a := a) (b := b) (f := f) (s := s) (n := len) (g := g) (pl := pl) (st := st) (fun q => h5 q.2.2.2.2.1))
            try rw [h1] at hp
            try rw [Bool.eq_false_iff.2 h1] at hp
            go_enter Tryz.func92, Tryz.ntmps92
            go_wp2_with fail
            generalize (w.alloc (.cells #[.int .i64 a, .int .i64 b, .int .i64 f, .int .i64 s, .slice o len cap, .slice og g.length cg, .int .i64 pl, .int .i64 st] 94)) = w0 at *
            refine (hp _).mono ?_
            rintro e w1 ⟨rfl, hb1⟩
            have bx1 := bx.kept hb1 hz
            have HB1 := hide (hb0.trans (hb1.mono (Nat.le_of_lt hz)))
            clear hb0 hb1 hG hp hz bx
            obtain ⟨x0, x1, x2, x3, x4, x5, x6, x7⟩ := bx1
            go_wp2
            go_ret
            exact ⟨ret_bool HN.out, HB1.out⟩
        · have HN := hide (carrierOkB_no (a := a) (b := b) (f := f) (s := s) (n := len) (g := g) (pl := pl) (st := st) (fun q => h4 q.2.2.2.1))
          try rw [h1] at hp
          try rw [Bool.eq_false_iff.2 h1] at hp
          go_enter Tryz.func92, Tryz.ntmps92
          go_wp2_with fail
          generalize (w.alloc (.cells #[.int .i64 a, .int .i64 b, .int .i64 f, .int .i64 s, .slice o len cap, .slice og g.length cg, .int .i64 pl, .int .i64 st] 94)) = w0 at *
          refine (hp _).mono ?_
          rintro e w1 ⟨rfl, hb1⟩
          have bx1 := bx.kept hb1 hz
          have HB1 := hide (hb0.trans (hb1.mono (Nat.le_of_lt hz)))
          clear hb0 hb1 hG hp hz bx
          obtain ⟨x0, x1, x2, x3, x4, x5, x6, x7⟩ := bx1
          go_wp2
          go_ret
          exact ⟨ret_bool HN.out, HB1.out⟩
      · have HN := hide (carrierOkB_no (a := a) (b := b) (f := f) (s := s) (n := len) (g := g) (pl := pl) (st := st) (fun q => h3 q.2.2.1))
        try rw [h1] at hp
        try rw [Bool.eq_false_iff.2 h1] at hp
        go_enter Tryz.func92, Tryz.ntmps92
        go_wp2_with fail
        generalize (w.alloc (.cells #[.int .i64 a, .int .i64 b, .int .i64 f, .int .i64 s, .slice o len cap, .slice og g.length cg, .int .i64 pl, .int .i64 st] 94)) = w0 at *
        refine (hp _).mono ?_
        rintro e w1 ⟨rfl, hb1⟩
        have bx1 := bx.kept hb1 hz
        have HB1 := hide (hb0.trans (hb1.mono (Nat.le_of_lt hz)))
        clear hb0 hb1 hG hp hz bx
        obtain ⟨x0, x1, x2, x3, x4, x5, x6, x7⟩ := bx1
        go_wp2
        go_ret
        exact ⟨ret_bool HN.out, HB1.out⟩
    · have HN := hide (carrierOkB_no (a := a) (b := b) (f := f) (s := s) (n := len) (g := g) (pl := pl) (st := st) (fun q => h2 q.2.1))
      try rw [h1] at hp
      try rw [Bool.eq_false_iff.2 h1] at hp
      go_enter Tryz.func92, Tryz.ntmps92
      go_wp2_with fail
      generalize (w.alloc (.cells #[.int .i64 a, .int .i64 b, .int .i64 f, .int .i64 s, .slice o len cap, .slice og g.length cg, .int .i64 pl, .int .i64 st] 94)) = w0 at *
      refine (hp _).mono ?_
      rintro e w1 ⟨rfl, hb1⟩
      have bx1 := bx.kept hb1 hz
      have HB1 := hide (hb0.trans (hb1.mono (Nat.le_of_lt hz)))
      clear hb0 hb1 hG hp hz bx
      obtain ⟨x0, x1, x2, x3, x4, x5, x6, x7⟩ := bx1
      go_wp2
      go_ret
      exact ⟨ret_bool HN.out, HB1.out⟩
  · have HN := hide (carrierOkB_no (a := a) (b := b) (f := f) (s := s) (n := len) (g := g) (pl := pl) (st := st) (fun q => h1 q.1))
    try rw [h1] at hp
    try rw [Bool.eq_false_iff.2 h1] at hp
    go_enter Tryz.func92, Tryz.ntmps92
    go_wp2_with fail
    generalize (w.alloc (.cells #[.int .i64 a, .int .i64 b, .int .i64 f, .int .i64 s, .slice o len cap, .slice og g.length cg, .int .i64 pl, .int .i64 st] 94)) = w0 at *
    refine (hp _).mono ?_
    rintro e w1 ⟨rfl, hb1⟩
    have bx1 := bx.kept hb1 hz
    have HB1 := hide (hb0.trans (hb1.mono (Nat.le_of_lt hz)))
    clear hb0 hb1 hG hp hz bx
    obtain ⟨x0, x1, x2, x3, x4, x5, x6, x7⟩ := bx1
    go_wp2
    go_ret
    exact ⟨ret_bool HN.out, HB1.out⟩
end Go.Proofs.YtgplppfbinfelaaGreat
