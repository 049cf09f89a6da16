/- Several texts in one: LSegs, Boxes, SPacket, LPacket, LCarr. -/
import Derived.Test.YtmkgbmmibjgeaaaGreatGrSegs
import Derived.Deep.RegionHeld3
import Derived.Test.YtmkgbmmibjgeaaaGreatGrBytes
import Derived.Test.YtmkgbmmibjgeaaaGreatGrSFlow
import Derived.Test.YtmkgbmmibjgeaaaGreatGrLFlow
import Derived.Test.YtmkgbmmibjgeaaaGreatGrLSeg
/- Contracts of the laws' own helpers over slices of segs: szSegS, toSegS, eqSegS. -/
namespace Go.Proofs.YtmkgbmmibjgeaaaGreat
open Go.ChangeShapes Go.WideShapes Go.ChangeAt Go.RowKit Go.Joins
set_option linter.unusedVariables false
set_option linter.unusedSimpArgs false

def fillG (l : List (Int × Int)) (k : Nat) : List (Int × Int) := l.take k ++ List.replicate (l.length - k) (0, 0)
theorem fillG_length (l : List (Int × Int)) (k : Nat) (h : k ≤ l.length) : (fillG l k).length = l.length := by simp [fillG]; omega
theorem fillG_zero (l : List (Int × Int)) : fillG l 0 = List.replicate l.length (0, 0) := by simp [fillG]
theorem fillG_all (l : List (Int × Int)) : fillG l l.length = l := by simp [fillG]
theorem flatG_set : ∀ (l : List (Int × Int)) (k : Nat) (p : Int × Int), ((flatG l).set (k * 2) p.1).set (k * 2 + 1) p.2 = flatG (l.set k p)
  | [], k, p => by simp [flatG]
  | q :: l, 0, p => by simp [flatG]
  | q :: l, k + 1, p => by
    rw [show (k + 1) * 2 = k * 2 + 1 + 1 by omega]
    simp only [flatG, List.set_cons_succ]
    rw [flatG_set l k p]
theorem cellsG_set (l : List (Int × Int)) (k : Nat) (p : Int × Int) : ((cellsG l).set (k * 2) (.int .i64 p.1)).set (k * 2 + 1) (.int .i64 p.2) = cellsG (l.set k p) := by
  unfold cellsG
  rw [← List.map_set, ← List.map_set, flatG_set]
theorem fillG_set (l : List (Int × Int)) (k : Nat) (h : k < l.length) : (fillG l k).set k (l.getD k (0, 0)) = fillG l (k + 1) := by
  have e1 : l.length - k = (l.length - (k + 1)) + 1 := by omega
  have e2 : (l.take k).length = k := by simp; omega
  unfold fillG
  rw [e1, List.replicate_succ, List.set_append_right _ _ (by omega), e2, Nat.sub_self, List.set_cons_zero, takeG_succ l k h, List.append_assoc]
  rfl
theorem flatG_replicate : ∀ n : Nat, flatG (List.replicate n (0, 0)) = List.replicate (n * 2) 0
  | 0 => rfl
  | n + 1 => by rw [List.replicate_succ, show (n + 1) * 2 = n * 2 + 1 + 1 by omega, List.replicate_succ, List.replicate_succ]; simp [flatG, flatG_replicate n]
theorem madeCells_two (n : Nat) : (madeCells #[.int .i64 0, .int .i64 0] n).toList = List.replicate n (.int .i64 0) := by
  apply List.ext_getElem?
  intro j
  by_cases hj : j < n
  · have h2 : j % 2 = 0 ∨ j % 2 = 1 := by omega
    rcases h2 with h | h <;> simp [madeCells, hj, h]
  · simp [madeCells, hj]

/-- The row that is filled, at its (k+1)st store. -/
theorem fillG_step {w wr : World} {base g c : Nat} {l : List (Int × Int)} {k : Nat} {x y : Int} (hxy : l.getD k (0, 0) = (x, y)) (hk : k < l.length) (hg : base ≤ g) (hown : wr.ownsRow w.heap.size 93 2 (.slice (some ⟨g, 0, none⟩) l.length c) l.length (cellsG (fillG l k)))
    (hB : Below base w wr) : ((wr.setCell ⟨g, k * 2, none⟩ (.int .i64 x)).setCell ⟨g, k * 2 + 1, none⟩ (.int .i64 y)).ownsRow w.heap.size 93 2 (.slice (some ⟨g, 0, none⟩) l.length c) l.length (cellsG (fillG l (k + 1))) ∧
      Below base w ((wr.setCell ⟨g, k * 2, none⟩ (.int .i64 x)).setCell ⟨g, k * 2 + 1, none⟩ (.int .i64 y)) := by
  have h := ((hown.stored (k * 2) (.int .i64 x)).1.stored (k * 2 + 1) (.int .i64 y)).1
  rw [cellsG_set _ k (x, y), ← hxy, fillG_set l k hk] at h
  exact ⟨h, (hB.setCell (p := ⟨g, k * 2, none⟩) hg _).setCell (p := ⟨g, k * 2 + 1, none⟩) hg _⟩

set_option maxHeartbeats 400000 in
theorem szSegS_any (o : Option Addr) (len cap : Nat) (n : Int) (w : World) (hl : len ≤ maxLen) (h0 : 0 ≤ n) (h1 : n ≤ 1048576) :
    Calls Tryz.prog 17 #[.slice o len cap, .int .i64 n] w fun e w' => e = .returned (.int .i64 (if n - len < 0 then -1 else n - len)) ∧ w = w' := by
  unfold maxLen at hl
  by_cases h : n - len < 0
  · rw [if_pos h]
    go_enter Tryz.func17, Tryz.ntmps17
    go_wp2
    go_ret
    exact ⟨rfl, rfl⟩
  · rw [if_neg h]
    go_enter Tryz.func17, Tryz.ntmps17
    go_wp2
    go_ret
    exact ⟨rfl, rfl⟩

set_option maxHeartbeats 1000000 in
theorem toSegS_any (o : Option Addr) (cap : Nat) (l : List (Int × Int)) (w : World) (hR : RdG w o l) (hlen : l.length ≤ 1048576) :
    Calls Tryz.prog 25 #[.slice o l.length cap] w fun e w' => ∃ g, e = .returned (.slice (some ⟨g, 0, none⟩) l.length l.length) ∧ ownG w' w.heap.size (.slice (some ⟨g, 0, none⟩) l.length l.length) l ∧ Below w.heap.size w w' := by
  obtain ⟨i0, hi, hz0, hz1, hz2⟩ := info_parts infoSeg
  have hB : Below w.heap.size w w := Below.refl _ _
  go_enter Tryz.func25, Tryz.ntmps25
  go_wp2_with (at_make; refine wpList_make_full _ rfl _ _ 48 rfl w.heap.size 93 i0 (.agg #[.int .i64 0, .int .i64 0]) 2 Tryz.underlying48 hi hz0 hz1 _ _ _ _ l.length rfl rfl rfl rfl ?b2 ?b3 ?b4 ?_)
  case b2 => rw [hz2]; omega
  case b3 => unfold maxLen; omega
  case b4 => simp
  intro w1 hown hgrow
  have hB1 : Below w.heap.size w w1 := hB.grown hgrow (Nat.le_refl _) (fun k h => by cases h)
  have hown1 : w1.ownsRow w.heap.size 93 2 (.slice (some ⟨w.heap.size, 0, none⟩) l.length l.length) l.length (cellsG (fillG l 0)) := by
    rw [fillG_zero, cellsG, flatG_replicate]; simpa [madeCells_two, Value.cells] using hown
  clear hown hgrow hB
  go_wp2
  go_loopw [4] (fun i wr => ∃ k : Nat, k ≤ l.length ∧ i = .int .i64 k ∧ wr.ownsRow w.heap.size 93 2 (.slice (some ⟨w.heap.size, 0, none⟩) l.length l.length) l.length (cellsG (fillG l k)) ∧ Below w.heap.size w wr)
    (fun i _ => l.length - (intOf i).toNat)
  case atStart => exact ⟨0, Nat.zero_le _, rfl, hown1, hB1⟩
  case round =>
    obtain ⟨k, hk, rfl, hown, hBr⟩ := hrel
    by_cases hlt : k < l.length
    · rcases hR with hR | ⟨b, off, rfl, hbl, hcell⟩
      · subst hR; simp at hlt
      obtain ⟨x, y, hxy⟩ : ∃ x y, l.getD k (0, 0) = (x, y) := ⟨_, _, rfl⟩
      have hcx := hcell k hlt
      rw [hxy] at hcx
      have hc0 : wr.cell? ⟨b, off + k * 2, none⟩ = some (.int .i64 x) := (hBr.cell (p := ⟨b, off + k * 2, none⟩) hbl).trans hcx.1
      have hc1 : wr.cell? ⟨b, off + k * 2 + 1, none⟩ = some (.int .i64 y) := (hBr.cell (p := ⟨b, off + k * 2 + 1, none⟩) hbl).trans hcx.2
      have HW := hide (hlt)
      clear hcell hcx
      go_wp2_with fail
      refine (toSeg_any _ _ _).mono ?_
      rintro e w2 ⟨rfl, hb2⟩
      have hB2 : Below w.heap.size w w2 := hBr.trans (hb2.mono hBr.size)
      have hown2 := own_kept hown hb2
      have hln : (cellsG (fillG l k)).length = l.length * 2 := by simp [cellsG, flatG_length, fillG_length l k hk]
      have hcl0 := hown2.cellAt (k * 2) (by omega)
      have hcl1 := hown2.cellAt (k * 2 + 1) (by omega)
      have hf0 := hown2.frozenAt (k * 2)
      have hf1 := hown2.frozenAt (k * 2 + 1)
      obtain ⟨u0, hu0⟩ : ∃ u, w2.cell? ⟨w.heap.size, k * 2, none⟩ = some u := ⟨_, hcl0.trans (List.getElem?_eq_getElem (by omega))⟩
      obtain ⟨u1, hu1⟩ : ∃ u, w2.cell? ⟨w.heap.size, k * 2 + 1, none⟩ = some u := ⟨_, hcl1.trans (List.getElem?_eq_getElem (by omega))⟩
      have HR := hide (fillG_step (g := w.heap.size) hxy hlt (Nat.le_refl _) hown2 hB2)
      clear hxy hown hBr hcl0 hcl1 hB1 hown1 hown2 hc0 hc1 hb2
      go_wp2
      go_roundw
      case rel => exact ⟨k + 1, by omega, by go_num, HR.out.1, HR.out.2⟩
      case measure => simp [intOf]; omega
    · have e : k = l.length := by omega
      subst e
      rw [fillG_all] at hown
      go_wp2
      go_ret
      exact ⟨w.heap.size, rfl, hown, hBr⟩

set_option maxHeartbeats 1000000 in
theorem eqSegS_same (o1 o2 : Option Addr) (c1 c2 : Nat) (l : List (Int × Int)) (w : World) (h1 : RdG w o1 l) (h2 : RdG w o2 l) (hl : l.length ≤ 1048576) :
    Calls Tryz.prog 33 #[.slice o1 l.length c1, .slice o2 l.length c2] w fun e w' => e = .returned (.bool true) ∧ Below w.heap.size w w' := by
  go_enter Tryz.func33, Tryz.ntmps33
  go_wp2
  go_loopw [5] (fun i wr => ∃ k : Nat, k ≤ l.length ∧ i = .int .i64 k ∧ Below w.heap.size w wr)
    (fun i _ => l.length - (intOf i).toNat)
  case atStart => exact ⟨0, Nat.zero_le _, rfl, Below.refl _ _⟩
  case round =>
    obtain ⟨k, hk, rfl, hBr⟩ := hrel
    by_cases hlt : k < l.length
    · rcases h1 with h1 | ⟨b1, off1, rfl, hb1, hcell1⟩
      · subst h1; simp at hlt
      rcases h2 with h2 | ⟨b2, off2, rfl, hb2, hcell2⟩
      · subst h2; simp at hlt
      have p0 : wr.cell? ⟨b1, off1 + k * 2, none⟩ = some (.int .i64 (l.getD k (0, 0)).1) := (hBr.cell (p := ⟨b1, off1 + k * 2, none⟩) hb1).trans (hcell1 k hlt).1
      have p1 : wr.cell? ⟨b1, off1 + k * 2 + 1, none⟩ = some (.int .i64 (l.getD k (0, 0)).2) := (hBr.cell (p := ⟨b1, off1 + k * 2 + 1, none⟩) hb1).trans (hcell1 k hlt).2
      have q0 : wr.cell? ⟨b2, off2 + k * 2, none⟩ = some (.int .i64 (l.getD k (0, 0)).1) := (hBr.cell (p := ⟨b2, off2 + k * 2, none⟩) hb2).trans (hcell2 k hlt).1
      have q1 : wr.cell? ⟨b2, off2 + k * 2 + 1, none⟩ = some (.int .i64 (l.getD k (0, 0)).2) := (hBr.cell (p := ⟨b2, off2 + k * 2 + 1, none⟩) hb2).trans (hcell2 k hlt).2
      have HB := hide hBr
      have hsr := hide hBr.size
      clear hcell1 hcell2 hBr
      have i1 : (k : Int) < (l.length : Int) := by omega
      generalize (l.getD k (0, 0)).1 = x at *
      generalize (l.getD k (0, 0)).2 = y at *
      go_wp2
      go_region_held3 (fun w' => w'.cell? ⟨b1, off1 + k * 2, none⟩ = some (.int .i64 x) ∧ w'.cell? ⟨b1, off1 + k * 2 + 1, none⟩ = some (.int .i64 y) ∧ w'.cell? ⟨b2, off2 + k * 2, none⟩ = some (.int .i64 x) ∧ w'.cell? ⟨b2, off2 + k * 2 + 1, none⟩ = some (.int .i64 y)) (first | exact ⟨p0, p1, q0, q1⟩) (first | (go_at_call 68; refine (eqSeg_same _ _ _).mono ?_; rintro e w2 ⟨rfl, hb2'⟩; replace hb2' : Below wr.heap.size wr w2 := (Below.drew (Below.refl _ _)).trans hb2'; have p0 := (hb2'.cell (p := ⟨b1, off1 + k * 2, none⟩) (Nat.lt_of_lt_of_le hb1 hsr.out)).trans p0; have p1 := (hb2'.cell (p := ⟨b1, off1 + k * 2 + 1, none⟩) (Nat.lt_of_lt_of_le hb1 hsr.out)).trans p1; have q0 := (hb2'.cell (p := ⟨b2, off2 + k * 2, none⟩) (Nat.lt_of_lt_of_le hb2 hsr.out)).trans q0; have q1 := (hb2'.cell (p := ⟨b2, off2 + k * 2 + 1, none⟩) (Nat.lt_of_lt_of_le hb2 hsr.out)).trans q1))
      go_wp2
      go_roundw
      case rel => exact ⟨k + 1, by omega, by go_num, HB.out.trans (hb2'.mono HB.out.size)⟩
      case measure => simp [intOf]; omega
    · have e : k = l.length := by omega
      subst e
      go_wp2
      go_ret
      exact ⟨rfl, hBr⟩

end Go.Proofs.YtmkgbmmibjgeaaaGreat

/- The boxes of packets. -/
namespace Go.Proofs.YtmkgbmmibjgeaaaGreat
open Go.ChangeShapes Go.WideShapes Go.ChangeAt Go.RowKit Go.Joins
set_option linter.unusedVariables false
set_option linter.unusedSimpArgs false

abbrev pkt (a b f s : Int) (v : Value) : Value := .agg #[.int .i64 a, .int .i64 b, .int .i64 f, .int .i64 s, v]

/-- The cells of a packet's box that are read. -/
def boxed (k : Nat) (a b f s : Int) (v : Value) (w : World) : Prop :=
  w.cell? ⟨k, 0, none⟩ = some (.int .i64 a) ∧ w.cell? ⟨k, 1, none⟩ = some (.int .i64 b) ∧ w.cell? ⟨k, 2, none⟩ = some (.int .i64 f) ∧ w.cell? ⟨k, 3, none⟩ = some (.int .i64 s) ∧ w.cell? ⟨k, 4, none⟩ = some v
theorem boxed.kept {k : Nat} {a b f s : Int} {v : Value} {w w' : World} {B : Nat} (h : boxed k a b f s v w) (hb : Below B w w') (hk : k < B) : boxed k a b f s v w' :=
  ⟨(hb.cell (p := ⟨k, 0, none⟩) hk).trans h.1, (hb.cell (p := ⟨k, 1, none⟩) hk).trans h.2.1, (hb.cell (p := ⟨k, 2, none⟩) hk).trans h.2.2.1, (hb.cell (p := ⟨k, 3, none⟩) hk).trans h.2.2.2.1, (hb.cell (p := ⟨k, 4, none⟩) hk).trans h.2.2.2.2⟩
theorem boxed_new (w : World) (a b f s : Int) (v : Value) (e : TypeId) : boxed w.heap.size a b f s v (w.alloc (.cells #[.int .i64 a, .int .i64 b, .int .i64 f, .int .i64 s, v] e)) := by
  unfold boxed; simp

/-- The box of a result that is not yet written. -/
def empty5 (k : Nat) (w : World) : Prop := boxed k 0 0 0 0 (.slice none 0 0) w ∧ (w.frozen? ⟨k, 0, none⟩ = false ∧ w.frozen? ⟨k, 1, none⟩ = false ∧ w.frozen? ⟨k, 2, none⟩ = false ∧ w.frozen? ⟨k, 3, none⟩ = false ∧ w.frozen? ⟨k, 4, none⟩ = false)
theorem empty5.kept {k : Nat} {w w' : World} {B : Nat} (h : empty5 k w) (hb : Below B w w') (hk : k < B) : empty5 k w' :=
  ⟨h.1.kept hb hk, (hb.frozen (p := ⟨k, 0, none⟩) hk).trans h.2.1, (hb.frozen (p := ⟨k, 1, none⟩) hk).trans h.2.2.1, (hb.frozen (p := ⟨k, 2, none⟩) hk).trans h.2.2.2.1, (hb.frozen (p := ⟨k, 3, none⟩) hk).trans h.2.2.2.2.1, (hb.frozen (p := ⟨k, 4, none⟩) hk).trans h.2.2.2.2.2⟩
theorem empty5_new (w : World) (e : TypeId) : empty5 w.heap.size (w.alloc (.cells #[.int .i64 0, .int .i64 0, .int .i64 0, .int .i64 0, .slice none 0 0] e)) := by
  unfold empty5 boxed; simp

/-- A cell far from a box that is written whole. -/
theorem far_box {w : World} {b k o : Nat} {u v0 v1 v2 v3 v4 : Value} (hne : b ≠ k) (h : w.cell? ⟨b, o, none⟩ = some u) :
    (((((w.setCell ⟨k, 0, none⟩ v0).setCell ⟨k, 1, none⟩ v1).setCell ⟨k, 2, none⟩ v2).setCell ⟨k, 3, none⟩ v3).setCell ⟨k, 4, none⟩ v4).cell? ⟨b, o, none⟩ = some u := by
  have e : ∀ (w : World) (q : Nat) (v : Value), (w.setCell ⟨k, q, none⟩ v).cell? ⟨b, o, none⟩ = w.cell? ⟨b, o, none⟩ := fun w q v =>
    World.cell?_of_block (w := w) (Below.heap_setCell w ⟨k, q, none⟩ v b hne)
  rw [e, e, e, e, e, h]

end Go.Proofs.YtmkgbmmibjgeaaaGreat

/- Contracts of PacketOk, on both sides. -/
namespace Go.Proofs.YtmkgbmmibjgeaaaGreat
open Go.ChangeShapes Go.WideShapes Go.ChangeAt Go.RowKit Go.Joins
set_option linter.unusedVariables false
set_option linter.unusedSimpArgs false

def packetOkB (a b f s : Int) (n : Nat) : Bool :=
  flowOkB a b && decide (0 ≤ f) && decide (f < 16) && decide (0 ≤ s) && decide (s < 65536) && decide ((n : Int) ≤ 16) && (bits .and .i64 f 1 == 0 || bits .and .i64 f 12 == 0)

theorem packetOkB_iff {a b f s : Int} {n : Nat} : packetOkB a b f s n = true ↔ flowOkB a b = true ∧ 0 ≤ f ∧ f < 16 ∧ 0 ≤ s ∧ s < 65536 ∧ (n : Int) ≤ 16 ∧ (bits .and .i64 f 1 = 0 ∨ bits .and .i64 f 12 = 0) := by
  simp [packetOkB, and_assoc]
theorem packetOkB_yes {a b f s : Int} {n : Nat} (h1 : flowOkB a b = true) (h2 : 0 ≤ f) (h3 : f < 16) (h4 : 0 ≤ s) (h5 : s < 65536) (h6 : (n : Int) ≤ 16) : packetOkB a b f s n = (bits .and .i64 f 1 == 0 || bits .and .i64 f 12 == 0) := by
  simp [packetOkB, h1, h2, h3, h4, h5, h6]


set_option maxHeartbeats 400000 in
theorem specPacketOk_any (a b f s : Int) (o : Option Addr) (len cap : Nat) (w : World) (hl : len ≤ maxLen) :
    Calls Tryz.prog 41 #[pkt a b f s (.slice o len cap)] w fun e w' => e = .returned (.bool (packetOkB a b f s len)) ∧ Below w.heap.size w w' := by
  have hB : Below w.heap.size w w := Below.refl _ _
  by_cases h1 : flowOkB a b = true
  · by_cases h2 : 0 ≤ f
    · by_cases h3 : f < 16
      · by_cases h4 : 0 ≤ s
        · by_cases h5 : s < 65536
          · by_cases h6 : (len : Int) ≤ 16
            · by_cases h7 : bits .and .i64 f 1 = 0
              · have HY := hide (show true = packetOkB a b f s len by rw [packetOkB_yes h1 h2 h3 h4 h5 h6]; simp [h7])
                go_enter Tryz.func41, Tryz.ntmps41
                go_wp2_with (first | (go_at_call 72; refine (specFlowOk_any _ _ _).mono ?_; rintro e w1 ⟨rfl, hb⟩; obtain ⟨hc, hf⟩ := bcell hb; have hz0 : w.heap.size < w1.heap.size := (by have hz := hb.size; (try simp at hz); omega); have hB : Below w.heap.size w w1 := (by refine Below.trans ?_ (hb.mono (by have hs := hB.size; (try simp) <;> omega)); (repeat (first | with_reducible exact hB | with_reducible exact Below.refl _ _ | with_reducible refine Below.drew ?_ | with_reducible refine below_drewN ?_ _ | with_reducible refine Below.alloc ?_ ?_ _ | with_reducible refine Below.setCell ?_ ?_ _ | (focus (simp; done)) | (focus (simp; omega)) | omega)))))
                go_ret
                exact ⟨ret_bool HY.out, by (repeat (first | with_reducible exact hB | with_reducible exact Below.refl _ _ | with_reducible refine Below.drew ?_ | with_reducible refine below_drewN ?_ _ | with_reducible refine Below.alloc ?_ ?_ _ | with_reducible refine Below.setCell ?_ ?_ _ | (focus (simp; done)) | (focus (simp; omega)) | omega))⟩
              · have HY := hide (packetOkB_yes (a := a) (b := b) (f := f) (s := s) (n := len) h1 h2 h3 h4 h5 h6).symm
                go_enter Tryz.func41, Tryz.ntmps41
                go_wp2_with (first | (go_at_call 72; refine (specFlowOk_any _ _ _).mono ?_; rintro e w1 ⟨rfl, hb⟩; obtain ⟨hc, hf⟩ := bcell hb; have hz0 : w.heap.size < w1.heap.size := (by have hz := hb.size; (try simp at hz); omega); have hB : Below w.heap.size w w1 := (by refine Below.trans ?_ (hb.mono (by have hs := hB.size; (try simp) <;> omega)); (repeat (first | with_reducible exact hB | with_reducible exact Below.refl _ _ | with_reducible refine Below.drew ?_ | with_reducible refine below_drewN ?_ _ | with_reducible refine Below.alloc ?_ ?_ _ | with_reducible refine Below.setCell ?_ ?_ _ | (focus (simp; done)) | (focus (simp; omega)) | omega)))))
                go_ret
                exact ⟨ret_bool HY.out, by (repeat (first | with_reducible exact hB | with_reducible exact Below.refl _ _ | with_reducible refine Below.drew ?_ | with_reducible refine below_drewN ?_ _ | with_reducible refine Below.alloc ?_ ?_ _ | with_reducible refine Below.setCell ?_ ?_ _ | (focus (simp; done)) | (focus (simp; omega)) | omega))⟩
            · have HN := hide (bool_no (packetOkB_iff (a := a) (b := b) (f := f) (s := s) (n := len)) (fun q => h6 q.2.2.2.2.2.1))
              go_enter Tryz.func41, Tryz.ntmps41
              go_wp2_with (first | (go_at_call 72; refine (specFlowOk_any _ _ _).mono ?_; rintro e w1 ⟨rfl, hb⟩; obtain ⟨hc, hf⟩ := bcell hb; have hz0 : w.heap.size < w1.heap.size := (by have hz := hb.size; (try simp at hz); omega); have hB : Below w.heap.size w w1 := (by refine Below.trans ?_ (hb.mono (by have hs := hB.size; (try simp) <;> omega)); (repeat (first | with_reducible exact hB | with_reducible exact Below.refl _ _ | with_reducible refine Below.drew ?_ | with_reducible refine below_drewN ?_ _ | with_reducible refine Below.alloc ?_ ?_ _ | with_reducible refine Below.setCell ?_ ?_ _ | (focus (simp; done)) | (focus (simp; omega)) | omega)))))
              go_ret
              exact ⟨ret_bool HN.out, by (repeat (first | with_reducible exact hB | with_reducible exact Below.refl _ _ | with_reducible refine Below.drew ?_ | with_reducible refine below_drewN ?_ _ | with_reducible refine Below.alloc ?_ ?_ _ | with_reducible refine Below.setCell ?_ ?_ _ | (focus (simp; done)) | (focus (simp; omega)) | omega))⟩
          · have HN := hide (bool_no (packetOkB_iff (a := a) (b := b) (f := f) (s := s) (n := len)) (fun q => h5 q.2.2.2.2.1))
            go_enter Tryz.func41, Tryz.ntmps41
            go_wp2_with (first | (go_at_call 72; refine (specFlowOk_any _ _ _).mono ?_; rintro e w1 ⟨rfl, hb⟩; obtain ⟨hc, hf⟩ := bcell hb; have hz0 : w.heap.size < w1.heap.size := (by have hz := hb.size; (try simp at hz); omega); have hB : Below w.heap.size w w1 := (by refine Below.trans ?_ (hb.mono (by have hs := hB.size; (try simp) <;> omega)); (repeat (first | with_reducible exact hB | with_reducible exact Below.refl _ _ | with_reducible refine Below.drew ?_ | with_reducible refine below_drewN ?_ _ | with_reducible refine Below.alloc ?_ ?_ _ | with_reducible refine Below.setCell ?_ ?_ _ | (focus (simp; done)) | (focus (simp; omega)) | omega)))))
            go_ret
            exact ⟨ret_bool HN.out, by (repeat (first | with_reducible exact hB | with_reducible exact Below.refl _ _ | with_reducible refine Below.drew ?_ | with_reducible refine below_drewN ?_ _ | with_reducible refine Below.alloc ?_ ?_ _ | with_reducible refine Below.setCell ?_ ?_ _ | (focus (simp; done)) | (focus (simp; omega)) | omega))⟩
        · have HN := hide (bool_no (packetOkB_iff (a := a) (b := b) (f := f) (s := s) (n := len)) (fun q => h4 q.2.2.2.1))
          go_enter Tryz.func41, Tryz.ntmps41
          go_wp2_with (first | (go_at_call 72; refine (specFlowOk_any _ _ _).mono ?_; rintro e w1 ⟨rfl, hb⟩; obtain ⟨hc, hf⟩ := bcell hb; have hz0 : w.heap.size < w1.heap.size := (by have hz := hb.size; (try simp at hz); omega); have hB : Below w.heap.size w w1 := (by refine Below.trans ?_ (hb.mono (by have hs := hB.size; (try simp) <;> omega)); (repeat (first | with_reducible exact hB | with_reducible exact Below.refl _ _ | with_reducible refine Below.drew ?_ | with_reducible refine below_drewN ?_ _ | with_reducible refine Below.alloc ?_ ?_ _ | with_reducible refine Below.setCell ?_ ?_ _ | (focus (simp; done)) | (focus (simp; omega)) | omega)))))
          go_ret
          exact ⟨ret_bool HN.out, by (repeat (first | with_reducible exact hB | with_reducible exact Below.refl _ _ | with_reducible refine Below.drew ?_ | with_reducible refine below_drewN ?_ _ | with_reducible refine Below.alloc ?_ ?_ _ | with_reducible refine Below.setCell ?_ ?_ _ | (focus (simp; done)) | (focus (simp; omega)) | omega))⟩
      · have HN := hide (bool_no (packetOkB_iff (a := a) (b := b) (f := f) (s := s) (n := len)) (fun q => h3 q.2.2.1))
        go_enter Tryz.func41, Tryz.ntmps41
        go_wp2_with (first | (go_at_call 72; refine (specFlowOk_any _ _ _).mono ?_; rintro e w1 ⟨rfl, hb⟩; obtain ⟨hc, hf⟩ := bcell hb; have hz0 : w.heap.size < w1.heap.size := (by have hz := hb.size; (try simp at hz); omega); have hB : Below w.heap.size w w1 := (by refine Below.trans ?_ (hb.mono (by have hs := hB.size; (try simp) <;> omega)); (repeat (first | with_reducible exact hB | with_reducible exact Below.refl _ _ | with_reducible refine Below.drew ?_ | with_reducible refine below_drewN ?_ _ | with_reducible refine Below.alloc ?_ ?_ _ | with_reducible refine Below.setCell ?_ ?_ _ | (focus (simp; done)) | (focus (simp; omega)) | omega)))))
        go_ret
        exact ⟨ret_bool HN.out, by (repeat (first | with_reducible exact hB | with_reducible exact Below.refl _ _ | with_reducible refine Below.drew ?_ | with_reducible refine below_drewN ?_ _ | with_reducible refine Below.alloc ?_ ?_ _ | with_reducible refine Below.setCell ?_ ?_ _ | (focus (simp; done)) | (focus (simp; omega)) | omega))⟩
    · have HN := hide (bool_no (packetOkB_iff (a := a) (b := b) (f := f) (s := s) (n := len)) (fun q => h2 q.2.1))
      go_enter Tryz.func41, Tryz.ntmps41
      go_wp2_with (first | (go_at_call 72; refine (specFlowOk_any _ _ _).mono ?_; rintro e w1 ⟨rfl, hb⟩; obtain ⟨hc, hf⟩ := bcell hb; have hz0 : w.heap.size < w1.heap.size := (by have hz := hb.size; (try simp at hz); omega); have hB : Below w.heap.size w w1 := (by refine Below.trans ?_ (hb.mono (by have hs := hB.size; (try simp) <;> omega)); (repeat (first | with_reducible exact hB | with_reducible exact Below.refl _ _ | with_reducible refine Below.drew ?_ | with_reducible refine below_drewN ?_ _ | with_reducible refine Below.alloc ?_ ?_ _ | with_reducible refine Below.setCell ?_ ?_ _ | (focus (simp; done)) | (focus (simp; omega)) | omega)))))
      go_ret
      exact ⟨ret_bool HN.out, by (repeat (first | with_reducible exact hB | with_reducible exact Below.refl _ _ | with_reducible refine Below.drew ?_ | with_reducible refine below_drewN ?_ _ | with_reducible refine Below.alloc ?_ ?_ _ | with_reducible refine Below.setCell ?_ ?_ _ | (focus (simp; done)) | (focus (simp; omega)) | omega))⟩
  · have HN := hide (bool_no (packetOkB_iff (a := a) (b := b) (f := f) (s := s) (n := len)) (fun q => h1 q.1))
    go_enter Tryz.func41, Tryz.ntmps41
    go_wp2_with (first | (go_at_call 72; refine (specFlowOk_any _ _ _).mono ?_; rintro e w1 ⟨rfl, hb⟩; obtain ⟨hc, hf⟩ := bcell hb; have hz0 : w.heap.size < w1.heap.size := (by have hz := hb.size; (try simp at hz); omega); have hB : Below w.heap.size w w1 := (by refine Below.trans ?_ (hb.mono (by have hs := hB.size; (try simp) <;> omega)); (repeat (first | with_reducible exact hB | with_reducible exact Below.refl _ _ | with_reducible refine Below.drew ?_ | with_reducible refine below_drewN ?_ _ | with_reducible refine Below.alloc ?_ ?_ _ | with_reducible refine Below.setCell ?_ ?_ _ | (focus (simp; done)) | (focus (simp; omega)) | omega)))))
    go_ret
    exact ⟨ret_bool HN.out, by (repeat (first | with_reducible exact hB | with_reducible exact Below.refl _ _ | with_reducible refine Below.drew ?_ | with_reducible refine below_drewN ?_ _ | with_reducible refine Below.alloc ?_ ?_ _ | with_reducible refine Below.setCell ?_ ?_ _ | (focus (simp; done)) | (focus (simp; omega)) | omega))⟩

def flagOkB (f : Int) : Bool := decide (0 ≤ f) && decide (f < 16) && (bits .and .i64 f 1 == 0 || bits .and .i64 f 12 == 0)
theorem flagOkB_iff {f : Int} : flagOkB f = true ↔ 0 ≤ f ∧ f < 16 ∧ (bits .and .i64 f 1 = 0 ∨ bits .and .i64 f 12 = 0) := by simp [flagOkB, and_assoc]
theorem flagOkB_yes {f : Int} (h2 : 0 ≤ f) (h3 : f < 16) : flagOkB f = (bits .and .i64 f 1 == 0 || bits .and .i64 f 12 == 0) := by simp [flagOkB, h2, h3]
theorem packetOkB_parts {a b f s : Int} {n : Nat} : packetOkB a b f s n = true ↔ (flowOkB a b = true ∧ flagOkB f = true ∧ 0 ≤ s ∧ s ≤ 65535 ∧ (n : Int) ≤ 16 ∧ True) := by
  rw [packetOkB_iff, flagOkB_iff]
  constructor
  · rintro ⟨q1, q2, q3, q4, q5, q6, q7⟩; exact ⟨q1, ⟨q2, q3, q7⟩, q4, by omega, q6, trivial⟩
  · rintro ⟨q1, ⟨q2, q3, q7⟩, q4, q5, q6, _⟩; exact ⟨q1, q2, q3, q4, by omega, q6, q7⟩

theorem packetOkB_last {a b f s : Int} {n : Nat} (h1 : flowOkB a b = true) (h2 : flagOkB f = true) (h4 : 0 ≤ s) (h5 : s ≤ 65535) : decide ((n : Int) ≤ 16) = packetOkB a b f s n := by
  rw [Bool.eq_iff_iff, packetOkB_parts]; simp [h1, h2, h4, h5]

set_option maxHeartbeats 400000 in
theorem flagOk_any (f : Int) (w : World) : Calls Tryz.prog 83 #[.int .i64 f] w fun e w' => e = .returned (.bool (flagOkB f)) ∧ w = w' := by
  by_cases h2 : 0 ≤ f
  · by_cases h3 : f < 16
    · by_cases h7 : bits .and .i64 f 1 = 0
      · go_enter Tryz.func83, Tryz.ntmps83
        go_wp2
        go_ret
        exact ⟨ret_bool (by rw [flagOkB_yes h2 h3]; simp [h7]), rfl⟩
      · go_enter Tryz.func83, Tryz.ntmps83
        go_wp2
        go_ret
        exact ⟨ret_bool (by rw [flagOkB_yes h2 h3]; simp [h7, bne]), rfl⟩
    · have HN := hide (bool_no (flagOkB_iff (f := f)) (fun q => h3 q.2.1))
      go_enter Tryz.func83, Tryz.ntmps83
      go_wp2
      go_ret
      exact ⟨ret_bool HN.out, rfl⟩
  · have HN := hide (bool_no (flagOkB_iff (f := f)) (fun q => h2 q.1))
    go_enter Tryz.func83, Tryz.ntmps83
    go_wp2
    go_ret
    exact ⟨ret_bool HN.out, rfl⟩

set_option maxHeartbeats 400000 in
theorem implPacketOk_any (a b f s : Int) (o : Option Addr) (len cap : Nat) (w : World) (hl : len ≤ maxLen) :
    Calls Tryz.prog 55 #[pkt a b f s (.slice o len cap)] w fun e w' => e = .returned (.bool (packetOkB a b f s len)) ∧ Below w.heap.size w w' := by
  have hB : Below w.heap.size w w := Below.refl _ _
  by_cases h1 : flowOkB a b = true
  · by_cases h2 : flagOkB f = true
    · by_cases h4 : 0 ≤ s
      · by_cases h5 : s ≤ 65535
        · have HY := hide (packetOkB_last (a := a) (b := b) (f := f) (s := s) (n := len) h1 h2 h4 h5)
          go_enter Tryz.func55, Tryz.ntmps55
          go_wp2_with (first | (go_at_call 82; refine (implFlowOk_any _ _ _).mono ?_; rintro e w1 ⟨rfl, hb⟩; obtain ⟨hc, hf⟩ := bcell hb; have hz0 : w.heap.size < w1.heap.size := (by have hz := hb.size; (try simp at hz); omega); have hB : Below w.heap.size w w1 := (by refine Below.trans ?_ (hb.mono (by have hs := hB.size; (try simp) <;> omega)); (repeat (first | with_reducible exact hB | with_reducible exact Below.refl _ _ | with_reducible refine Below.drew ?_ | with_reducible refine below_drewN ?_ _ | with_reducible refine Below.alloc ?_ ?_ _ | with_reducible refine Below.setCell ?_ ?_ _ | (focus (simp; done)) | (focus (simp; omega)) | omega)))) | (go_at_call 83; refine (flagOk_any _ _).mono ?_; rintro e w2 ⟨rfl, rfl⟩) | go_in)
          go_ret
          exact ⟨ret_bool HY.out, by (repeat (first | with_reducible exact hB | with_reducible exact Below.refl _ _ | with_reducible refine Below.drew ?_ | with_reducible refine below_drewN ?_ _ | with_reducible refine Below.alloc ?_ ?_ _ | with_reducible refine Below.setCell ?_ ?_ _ | (focus (simp; done)) | (focus (simp; omega)) | omega))⟩
        · have HN := hide (bool_no (packetOkB_parts (a := a) (b := b) (f := f) (s := s) (n := len)) (fun q => h5 q.2.2.2.1))
          go_enter Tryz.func55, Tryz.ntmps55
          go_wp2_with (first | (go_at_call 82; refine (implFlowOk_any _ _ _).mono ?_; rintro e w1 ⟨rfl, hb⟩; obtain ⟨hc, hf⟩ := bcell hb; have hz0 : w.heap.size < w1.heap.size := (by have hz := hb.size; (try simp at hz); omega); have hB : Below w.heap.size w w1 := (by refine Below.trans ?_ (hb.mono (by have hs := hB.size; (try simp) <;> omega)); (repeat (first | with_reducible exact hB | with_reducible exact Below.refl _ _ | with_reducible refine Below.drew ?_ | with_reducible refine below_drewN ?_ _ | with_reducible refine Below.alloc ?_ ?_ _ | with_reducible refine Below.setCell ?_ ?_ _ | (focus (simp; done)) | (focus (simp; omega)) | omega)))) | (go_at_call 83; refine (flagOk_any _ _).mono ?_; rintro e w2 ⟨rfl, rfl⟩) | go_in)
          go_ret
          exact ⟨ret_bool HN.out, by (repeat (first | with_reducible exact hB | with_reducible exact Below.refl _ _ | with_reducible refine Below.drew ?_ | with_reducible refine below_drewN ?_ _ | with_reducible refine Below.alloc ?_ ?_ _ | with_reducible refine Below.setCell ?_ ?_ _ | (focus (simp; done)) | (focus (simp; omega)) | omega))⟩
      · have HN := hide (bool_no (packetOkB_parts (a := a) (b := b) (f := f) (s := s) (n := len)) (fun q => h4 q.2.2.1))
        go_enter Tryz.func55, Tryz.ntmps55
        go_wp2_with (first | (go_at_call 82; refine (implFlowOk_any _ _ _).mono ?_; rintro e w1 ⟨rfl, hb⟩; obtain ⟨hc, hf⟩ := bcell hb; have hz0 : w.heap.size < w1.heap.size := (by have hz := hb.size; (try simp at hz); omega); have hB : Below w.heap.size w w1 := (by refine Below.trans ?_ (hb.mono (by have hs := hB.size; (try simp) <;> omega)); (repeat (first | with_reducible exact hB | with_reducible exact Below.refl _ _ | with_reducible refine Below.drew ?_ | with_reducible refine below_drewN ?_ _ | with_reducible refine Below.alloc ?_ ?_ _ | with_reducible refine Below.setCell ?_ ?_ _ | (focus (simp; done)) | (focus (simp; omega)) | omega)))) | (go_at_call 83; refine (flagOk_any _ _).mono ?_; rintro e w2 ⟨rfl, rfl⟩) | go_in)
        go_ret
        exact ⟨ret_bool HN.out, by (repeat (first | with_reducible exact hB | with_reducible exact Below.refl _ _ | with_reducible refine Below.drew ?_ | with_reducible refine below_drewN ?_ _ | with_reducible refine Below.alloc ?_ ?_ _ | with_reducible refine Below.setCell ?_ ?_ _ | (focus (simp; done)) | (focus (simp; omega)) | omega))⟩
    · have HN := hide (bool_no (packetOkB_parts (a := a) (b := b) (f := f) (s := s) (n := len)) (fun q => h2 q.2.1))
      go_enter Tryz.func55, Tryz.ntmps55
      go_wp2_with (first | (go_at_call 82; refine (implFlowOk_any _ _ _).mono ?_; rintro e w1 ⟨rfl, hb⟩; obtain ⟨hc, hf⟩ := bcell hb; have hz0 : w.heap.size < w1.heap.size := (by have hz := hb.size; (try simp at hz); omega); have hB : Below w.heap.size w w1 := (by refine Below.trans ?_ (hb.mono (by have hs := hB.size; (try simp) <;> omega)); (repeat (first | with_reducible exact hB | with_reducible exact Below.refl _ _ | with_reducible refine Below.drew ?_ | with_reducible refine below_drewN ?_ _ | with_reducible refine Below.alloc ?_ ?_ _ | with_reducible refine Below.setCell ?_ ?_ _ | (focus (simp; done)) | (focus (simp; omega)) | omega)))) | (go_at_call 83; refine (flagOk_any _ _).mono ?_; rintro e w2 ⟨rfl, rfl⟩) | go_in)
      go_ret
      exact ⟨ret_bool HN.out, by (repeat (first | with_reducible exact hB | with_reducible exact Below.refl _ _ | with_reducible refine Below.drew ?_ | with_reducible refine below_drewN ?_ _ | with_reducible refine Below.alloc ?_ ?_ _ | with_reducible refine Below.setCell ?_ ?_ _ | (focus (simp; done)) | (focus (simp; omega)) | omega))⟩
  · have HN := hide (bool_no (packetOkB_parts (a := a) (b := b) (f := f) (s := s) (n := len)) (fun q => h1 q.1))
    go_enter Tryz.func55, Tryz.ntmps55
    go_wp2_with (first | (go_at_call 82; refine (implFlowOk_any _ _ _).mono ?_; rintro e w1 ⟨rfl, hb⟩; obtain ⟨hc, hf⟩ := bcell hb; have hz0 : w.heap.size < w1.heap.size := (by have hz := hb.size; (try simp at hz); omega); have hB : Below w.heap.size w w1 := (by refine Below.trans ?_ (hb.mono (by have hs := hB.size; (try simp) <;> omega)); (repeat (first | with_reducible exact hB | with_reducible exact Below.refl _ _ | with_reducible refine Below.drew ?_ | with_reducible refine below_drewN ?_ _ | with_reducible refine Below.alloc ?_ ?_ _ | with_reducible refine Below.setCell ?_ ?_ _ | (focus (simp; done)) | (focus (simp; omega)) | omega)))) | (go_at_call 83; refine (flagOk_any _ _).mono ?_; rintro e w2 ⟨rfl, rfl⟩) | go_in)
    go_ret
    exact ⟨ret_bool HN.out, by (repeat (first | with_reducible exact hB | with_reducible exact Below.refl _ _ | with_reducible refine Below.drew ?_ | with_reducible refine below_drewN ?_ _ | with_reducible refine Below.alloc ?_ ?_ _ | with_reducible refine Below.setCell ?_ ?_ _ | (focus (simp; done)) | (focus (simp; omega)) | omega))⟩

end Go.Proofs.YtmkgbmmibjgeaaaGreat

/- Contracts of the laws' own helpers over packets: one that came in, its size, its copy, its comparison. -/
namespace Go.Proofs.YtmkgbmmibjgeaaaGreat
open Go.ChangeShapes Go.WideShapes Go.ChangeAt Go.RowKit Go.Joins
set_option linter.unusedVariables false
set_option linter.unusedSimpArgs false

theorem array5 {α : Type} {cs : Array α} (h : cs.size = 5) : ∃ c0 c1 c2 c3 c4, cs = #[c0, c1, c2, c3, c4] := by
  obtain ⟨l⟩ := cs
  match l, h with
  | [c0, c1, c2, c3, c4], _ => exact ⟨c0, c1, c2, c3, c4, rfl⟩
theorem cellsLawsPacket : Tryz.prog.cellsOf 31 = 5 := by kernel_rfl
theorem cellsInt : Tryz.prog.cellsOf 3 = 1 := by kernel_rfl
theorem cellsBytes : Tryz.prog.cellsOf 29 = 1 := by kernel_rfl

/-- A packet's five cells. -/
theorem open_packet_cells {H : Type} {enc : TypeId × Value → H} {W : World} {fuel : Nat} {c0 c1 c2 c3 c4 : Value} {x : DataW H × List MemPlace}
    (h : DataW.trod enc Tryz.prog W 0 (fun _ => true) true fuel 31 [c0, c1, c2, c3, c4] = some x) :
    ∃ (a b f s : Int) (o : Option Addr) (cap : Nat) (l : List Int), [c0, c1, c2, c3, c4] = [.int .i64 a, .int .i64 b, .int .i64 f, .int .i64 s, .slice o l.length cap] ∧ l.length ≤ maxLen ∧ Rd W o l ∧ isB l := by
  obtain ⟨y0, y1, y2, y3, n, _, _, h0, h1, h2, h3⟩ := trod_struct4 Tryz.underlying31 h
  simp [cellsInt, cellsBytes, cellsLawsFlow] at h0 h1 h2 h3
  obtain ⟨z0, z1, n', _, _, g0, g1⟩ := trod_struct2 Tryz.underlying28 h0
  simp [cellsInt] at g0 g1
  obtain ⟨a, e0, _, _⟩ := DataW.trod_int Tryz.underlying3 g0
  obtain ⟨b, e1, _, _⟩ := DataW.trod_int Tryz.underlying3 g1
  obtain ⟨f, e2, _, _⟩ := DataW.trod_int Tryz.underlying3 h1
  obtain ⟨s, e3, _, _⟩ := DataW.trod_int Tryz.underlying3 h2
  obtain ⟨o, cap, l, e4, r⟩ := open_bytes_cells h3
  simp at e0 e1 e2 e3 e4
  subst e0 e1 e2 e3 e4
  exact ⟨a, b, f, s, o, cap, l, rfl, r⟩

set_option maxRecDepth 100000 in
theorem open_packet {H : Type} {enc : TypeId × Value → H} {W : World} {base : Nat} {v : Value} {d : DataW H} {p : List MemPlace}
    (hv : Value.okWide Tryz.prog W .any base 31 v) (h : DataW.Trod enc Tryz.prog W 0 (fun _ => true) true 31 v d p) :
    ∃ (a b f s : Int) (o : Option Addr) (cap : Nat) (l : List Int), v = pkt a b f s (.slice o l.length cap) ∧ l.length ≤ maxLen ∧ Rd W o l ∧ isB l := by
  obtain ⟨cs, rfl, hsz⟩ := okWide_struct Tryz.underlying31 hv
  obtain ⟨c0, c1, c2, c3, c4, rfl⟩ := array5 (hsz.trans cellsLawsPacket)
  obtain ⟨fuel, hf⟩ := h
  obtain ⟨a, b, f, s, o, cap, l, e, r⟩ := open_packet_cells (by simpa [Value.cells] using hf)
  simp at e
  obtain ⟨rfl, rfl, rfl, rfl, rfl⟩ := e
  exact ⟨a, b, f, s, o, cap, l, rfl, r⟩

set_option maxHeartbeats 400000 in
theorem szPacket_any (a b f s : Int) (o : Option Addr) (len cap : Nat) (n : Int) (w : World) (hl : len ≤ maxLen) (h0 : 0 ≤ n) (h1 : n ≤ 1048576) :
    Calls Tryz.prog 16 #[pkt a b f s (.slice o len cap), .int .i64 n] w fun e w' => e = .returned (.int .i64 (if n - len < 0 then -1 else n - len)) ∧ Below w.heap.size w w' := by
  have hB : Below w.heap.size w w := Below.refl _ _
  by_cases h : n - len < 0
  · have hs := szByteS_any o len cap n
    rw [if_pos h] at *
    go_enter Tryz.func16, Tryz.ntmps16
    go_wp2_with (go_at_call 39; refine (hs _ hl h0 h1).mono ?_; rintro e w1 ⟨rfl, rfl⟩)
    go_ret
    exact ⟨rfl, by (repeat (first | with_reducible exact hB | with_reducible exact Below.refl _ _ | with_reducible refine Below.drew ?_ | with_reducible refine below_drewN ?_ _ | with_reducible refine Below.alloc ?_ ?_ _ | with_reducible refine Below.setCell ?_ ?_ _ | (focus (simp; done)) | (focus (simp; omega)) | omega))⟩
  · have hs := szByteS_any o len cap n
    rw [if_neg h] at *
    go_enter Tryz.func16, Tryz.ntmps16
    go_wp2_with (go_at_call 39; refine (hs _ hl h0 h1).mono ?_; rintro e w1 ⟨rfl, rfl⟩)
    go_ret
    exact ⟨rfl, by (repeat (first | with_reducible exact hB | with_reducible exact Below.refl _ _ | with_reducible refine Below.drew ?_ | with_reducible refine below_drewN ?_ _ | with_reducible refine Below.alloc ?_ ?_ _ | with_reducible refine Below.setCell ?_ ?_ _ | (focus (simp; done)) | (focus (simp; omega)) | omega))⟩

set_option maxHeartbeats 2000000 in
theorem toPacket_any (a b f s : Int) (o : Option Addr) (cap : Nat) (l : List Int) (w : World) (hR : Rd w o l) (hB8 : isB l) (hlen : l.length ≤ 1048576) :
    Calls Tryz.prog 24 #[pkt a b f s (.slice o l.length cap)] w fun e w' => ∃ g, e = .returned (pkt a b f s (.slice (some ⟨g, 0, none⟩) l.length l.length)) ∧ ownB w' w.heap.size (.slice (some ⟨g, 0, none⟩) l.length l.length) l ∧ Below w.heap.size w w' := by
  have hB : Below w.heap.size w w := Below.refl _ _
  go_enter Tryz.func24, Tryz.ntmps24
  go_wp2_with (first | (go_at_call 49; refine (toFlow_any _ _ _).mono ?_; rintro e w1a ⟨rfl, hba⟩; obtain ⟨hca, hfa⟩ := bcell hba; have hz0a : w.heap.size < w1a.heap.size := (by have hz := hba.size; (try simp at hz); omega); have hz1a : w.heap.size + 1 < w1a.heap.size := (by have hz := hba.size; (try simp at hz); omega); have hz2a : w.heap.size + 1 + 1 < w1a.heap.size := (by have hz := hba.size; (try simp at hz); omega); have hB : Below w.heap.size w w1a := (by refine Below.trans ?_ (hba.mono (by have hs := hB.size; (try simp) <;> omega)); (repeat (first | with_reducible exact hB | with_reducible exact Below.refl _ _ | with_reducible refine Below.drew ?_ | with_reducible refine below_drewN ?_ _ | with_reducible refine Below.alloc ?_ ?_ _ | with_reducible refine Below.setCell ?_ ?_ _ | (focus (simp; done)) | (focus (simp; omega)) | omega)))) | (go_at_call 50; refine (toByteS_any o cap l _ (hR.kept (by (repeat (first | with_reducible exact hB | with_reducible exact Below.refl _ _ | with_reducible refine Below.drew ?_ | with_reducible refine below_drewN ?_ _ | with_reducible refine Below.alloc ?_ ?_ _ | with_reducible refine Below.setCell ?_ ?_ _ | (focus (simp; done)) | (focus (simp; omega)) | omega)))) hB8 hlen).mono ?_; rintro e w1b ⟨g, rfl, hown, hbb⟩; obtain ⟨hcb, hfb⟩ := bcell hbb; have hz0b : w.heap.size < w1b.heap.size := (by have hz := hbb.size; (try simp at hz); omega); have hz1b : w.heap.size + 1 < w1b.heap.size := (by have hz := hbb.size; (try simp at hz); omega); have hz2b : w.heap.size + 1 + 1 < w1b.heap.size := (by have hz := hbb.size; (try simp at hz); omega); have hB : Below w.heap.size w w1b := (by refine Below.trans ?_ (hbb.mono (by have hs := hB.size; (try simp) <;> omega)); (repeat (first | with_reducible exact hB | with_reducible exact Below.refl _ _ | with_reducible refine Below.drew ?_ | with_reducible refine below_drewN ?_ _ | with_reducible refine Below.alloc ?_ ?_ _ | with_reducible refine Below.setCell ?_ ?_ _ | (focus (simp; done)) | (focus (simp; omega)) | omega)))))
  have hown' : ownB w1b w1a.heap.size (.slice (some ⟨g, 0, none⟩) l.length l.length) l := by simpa using hown
  clear hown hbb hba
  refine bodyPost_ret (v := pkt a b f s (.slice (some ⟨g, 0, none⟩) l.length l.length)) (by simp [results, Tryz.results24, go_sem, hcb, hca, hz0a, hz1a, hz2a, hz0b, hz1b, hz2b]) rfl ⟨g, rfl, ?_, ?_⟩
  · refine own_mono (base := w1a.heap.size) ?_ (Nat.le_of_lt hz0a)
    repeat (refine ownsRow_setCell_below ?_ (by simp <;> omega) _)
    exact hown'
  · (repeat (first | with_reducible exact hB | with_reducible exact Below.refl _ _ | with_reducible refine Below.drew ?_ | with_reducible refine below_drewN ?_ _ | with_reducible refine Below.alloc ?_ ?_ _ | with_reducible refine Below.setCell ?_ ?_ _ | (focus (simp; done)) | (focus (simp; omega)) | omega))

set_option maxHeartbeats 1000000 in
theorem eqPacket_same (a b f s : Int) (o1 o2 : Option Addr) (c1 c2 : Nat) (l : List Int) (w : World) (h1 : Rd w o1 l) (h2 : Rd w o2 l) (hl : l.length ≤ 1048576) :
    Calls Tryz.prog 32 #[pkt a b f s (.slice o1 l.length c1), pkt a b f s (.slice o2 l.length c2)] w fun e w' => e = .returned (.bool true) ∧ Below w.heap.size w w' := by
  have hB : Below w.heap.size w w := Below.refl _ _
  go_enter Tryz.func32, Tryz.ntmps32
  go_wp2_with (first | (go_at_call 66; refine (eqFlow_same _ _ _).mono ?_; rintro e w1 ⟨rfl, hb⟩; obtain ⟨hc, hf⟩ := bcell hb; have hz0 : w.heap.size < w1.heap.size := (by have hz := hb.size; (try simp at hz); omega); have hz1 : w.heap.size + 1 < w1.heap.size := (by have hz := hb.size; (try simp at hz); omega); have hB : Below w.heap.size w w1 := (by refine Below.trans ?_ (hb.mono (by have hs := hB.size; (try simp) <;> omega)); (repeat (first | with_reducible exact hB | with_reducible exact Below.refl _ _ | with_reducible refine Below.drew ?_ | with_reducible refine below_drewN ?_ _ | with_reducible refine Below.alloc ?_ ?_ _ | with_reducible refine Below.setCell ?_ ?_ _ | (focus (simp; done)) | (focus (simp; omega)) | omega)))) | (go_at_call 67; refine (eqByteS_same o1 o2 c1 c2 l _ (h1.kept (by (repeat (first | with_reducible exact hB | with_reducible exact Below.refl _ _ | with_reducible refine Below.drew ?_ | with_reducible refine below_drewN ?_ _ | with_reducible refine Below.alloc ?_ ?_ _ | with_reducible refine Below.setCell ?_ ?_ _ | (focus (simp; done)) | (focus (simp; omega)) | omega)))) (h2.kept (by (repeat (first | with_reducible exact hB | with_reducible exact Below.refl _ _ | with_reducible refine Below.drew ?_ | with_reducible refine below_drewN ?_ _ | with_reducible refine Below.alloc ?_ ?_ _ | with_reducible refine Below.setCell ?_ ?_ _ | (focus (simp; done)) | (focus (simp; omega)) | omega)))) hl).mono ?_; rintro e w1 ⟨rfl, hb⟩; obtain ⟨hc, hf⟩ := bcell hb; have hz0 : w.heap.size < w1.heap.size := (by have hz := hb.size; (try simp at hz); omega); have hz1 : w.heap.size + 1 < w1.heap.size := (by have hz := hb.size; (try simp at hz); omega); have hB : Below w.heap.size w w1 := (by refine Below.trans ?_ (hb.mono (by have hs := hB.size; (try simp) <;> omega)); (repeat (first | with_reducible exact hB | with_reducible exact Below.refl _ _ | with_reducible refine Below.drew ?_ | with_reducible refine below_drewN ?_ _ | with_reducible refine Below.alloc ?_ ?_ _ | with_reducible refine Below.setCell ?_ ?_ _ | (focus (simp; done)) | (focus (simp; omega)) | omega)))))
  go_ret
  exact ⟨rfl, by (repeat (first | with_reducible exact hB | with_reducible exact Below.refl _ _ | with_reducible refine Below.drew ?_ | with_reducible refine below_drewN ?_ _ | with_reducible refine Below.alloc ?_ ?_ _ | with_reducible refine Below.setCell ?_ ?_ _ | (focus (simp; done)) | (focus (simp; omega)) | omega))⟩

end Go.Proofs.YtmkgbmmibjgeaaaGreat

/- Contracts of the laws' own helpers over what is carried: one that came in, its size, its copy, its comparison. -/
namespace Go.Proofs.YtmkgbmmibjgeaaaGreat
open Go.ChangeShapes Go.WideShapes Go.ChangeAt Go.RowKit Go.Joins
set_option linter.unusedVariables false
set_option linter.unusedSimpArgs false

abbrev crr (a b f s : Int) (v g : Value) (p t : Int) : Value := .agg #[.int .i64 a, .int .i64 b, .int .i64 f, .int .i64 s, v, g, .int .i64 p, .int .i64 t]

theorem array8 {α : Type} {cs : Array α} (h : cs.size = 8) : ∃ c0 c1 c2 c3 c4 c5 c6 c7, cs = #[c0, c1, c2, c3, c4, c5, c6, c7] := by
  obtain ⟨l⟩ := cs
  match l, h with
  | [c0, c1, c2, c3, c4, c5, c6, c7], _ => exact ⟨c0, c1, c2, c3, c4, c5, c6, c7, rfl⟩
theorem cellsLawsCarrier : Tryz.prog.cellsOf 34 = 8 := by kernel_rfl
theorem cellsLawsSegs : Tryz.prog.cellsOf 32 = 1 := by kernel_rfl

set_option maxRecDepth 100000 in
theorem open_carrier {H : Type} {enc : TypeId × Value → H} {W : World} {base : Nat} {v : Value} {d : DataW H} {p : List MemPlace}
    (hv : Value.okWide Tryz.prog W .any base 34 v) (h : DataW.Trod enc Tryz.prog W 0 (fun _ => true) true 34 v d p) :
    ∃ (a b f s : Int) (o : Option Addr) (cap : Nat) (l : List Int) (og : Option Addr) (cg : Nat) (g : List (Int × Int)) (pl st : Int), v = crr a b f s (.slice o l.length cap) (.slice og g.length cg) pl st ∧ l.length ≤ maxLen ∧ Rd W o l ∧ isB l ∧ g.length ≤ maxLen ∧ RdG W og g := by
  obtain ⟨cs, rfl, hsz⟩ := okWide_struct Tryz.underlying34 hv
  obtain ⟨c0, c1, c2, c3, c4, c5, c6, c7, rfl⟩ := array8 (hsz.trans cellsLawsCarrier)
  obtain ⟨fuel, hf⟩ := h
  obtain ⟨y0, y1, y2, y3, n, _, _, h0, h1, h2, h3⟩ := trod_struct4 Tryz.underlying34 (by simpa [Value.cells] using hf)
  simp [cellsInt, cellsLawsPacket, cellsLawsSegs] at h0 h1 h2 h3
  obtain ⟨a, b, f, s, o, cap, l, e, r⟩ := open_packet_cells h0
  obtain ⟨og, cg, g, eg, rg⟩ := open_segs_cells h1
  obtain ⟨pl, e2, _, _⟩ := DataW.trod_int Tryz.underlying3 h2
  obtain ⟨st, e3, _, _⟩ := DataW.trod_int Tryz.underlying3 h3
  simp at e eg e2 e3
  obtain ⟨rfl, rfl, rfl, rfl, rfl⟩ := e
  subst eg e2 e3
  exact ⟨a, b, f, s, o, cap, l, og, cg, g, pl, st, rfl, r.1, r.2.1, r.2.2, rg.1, rg.2⟩

set_option maxHeartbeats 800000 in
theorem szCarrier_any (a b f s : Int) (o og : Option Addr) (len cap lg cg : Nat) (pl st : Int) (n : Int) (w : World) (hl : len ≤ maxLen) (hg : lg ≤ maxLen) (h0 : 0 ≤ n) (h1 : n ≤ 1048576) :
    Calls Tryz.prog 5 #[crr a b f s (.slice o len cap) (.slice og lg cg) pl st, .int .i64 n] w fun e w' => e = .returned (.int .i64 (if n - len - lg < 0 then -1 else n - len - lg)) ∧ Below w.heap.size w w' := by
  have hB : Below w.heap.size w w := Below.refl _ _
  have hs := fun w => szPacket_any a b f s o len cap n w hl h0 h1
  by_cases h : n - len < 0
  · rw [if_pos h] at hs
    rw [if_pos (by omega)]
    go_enter Tryz.func5, Tryz.ntmps5
    go_wp2_with (first | (go_at_call 16; refine (hs _).mono ?_; rintro e w1a ⟨rfl, hba⟩; obtain ⟨hca, hfa⟩ := bcell hba; have hz0a : w.heap.size < w1a.heap.size := (by have hz := hba.size; (try simp at hz); omega); have hB : Below w.heap.size w w1a := (by refine Below.trans ?_ (hba.mono (by have hs := hB.size; (try simp) <;> omega)); (repeat (first | with_reducible exact hB | with_reducible exact Below.refl _ _ | with_reducible refine Below.drew ?_ | with_reducible refine below_drewN ?_ _ | with_reducible refine Below.alloc ?_ ?_ _ | with_reducible refine Below.setCell ?_ ?_ _ | (focus (simp; done)) | (focus (simp; omega)) | omega)))))
    go_ret
    exact ⟨rfl, by (repeat (first | with_reducible exact hB | with_reducible exact Below.refl _ _ | with_reducible refine Below.drew ?_ | with_reducible refine below_drewN ?_ _ | with_reducible refine Below.alloc ?_ ?_ _ | with_reducible refine Below.setCell ?_ ?_ _ | (focus (simp; done)) | (focus (simp; omega)) | omega))⟩
  · rw [if_neg h] at hs
    have ht := fun w => szSegS_any og lg cg (n - len) w hg (by omega) (by omega)
    by_cases h2 : n - len - lg < 0
    · rw [if_pos h2] at ht
      rw [if_pos h2]
      go_enter Tryz.func5, Tryz.ntmps5
      go_wp2_with (first | (go_at_call 16; refine (hs _).mono ?_; rintro e w1a ⟨rfl, hba⟩; obtain ⟨hca, hfa⟩ := bcell hba; have hz0a : w.heap.size < w1a.heap.size := (by have hz := hba.size; (try simp at hz); omega); have hB : Below w.heap.size w w1a := (by refine Below.trans ?_ (hba.mono (by have hs := hB.size; (try simp) <;> omega)); (repeat (first | with_reducible exact hB | with_reducible exact Below.refl _ _ | with_reducible refine Below.drew ?_ | with_reducible refine below_drewN ?_ _ | with_reducible refine Below.alloc ?_ ?_ _ | with_reducible refine Below.setCell ?_ ?_ _ | (focus (simp; done)) | (focus (simp; omega)) | omega)))) | (go_at_call 17; refine (ht _).mono ?_; rintro e w2 ⟨rfl, rfl⟩))
      go_ret
      exact ⟨rfl, by (repeat (first | with_reducible exact hB | with_reducible exact Below.refl _ _ | with_reducible refine Below.drew ?_ | with_reducible refine below_drewN ?_ _ | with_reducible refine Below.alloc ?_ ?_ _ | with_reducible refine Below.setCell ?_ ?_ _ | (focus (simp; done)) | (focus (simp; omega)) | omega))⟩
    · rw [if_neg h2] at ht
      rw [if_neg h2]
      go_enter Tryz.func5, Tryz.ntmps5
      go_wp2_with (first | (go_at_call 16; refine (hs _).mono ?_; rintro e w1a ⟨rfl, hba⟩; obtain ⟨hca, hfa⟩ := bcell hba; have hz0a : w.heap.size < w1a.heap.size := (by have hz := hba.size; (try simp at hz); omega); have hB : Below w.heap.size w w1a := (by refine Below.trans ?_ (hba.mono (by have hs := hB.size; (try simp) <;> omega)); (repeat (first | with_reducible exact hB | with_reducible exact Below.refl _ _ | with_reducible refine Below.drew ?_ | with_reducible refine below_drewN ?_ _ | with_reducible refine Below.alloc ?_ ?_ _ | with_reducible refine Below.setCell ?_ ?_ _ | (focus (simp; done)) | (focus (simp; omega)) | omega)))) | (go_at_call 17; refine (ht _).mono ?_; rintro e w2 ⟨rfl, rfl⟩))
      go_ret
      exact ⟨rfl, by (repeat (first | with_reducible exact hB | with_reducible exact Below.refl _ _ | with_reducible refine Below.drew ?_ | with_reducible refine below_drewN ?_ _ | with_reducible refine Below.alloc ?_ ?_ _ | with_reducible refine Below.setCell ?_ ?_ _ | (focus (simp; done)) | (focus (simp; omega)) | omega))⟩

set_option maxHeartbeats 4000000 in
theorem toCarrier_any (a b f s : Int) (o og : Option Addr) (cap cg : Nat) (l : List Int) (g : List (Int × Int)) (pl st : Int) (w : World) (hR : Rd w o l) (hB8 : isB l) (hlen : l.length ≤ 1048576) (hG : RdG w og g) (hgl : g.length ≤ 1048576) :
    Calls Tryz.prog 8 #[crr a b f s (.slice o l.length cap) (.slice og g.length cg) pl st] w fun e w' => ∃ k kg, e = .returned (crr a b f s (.slice (some ⟨k, 0, none⟩) l.length l.length) (.slice (some ⟨kg, 0, none⟩) g.length g.length) pl st) ∧ ownB w' w.heap.size (.slice (some ⟨k, 0, none⟩) l.length l.length) l ∧ ownG w' w.heap.size (.slice (some ⟨kg, 0, none⟩) g.length g.length) g ∧ k < kg ∧ Below w.heap.size w w' := by
  have hB : Below w.heap.size w w := Below.refl _ _
  go_enter Tryz.func8, Tryz.ntmps8
  go_wp2_with (first | (go_at_call 24; refine (toPacket_any a b f s o cap l _ (hR.kept (by (repeat (first | with_reducible exact hB | with_reducible exact Below.refl _ _ | with_reducible refine Below.drew ?_ | with_reducible refine below_drewN ?_ _ | with_reducible refine Below.alloc ?_ ?_ _ | with_reducible refine Below.setCell ?_ ?_ _ | (focus (simp; done)) | (focus (simp; omega)) | omega)))) hB8 hlen).mono ?_; rintro e w1a ⟨k, rfl, hown, hba⟩; obtain ⟨hca, hfa⟩ := bcell hba; have hz0a : w.heap.size < w1a.heap.size := (by have hz := hba.size; (try simp at hz); omega); have hz1a : w.heap.size + 1 < w1a.heap.size := (by have hz := hba.size; (try simp at hz); omega); have hz2a : w.heap.size + 1 + 1 < w1a.heap.size := (by have hz := hba.size; (try simp at hz); omega); have hB : Below w.heap.size w w1a := (by refine Below.trans ?_ (hba.mono (by have hs := hB.size; (try simp) <;> omega)); (repeat (first | with_reducible exact hB | with_reducible exact Below.refl _ _ | with_reducible refine Below.drew ?_ | with_reducible refine below_drewN ?_ _ | with_reducible refine Below.alloc ?_ ?_ _ | with_reducible refine Below.setCell ?_ ?_ _ | (focus (simp; done)) | (focus (simp; omega)) | omega)))) | (go_at_call 25; refine (toSegS_any og cg g _ (hG.kept (by (repeat (first | with_reducible exact hB | with_reducible exact Below.refl _ _ | with_reducible refine Below.drew ?_ | with_reducible refine below_drewN ?_ _ | with_reducible refine Below.alloc ?_ ?_ _ | with_reducible refine Below.setCell ?_ ?_ _ | (focus (simp; done)) | (focus (simp; omega)) | omega)))) hgl).mono ?_; rintro e w1b ⟨kg, rfl, howg, hbb⟩; obtain ⟨hcb, hfb⟩ := bcell hbb; have hz0b : w.heap.size < w1b.heap.size := (by have hz := hbb.size; (try simp at hz); omega); have hz1b : w.heap.size + 1 < w1b.heap.size := (by have hz := hbb.size; (try simp at hz); omega); have hz2b : w.heap.size + 1 + 1 < w1b.heap.size := (by have hz := hbb.size; (try simp at hz); omega); have hB : Below w.heap.size w w1b := (by refine Below.trans ?_ (hbb.mono (by have hs := hB.size; (try simp) <;> omega)); (repeat (first | with_reducible exact hB | with_reducible exact Below.refl _ _ | with_reducible refine Below.drew ?_ | with_reducible refine below_drewN ?_ _ | with_reducible refine Below.alloc ?_ ?_ _ | with_reducible refine Below.setCell ?_ ?_ _ | (focus (simp; done)) | (focus (simp; omega)) | omega)))))
  have h1 : ownB w1a (w.heap.size + 1 + 1 + 1) (.slice (some ⟨k, 0, none⟩) l.length l.length) l := by simpa using hown
  have hk : k < w1a.heap.size := (h1.lt k rfl).2
  have h2 : ownG w1b w1a.heap.size (.slice (some ⟨kg, 0, none⟩) g.length g.length) g := by simpa using howg
  have hkg : w1a.heap.size ≤ kg := (h2.lt kg rfl).1
  have h3 : ownB w1b (w.heap.size + 1 + 1 + 1) (.slice (some ⟨k, 0, none⟩) l.length l.length) l := by
    refine own_kept ?_ hbb
    repeat (refine ownsRow_setCell_below ?_ (by simp <;> omega) _)
    exact h1
  clear hown howg hba hbb h1
  refine bodyPost_ret (v := crr a b f s (.slice (some ⟨k, 0, none⟩) l.length l.length) (.slice (some ⟨kg, 0, none⟩) g.length g.length) pl st) (by simp [results, Tryz.results8, go_sem, hcb, hca, hz0a, hz1a, hz2a, hz0b, hz1b, hz2b]) rfl ⟨k, kg, rfl, ?_, ?_, ?_, ?_⟩
  · refine own_mono (base := w.heap.size + 1 + 1 + 1) ?_ (by omega)
    repeat (refine ownsRow_setCell_below ?_ (by simp <;> omega) _)
    exact h3
  · refine own_mono (base := w1a.heap.size) ?_ (Nat.le_of_lt hz0a)
    repeat (refine ownsRow_setCell_below ?_ (by simp <;> omega) _)
    exact h2
  · omega
  · (repeat (first | with_reducible exact hB | with_reducible exact Below.refl _ _ | with_reducible refine Below.drew ?_ | with_reducible refine below_drewN ?_ _ | with_reducible refine Below.alloc ?_ ?_ _ | with_reducible refine Below.setCell ?_ ?_ _ | (focus (simp; done)) | (focus (simp; omega)) | omega))

set_option maxHeartbeats 2000000 in
theorem eqCarrier_same (a b f s : Int) (o1 o2 p1 p2 : Option Addr) (c1 c2 d1 d2 : Nat) (l : List Int) (g : List (Int × Int)) (pl st : Int) (w : World) (h1 : Rd w o1 l) (h2 : Rd w o2 l) (hl : l.length ≤ 1048576) (g1 : RdG w p1 g) (g2 : RdG w p2 g) (hg : g.length ≤ 1048576) :
    Calls Tryz.prog 11 #[crr a b f s (.slice o1 l.length c1) (.slice p1 g.length d1) pl st, crr a b f s (.slice o2 l.length c2) (.slice p2 g.length d2) pl st] w fun e w' => e = .returned (.bool true) ∧ Below w.heap.size w w' := by
  have hB : Below w.heap.size w w := Below.refl _ _
  go_enter Tryz.func11, Tryz.ntmps11
  go_wp2_with (first | (go_at_call 32; refine (eqPacket_same a b f s o1 o2 c1 c2 l _ (h1.kept (by (repeat (first | with_reducible exact hB | with_reducible exact Below.refl _ _ | with_reducible refine Below.drew ?_ | with_reducible refine below_drewN ?_ _ | with_reducible refine Below.alloc ?_ ?_ _ | with_reducible refine Below.setCell ?_ ?_ _ | (focus (simp; done)) | (focus (simp; omega)) | omega)))) (h2.kept (by (repeat (first | with_reducible exact hB | with_reducible exact Below.refl _ _ | with_reducible refine Below.drew ?_ | with_reducible refine below_drewN ?_ _ | with_reducible refine Below.alloc ?_ ?_ _ | with_reducible refine Below.setCell ?_ ?_ _ | (focus (simp; done)) | (focus (simp; omega)) | omega)))) hl).mono ?_; rintro e w1a ⟨rfl, hba⟩; obtain ⟨hca, hfa⟩ := bcell hba; have hz0a : w.heap.size < w1a.heap.size := (by have hz := hba.size; (try simp at hz); omega); have hz1a : w.heap.size + 1 < w1a.heap.size := (by have hz := hba.size; (try simp at hz); omega); have hB : Below w.heap.size w w1a := (by refine Below.trans ?_ (hba.mono (by have hs := hB.size; (try simp) <;> omega)); (repeat (first | with_reducible exact hB | with_reducible exact Below.refl _ _ | with_reducible refine Below.drew ?_ | with_reducible refine below_drewN ?_ _ | with_reducible refine Below.alloc ?_ ?_ _ | with_reducible refine Below.setCell ?_ ?_ _ | (focus (simp; done)) | (focus (simp; omega)) | omega)))) | (go_at_call 33; refine (eqSegS_same p1 p2 d1 d2 g _ (g1.kept (by (repeat (first | with_reducible exact hB | with_reducible exact Below.refl _ _ | with_reducible refine Below.drew ?_ | with_reducible refine below_drewN ?_ _ | with_reducible refine Below.alloc ?_ ?_ _ | with_reducible refine Below.setCell ?_ ?_ _ | (focus (simp; done)) | (focus (simp; omega)) | omega)))) (g2.kept (by (repeat (first | with_reducible exact hB | with_reducible exact Below.refl _ _ | with_reducible refine Below.drew ?_ | with_reducible refine below_drewN ?_ _ | with_reducible refine Below.alloc ?_ ?_ _ | with_reducible refine Below.setCell ?_ ?_ _ | (focus (simp; done)) | (focus (simp; omega)) | omega)))) hg).mono ?_; rintro e w1b ⟨rfl, hbb⟩; obtain ⟨hcb, hfb⟩ := bcell hbb; have hz0b : w.heap.size < w1b.heap.size := (by have hz := hbb.size; (try simp at hz); omega); have hz1b : w.heap.size + 1 < w1b.heap.size := (by have hz := hbb.size; (try simp at hz); omega); have hB : Below w.heap.size w w1b := (by refine Below.trans ?_ (hbb.mono (by have hs := hB.size; (try simp) <;> omega)); (repeat (first | with_reducible exact hB | with_reducible exact Below.refl _ _ | with_reducible refine Below.drew ?_ | with_reducible refine below_drewN ?_ _ | with_reducible refine Below.alloc ?_ ?_ _ | with_reducible refine Below.setCell ?_ ?_ _ | (focus (simp; done)) | (focus (simp; omega)) | omega)))))
  go_ret
  exact ⟨rfl, by (repeat (first | with_reducible exact hB | with_reducible exact Below.refl _ _ | with_reducible refine Below.drew ?_ | with_reducible refine below_drewN ?_ _ | with_reducible refine Below.alloc ?_ ?_ _ | with_reducible refine Below.setCell ?_ ?_ _ | (focus (simp; done)) | (focus (simp; omega)) | omega))⟩

end Go.Proofs.YtmkgbmmibjgeaaaGreat

