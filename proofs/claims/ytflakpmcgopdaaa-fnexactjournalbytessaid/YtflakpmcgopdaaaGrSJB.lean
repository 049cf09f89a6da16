/- A journal's bytes, on both sides. -/
import Derived.Test.YtflakpmcgopdaaaGrSJCut
import Derived.Test.YtflakpmcgopdaaaGrShB
import Derived.Test.YtflakpmcgopdaaaApp
import Derived.Deep.RegionHeld3
namespace Go.Proofs.Ytflakpmcgopdaaa
open Go.ChangeShapes Go.WideShapes Go.ChangeAt Go.RowKit Go.Joins
set_option linter.unusedVariables false
set_option linter.unusedSimpArgs false

/-- A command's bytes; those of the first t; a journal's. -/
def cmdL (c : Cd) : List Int := [c.1, c.2.1, c.2.2]
def cmdsTo (cs : List Cd) (t : Nat) : List Int := (cs.take t).flatMap cmdL
def jHead (key safe : Int) : List Int := [key / 65536, key / 256 % 256, key % 256, safe]
def jrnL (m : Jm) : List Int := if journalB m.key m.l m.safe = true then jHead m.key m.safe ++ cmdsTo m.l m.l.length else []
theorem cmdsTo_succ {cs : List Cd} {t : Nat} {x y u : Int} (h : t < cs.length) (e : cs.getD t (0, 0, 0) = (x, y, u)) : cmdsTo cs (t + 1) = cmdsTo cs t ++ [x, y, u] := by
  unfold cmdsTo
  rw [takeL_succ layC cs t h, show cs.getD t layC.d = (x, y, u) from e, List.flatMap_append]
  rfl
theorem cmdsTo_length (cs : List Cd) (t : Nat) (h : t ≤ cs.length) : (cmdsTo cs t).length = 3 * t := by
  unfold cmdsTo
  induction t with
  | zero => rfl
  | succ t ih =>
    rw [takeL_succ layC cs t (by omega), List.flatMap_append, List.length_append, ih (by omega)]
    simp [cmdL]; omega
theorem jrnL_len (m : Jm) : (jrnL m).length ≤ 1048576 := by
  unfold jrnL
  split
  · next h =>
    have := (journal_facts h).2.1
    rw [List.length_append, cmdsTo_length _ _ (Nat.le_refl _)]
    simp [jHead]; omega
  · decide
theorem journal_run0 {key : Int} {cs : List Cd} {safe : Int} (h : journalB key cs safe = true) : (runTo cs cs.length).isSome = true := by
  unfold journalB at h
  simp only [Bool.and_eq_true] at h
  exact h.2
theorem cmd_ok {key : Int} {cs : List Cd} {safe : Int} (h : journalB key cs safe = true) {t : Nat} (ht : t < cs.length) {x y u : Int} (e : cs.getD t (0, 0, 0) = (x, y, u)) : (0 ≤ x ∧ x ≤ 3) ∧ (0 ≤ y ∧ y < 6) ∧ (0 ≤ u ∧ u ≤ 100) := by
  obtain ⟨l, hl⟩ := runTo_back (journal_run0 h) (Nat.le_of_lt ht)
  obtain ⟨m, hc, _, _⟩ := runTo_step (journal_run0 h) ht hl
  rw [e] at hc
  dsimp only at hc
  unfold cmdOkB at hc
  simp only [Bool.and_eq_true, Bool.or_eq_true, decide_eq_true_eq] at hc
  omega
theorem u8w (n : Int) (h0 : 0 ≤ n) (h1 : n < 256) : IntKind.u8.wrap n = n := by
  simp [IntKind.wrap, IntKind.bits, IntKind.signed]; omega
theorem cells_newJ (w : World) (cs : Array Value) (e : TypeId) : ∀ j u, cs.toList[j]? = some u → (w.alloc (.cells cs e)).cell? ((⟨w.heap.size, 0, none⟩ : Addr).add j) = some u := by
  intro j u hj
  have e2 : (⟨w.heap.size, 0, none⟩ : Addr).add j = ⟨w.heap.size, j, none⟩ := by by_cases h : j = 0 <;> simp [Addr.add, h]
  rw [e2]
  exact bx_cell (World.alloc_heap_new w (.cells cs e)) j u (by simpa using hj)
theorem own_litJ (w : World) (cs : Array Value) (e : TypeId) (n : Nat) (hn : cs.size = n) (hm : n ≤ 1000) : (w.alloc (.cells cs e)).ownsRow w.heap.size e 1 (.slice (some ⟨w.heap.size, 0, none⟩) n n) n cs.toList :=
  ⟨by simp [hn], .inr ⟨w.heap.size, n, cs, rfl, Nat.le_refl _, heap_alloc_new w _, Nat.le_refl _, by unfold maxLen; omega, by rw [hn, Nat.mul_one], by rw [Nat.mul_one]; exact List.take_of_length_le (by simp [hn])⟩⟩
theorem rd_byte3 (w : World) (x y z : Int) : Rd (w.alloc (.cells #[.int .u8 x, .int .u8 y, .int .u8 z] 5)).drew (some ⟨w.heap.size, 0, none⟩) [x, y, z] := by
  refine .inr ⟨w.heap.size, 0, rfl, by show w.heap.size < (w.alloc _).heap.size; simp, fun i hi => ?_⟩
  show (w.alloc _).cell? _ = _
  match i, hi with
  | 0, _ => simp
  | 1, _ => simp
  | 2, _ => simp
theorem rd_byte3A (w : World) (x y z : Int) : Rd (w.alloc (.cells #[.int .u8 x, .int .u8 y, .int .u8 z] 5)) (some ⟨w.heap.size, 0, none⟩) [x, y, z] := by
  refine .inr ⟨w.heap.size, 0, rfl, by simp, fun i hi => ?_⟩
  match i, hi with
  | 0, _ => simp
  | 1, _ => simp
  | 2, _ => simp
theorem rd_byteA (w : World) (x : Int) : Rd (w.alloc (.cells #[.int .u8 x] 5)) (some ⟨w.heap.size, 0, none⟩) [x] := by
  refine .inr ⟨w.heap.size, 0, rfl, by simp, fun i hi => ?_⟩
  have hi0 : i = 0 := by simpa using hi
  subst hi0
  simp

set_option maxRecDepth 100000 in
set_option maxHeartbeats 8000000 in
theorem l4bytes_any (key safe : Int) (o : Option Addr) (cap : Nat) (l : List Cd) (w : World) (hR : RdC w.heap.size w o l) (hok : journalB key l safe = true) :
    Calls Try.prog 91 #[jrn key (.slice o l.length cap) safe] w fun e w' => ∃ v, e = .returned v ∧ ownB w' w.heap.size v (jHead key safe ++ cmdsTo l l.length) ∧ Below w.heap.size w w' := by
  obtain ⟨hk, hl, h0, h1⟩ := journal_facts hok
  have hkk := keyB_iff.1 hk
  have hs1 : 0 ≤ key / 65536 ∧ key / 65536 ≤ 15 := by omega
  have hs2 : 0 ≤ key / 256 ∧ key / 256 ≤ 3906 := by omega
  have hsf : safe ≤ 100 := by omega
  have e1 : IntKind.u8.wrap (key / 65536) = key / 65536 := u8w _ (by omega) (by omega)
  have e2 : IntKind.u8.wrap safe = safe := u8w _ (by omega) (by omega)
  have HR := hide hR
  have HOK := hide hok
  clear hR hok
  obtain ⟨W0, hW0⟩ : ∃ W, (w.alloc (.cells #[.int .i64 key, .slice o l.length cap, .int .i64 safe] 47)) = W := ⟨_, rfl⟩
  have hb_W0 : Below w.heap.size w W0 := by rw [← hW0]; exact ((Below.refl _ _).alloc (Nat.le_refl _) _)
  have HB := hide hb_W0
  clear hb_W0
  have zz : w.heap.size < W0.heap.size := by rw [← hW0]; simp
  have z0 : W0.cell? ⟨w.heap.size, 0, none⟩ = some (.int .i64 key) := by rw [← hW0]; simp [go_sem]
  have z1 : W0.cell? ⟨w.heap.size, 1, none⟩ = some (.slice o l.length cap) := by rw [← hW0]; simp [go_sem]
  have z2 : W0.cell? ⟨w.heap.size, 2, none⟩ = some (.int .i64 safe) := by rw [← hW0]; simp [go_sem]
  have hz0 := zz
  have z0w := z0
  have z1w := z1
  have z2w := z2
  obtain ⟨W1, hW1⟩ : ∃ W, W0.alloc (.cells #[.int .u8 (key / 65536), .int .u8 (key / 256 % 256), .int .u8 (key % 256), .int .u8 safe] 5) = W := ⟨_, rfl⟩
  have HF : Hid (ownB W1 W0.heap.size (.slice (some ⟨W0.heap.size, 0, none⟩) 4 4) (jHead key safe ++ cmdsTo l 0)) := by rw [← hW1]; exact own_litJ W0 #[.int .u8 (key / 65536), .int .u8 (key / 256 % 256), .int .u8 (key % 256), .int .u8 safe] 5 4 rfl (by decide)
  have hb1 : Below W0.heap.size W0 W1 := by rw [← hW1]; exact (Below.refl _ _).alloc (Nat.le_refl _) _
  have HB1 := hide hb1
  clear hb1
  go_enter Try.func91, Try.ntmps91
  go_wp2
  go_loopw [3, 4] (fun bv iv wr => ∃ t : Nat, t ≤ l.length ∧ iv = .int .i64 (t : Int) ∧ Hid (ownB wr W0.heap.size bv (jHead key safe ++ cmdsTo l t)) ∧ Hid (Below W0.heap.size W0 wr))
    (fun _ iv _ => l.length - (intOf iv).toNat)
  case atStart => exact ⟨0, Nat.zero_le _, rfl, HF.out, HB1.out⟩
  case round =>
    obtain ⟨t, htl, rfl, HO, HBR⟩ := hrel
    clear HF HB1 hW1 z0 z1 z2 z0w z2w
    have hsr := HBR.out.size
    have y1 := bC HBR.out z1w hz0
    have HBB : Hid (Below w.heap.size w wr) := HB.out.trans (HBR.out.mono HB.out.size)
    have hlen : (jHead key safe ++ cmdsTo l t).length ≤ 1000 := by rw [List.length_append, cmdsTo_length l t htl]; simp [jHead]; omega
    by_cases hlt : t < l.length
    · skip
      have hlt' : (t : Int) < (l.length : Int) := by omega
      have ht0 : (0 : Int) ≤ (t : Int) := by omega
      rcases HR.out with hR | ⟨b, off, rfl, hbl, hcell⟩
      · subst hR; simp at hlt
      obtain ⟨c0, c1, c2⟩ := RdL.cmd (C := w.heap.size) hcell t hlt
      have e0 := c0
      have e1x := c1
      have e2x := c2
      replace c0 := (HBB.out.cell (p := ⟨b, off + t * 3, none⟩) hbl).trans c0
      replace c1 := (HBB.out.cell (p := ⟨b, off + t * 3 + 1, none⟩) hbl).trans c1
      replace c2 := (HBB.out.cell (p := ⟨b, off + t * 3 + 2, none⟩) hbl).trans c2
      have d0 := (HB.out.cell (p := ⟨b, off + t * 3, none⟩) hbl).trans e0
      have d1 := (HB.out.cell (p := ⟨b, off + t * 3 + 1, none⟩) hbl).trans e1x
      have d2 := (HB.out.cell (p := ⟨b, off + t * 3 + 2, none⟩) hbl).trans e2x
      obtain ⟨x, y, u, hxyu⟩ : ∃ x y u, l.getD t (0, 0, 0) = (x, y, u) := ⟨_, _, _, rfl⟩
      rw [hxyu] at c0 c1 c2 d0 d1 d2
      dsimp only at c0 c1 c2 d0 d1 d2
      clear e0 e1x e2x
      obtain ⟨⟨q1, q2⟩, ⟨q3, q4⟩, q5, q6⟩ := cmd_ok HOK.out hlt hxyu
      have f1 : IntKind.u8.wrap x = x := u8w _ (by omega) (by omega)
      have f2 : IntKind.u8.wrap y = y := u8w _ (by omega) (by omega)
      have f3 : IntKind.u8.wrap u = u := u8w _ (by omega) (by omega)
      have HN := hide (cmdsTo_succ hlt hxyu)
      clear hxyu hcell
      have hbz : b < W0.heap.size := by have := HB.out.size; omega
      have F1 : Hid (ownB (wr.alloc (.cells #[.int .u8 x, .int .u8 y, .int .u8 u] 5)).drew W0.heap.size u3 (jHead key safe ++ cmdsTo l t)) := World.ownsRow.alloc HO.out _
      have B1 : Hid (Below W0.heap.size W0 (wr.alloc (.cells #[.int .u8 x, .int .u8 y, .int .u8 u] 5)).drew) := (HBR.out.alloc hsr _).drew
      have R1 := hide (rd_byte3 wr x y u)
      have hL2 : Hid ((jHead key safe ++ cmdsTo l t).length + [x, y, u].length ≤ 1099511627776) := by show _ ≤ _; simp only [List.length_cons, List.length_nil]; omega
      have hS2 : Hid (W0.heap.size ≤ (wr.alloc (.cells #[.int .u8 x, .int .u8 y, .int .u8 u] 5)).drew.heap.size) := B1.out.size
      generalize hL0 : jHead key safe ++ cmdsTo l t = L0 at *
      go_wp2
      go_region_held3 (fun w' => w'.cell? ⟨w.heap.size, 1, none⟩ = some (.slice (some ⟨b, off, none⟩) l.length cap) ∧ w'.cell? ⟨b, off + t * 3, none⟩ = some (.int .i64 x) ∧ w'.cell? ⟨b, off + t * 3 + 1, none⟩ = some (.int .i64 y) ∧ w'.cell? ⟨b, off + t * 3 + 2, none⟩ = some (.int .i64 u)) (first | with_reducible exact ⟨k1, k2, k3, k4⟩ | with_reducible exact ⟨y1, c0, c1, c2⟩ | go_keep) (first | (refine step_append_bytes rfl (.tmp 27) (.tmp 49) rfl W0.heap.size u3 L0 rfl F1.out (some ⟨wr.heap.size, 0, none⟩) 3 [x, y, u] 3 rfl rfl (fun h => by cases h) R1.out hL2.out hS2.out ?_; intro v8 w8 hv8 hb8; have hp8 := B1.out.trans hb8; have k1 := bC hp8 z1w hz0; have k2 := bC hp8 d0 hbz; have k3 := bC hp8 d1 hbz; have k4 := bC hp8 d2 hbz; have HR8 := hide (And.intro hv8 hp8); clear hv8 hb8 hp8))
      go_wp2
      go_roundw
      case rel => exact ⟨t + 1, by omega, by go_num, by rw [HN.out, ← List.append_assoc, hL0]; exact HR8.out.1, HR8.out.2⟩
      case measure => simp [intOf]; omega
    · have e : t = l.length := by omega
      subst e
      have hlz : ¬ ((l.length : Int) < (l.length : Int)) := by omega
      clear hlen
      go_wp2
      go_ret
      exact ⟨_, rfl, own_mono HO.out (by omega), HBB.out⟩

set_option maxRecDepth 100000 in
set_option maxHeartbeats 4000000 in
theorem specJBytes_sh (v : Value) (m : Jm) (w : World) (hR : RdJm w.heap.size w v m) (hcp : capJm v) (hf : fitJm m) :
    Calls Try.prog 60 #[v] w fun e w' => ∃ v', e = .returned (.tuple #[v', .bool (journalB m.key m.l m.safe)]) ∧ InB w.heap.size w'.heap.size w' v' (jrnL m) ∧ Below w.heap.size w w' := by
  have hR0 := hR
  obtain ⟨vl, rfl, ⟨o, c, rfl, r⟩⟩ := hR0
  have HE := hide (show jrnL m = if journalB m.key m.l m.safe = true then jHead m.key m.safe ++ cmdsTo m.l m.l.length else [] from rfl)
  obtain ⟨W0, hW0⟩ : ∃ W, (w.alloc (.cells #[.int .i64 m.key, .slice o m.l.length c, .int .i64 m.safe] 47)) = W := ⟨_, rfl⟩
  have hb_W0 : Below w.heap.size w W0 := by rw [← hW0]; exact ((Below.refl _ _).alloc (Nat.le_refl _) _)
  have HB := hide hb_W0
  clear hb_W0
  have zz : w.heap.size < W0.heap.size := by rw [← hW0]; simp
  have z0 : W0.cell? ⟨w.heap.size, 0, none⟩ = some (.int .i64 m.key) := by rw [← hW0]; simp [go_sem]
  have z1 : W0.cell? ⟨w.heap.size, 1, none⟩ = some (.slice o m.l.length c) := by rw [← hW0]; simp [go_sem]
  have z2 : W0.cell? ⟨w.heap.size, 2, none⟩ = some (.int .i64 m.safe) := by rw [← hW0]; simp [go_sem]
  have HJO := hide (specJournalOk_sh _ m W0 ((hR.kept HB.out (Nat.le_refl _)).le HB.out.size) hf)
  have HL := hide (fun W (hb : Below w.heap.size w W) h => l4bytes_any m.key m.safe o c m.l W ((r.kept hb (Nat.le_refl _)).le hb.size) h)
  clear r hR
  cases hj : journalB m.key m.l m.safe with
  | false =>
    rw [hj] at HJO HE
    clear hj HL
    go_enter Try.func60, Try.ntmps60
    go_wp2_with fail
    refine (HJO.out).mono ?_
    rintro e v1 ⟨rfl, hb⟩
    replace z0 := bC hb z0 zz
    replace z1 := bC hb z1 zz
    replace z2 := bC hb z2 zz
    replace zz := Nat.lt_of_lt_of_le zz hb.size
    replace HB := hide (HB.out.trans (hb.mono HB.out.size))
    clear hb
    go_wp2
    go_ret2
    refine ⟨.slice none 0 0, rfl, ?_, HB.out⟩
    rw [HE.out, if_neg (by simp)]
    exact ⟨World.ownsRow_nil _ _ _ _, fun b e => by cases e⟩
  | true =>
    have HL2 := hide (fun W hb => HL.out W hb hj)
    rw [hj] at HJO HE
    clear hj HL
    generalize jHead m.key m.safe ++ cmdsTo m.l m.l.length = L0 at *
    go_enter Try.func60, Try.ntmps60
    go_wp2_with fail
    refine (HJO.out).mono ?_
    rintro e v1 ⟨rfl, hb⟩
    have hs1 := hb.size
    replace z0 := bC hb z0 zz
    replace z1 := bC hb z1 zz
    replace z2 := bC hb z2 zz
    replace zz := Nat.lt_of_lt_of_le zz hb.size
    replace HB := hide (HB.out.trans (hb.mono HB.out.size))
    clear hb
    go_wp2_with fail
    have HB0X := hide HB.out.size
    refine (HL2.out v1 HB.out).mono ?_
    rintro e v2 ⟨v2, rfl, hv2, hb⟩
    have HV := hide hv2
    clear hv2
    replace z0 := bC hb z0 zz
    replace z1 := bC hb z1 zz
    replace z2 := bC hb z2 zz
    replace zz := Nat.lt_of_lt_of_le zz hb.size
    replace HB := hide (HB.out.trans (hb.mono HB.out.size))
    clear hb
    go_wp2
    go_ret2
    refine ⟨v2, rfl, ?_, HB.out⟩
    rw [HE.out]
    simp only [if_true]
    exact InB.of (own_mono HV.out (by have := HB0X.out; omega))

theorem alloc_drew_new (w : World) (o : Obj) : (w.alloc o).drew.heap[w.heap.size]? = some o := by
  have h : (w.alloc o).drew.heap = (w.alloc o).heap := rfl
  rw [h]; exact World.alloc_heap_new w o
theorem rd_box {w : World} {B : Nat} {x : Int} (h : w.heap[B]? = some (.cells #[.int .u8 x] 5 (0, 0))) : Rd w (some ⟨B, 0, none⟩) [x] := by
  refine .inr ⟨B, 0, rfl, (Array.getElem?_eq_some_iff.1 h).1, fun i hi => ?_⟩
  have hi0 : i = 0 := by simpa using hi
  subst hi0
  exact bx_cell h 0 _ rfl
set_option maxHeartbeats 1000000 in
theorem appendWordK (base : Nat) (v : Value) (l : List Int) (n : Int) (w : World) (hv : ownB w base v l) (hbase : base ≤ w.heap.size) (h0 : 0 ≤ n) (h1 : n ≤ 999999) (hlen : l.length ≤ 1048576) :
    Calls Try.prog 132 #[v, .int .i64 n] w fun e w' => ∃ v', e = .returned v' ∧ ownB w' base v' (l ++ [n / 256 % 256, n % 256]) ∧ w.grownBy w' v.ownBlock := by
  obtain ⟨i0, hi, hz0, hz1, hz2⟩ := info_parts infoU8
  have hs2 : 0 ≤ n / 256 ∧ n / 256 ≤ 4000 := by omega
  go_enter Try.func132, Try.ntmps132
  go_wp2_with (at_builtin; refine wpList_append_own _ rfl _ _ 22 rfl base 5 i0 (.int .u8 0) 1 1 Try.underlying22 hi hz0 hz1 hz2 rfl (by decide) v _ _ rfl (hv.alloc _) ⟨w.heap.size, 0, none⟩ 2 2 [.int .u8 (n / 256 % 256), .int .u8 (n % 256)] rfl rfl ?c1 ?c2 ?c3 ?c4 ?c5 ?_)
  case c1 => exact cells_newJ w #[.int .u8 (n / 256 % 256), .int .u8 (n % 256)] 5
  case c2 => exact ints_oneCell .u8 [n / 256 % 256, n % 256]
  case c3 => unfold maxLen; omega
  case c4 => omega
  case c5 => simp; omega
  intro v' w1 hown hgrow _
  have HO : Hid (ownB w1 base v' (l ++ [n / 256 % 256, n % 256])) := by
    unfold Hid ownB; simpa using hown
  have HG : Hid (w.grownBy w1 v.ownBlock) := (World.grownBy_alloc w _ _).trans hgrow
  clear hown hgrow hv
  go_wp2
  go_ret
  exact ⟨_, rfl, HO.out, HG.out⟩
set_option maxHeartbeats 1000000 in
theorem appendThreeK (base : Nat) (v : Value) (l : List Int) (n : Int) (w : World) (hv : ownB w base v l) (hbase : base ≤ w.heap.size) (h0 : 0 ≤ n) (h1 : n ≤ 999999) (hlen : l.length ≤ 1000000) :
    Calls Try.prog 85 #[v, .int .i64 n] w fun e w' => ∃ v', e = .returned v' ∧ ownB w' base v' (l ++ [n / 65536, n / 256 % 256, n % 256]) ∧ w.grownBy w' v.ownBlock := by
  obtain ⟨i0, hi, hz0, hz1, hz2⟩ := info_parts infoU8
  have hs2 : 0 ≤ n / 65536 ∧ n / 65536 ≤ 15 := by omega
  have hw8 : IntKind.u8.wrap (n / 65536) = n / 65536 := u8w _ (by omega) (by omega)
  go_enter Try.func85, Try.ntmps85
  go_wp2_with (at_builtin; refine wpList_append_own_at _ rfl _ _ 22 rfl base 5 i0 (.int .u8 0) 1 1 Try.underlying22 hi hz0 hz1 hz2 rfl (by decide) v _ _ rfl (hv.alloc _) ⟨w.heap.size, 0, none⟩ 1 1 [.int .u8 (n / 65536)] rfl rfl ?c1 ?c2 ?c3 ?c4 ?c5 ?_)
  case c1 => exact cells_newJ w #[.int .u8 (n / 65536)] 5
  case c2 => exact ints_oneCell .u8 [n / 65536]
  case c3 => unfold maxLen; omega
  case c4 => omega
  case c5 => simp; omega
  intro v' w1 hown hgrow _ hat
  have HO : Hid (ownB w1 base v' (l ++ [n / 65536])) := by
    unfold Hid ownB; simpa using hown
  have HG : Hid (w.grownBy w1 v.ownBlock) := (World.grownBy_alloc w _ _).trans hgrow
  have HA := hide hat
  have hs1 : base ≤ w1.heap.size := Nat.le_trans hbase HG.out.size
  clear hown hgrow hv hat
  go_wp2_with fail
  refine (appendWordK base v' _ n w1 HO.out hs1 h0 h1 (by simp; omega)).mono ?_
  rintro e w2 ⟨v2, rfl, hv2, hb2⟩
  have hgg : w.grownBy w2 v.ownBlock := ⟨hb2.os.trans HG.out.os, hb2.tape.trans HG.out.tape, hb2.output.trans HG.out.output, Nat.le_trans HG.out.size hb2.size, fun q hq hne => (hb2.block q (Nat.lt_of_lt_of_le hq HG.out.size) (fun e => by
    rcases HA.out with h | h
    · exact hne (e.trans h)
    · rw [h] at e; injection e with e; (try simp at e); omega)).trans (HG.out.block q hq hne)⟩
  have HR := hide (And.intro hv2 hgg)
  clear hv2 hb2 hgg
  go_wp2
  go_ret
  exact ⟨_, rfl, by have := HR.out.1; simpa using this, HR.out.2⟩

set_option maxRecDepth 100000 in
set_option maxHeartbeats 8000000 in
theorem implJBytes_go (key safe : Int) (o : Option Addr) (cap : Nat) (l : List Cd) (w : World) (hR : RdC w.heap.size w o l) (hok : journalB key l safe = true) (hjo : ∀ W : World, Below w.heap.size w W → Calls Try.prog 29 #[jrn key (.slice o l.length cap) safe] W fun e w' => e = .returned (.bool true) ∧ Below W.heap.size W w') :
    Calls Try.prog 27 #[jrn key (.slice o l.length cap) safe] w fun e w' => ∃ v, e = .returned (.tuple #[v, .bool true]) ∧ ownB w' w.heap.size v (jHead key safe ++ cmdsTo l l.length) ∧ Below w.heap.size w w' := by
  obtain ⟨hk, hl, h0, h1⟩ := journal_facts hok
  have hkk := keyB_iff.1 hk
  have hsf : safe ≤ 100 := by omega
  have e2 : IntKind.u8.wrap safe = safe := u8w _ (by omega) (by omega)
  obtain ⟨i0, hi, hz0', hz1', hz2'⟩ := info_parts infoU8
  obtain ⟨N, hN⟩ : ∃ N : Nat, N = 4 + 3 * l.length := ⟨_, rfl⟩
  have g1 : IntKind.i64.wrap (3 * (l.length : Int)) = 3 * (l.length : Int) := by rw [IntKind.wrap_i64]; omega
  have g2 : IntKind.i64.wrap (4 + 3 * (l.length : Int)) = (N : Int) := by rw [IntKind.wrap_i64]; omega
  have hN2 : N ≤ 1000 := by omega
  clear hN
  have HR := hide hR
  have HOK := hide hok
  clear hR hok
  obtain ⟨W0, hW0⟩ : ∃ W, (w.alloc (.cells #[.int .i64 key, .slice o l.length cap, .int .i64 safe] 47)) = W := ⟨_, rfl⟩
  have hb_W0 : Below w.heap.size w W0 := by rw [← hW0]; exact ((Below.refl _ _).alloc (Nat.le_refl _) _)
  have HB := hide hb_W0
  clear hb_W0
  have zz : w.heap.size < W0.heap.size := by rw [← hW0]; simp
  have z0 : W0.cell? ⟨w.heap.size, 0, none⟩ = some (.int .i64 key) := by rw [← hW0]; simp [go_sem]
  have z1 : W0.cell? ⟨w.heap.size, 1, none⟩ = some (.slice o l.length cap) := by rw [← hW0]; simp [go_sem]
  have z2 : W0.cell? ⟨w.heap.size, 2, none⟩ = some (.int .i64 safe) := by rw [← hW0]; simp [go_sem]
  have HJO := hide (hjo W0 HB.out)
  clear hjo
  go_enter Try.func27, Try.ntmps27
  go_wp2_with fail
  refine (HJO.out).mono ?_
  rintro e v1 ⟨rfl, hb⟩
  have hs1 := hb.size
  replace z0 := bC hb z0 zz
  replace z1 := bC hb z1 zz
  replace z2 := bC hb z2 zz
  replace zz := Nat.lt_of_lt_of_le zz hb.size
  replace HB := hide (HB.out.trans (hb.mono HB.out.size))
  clear hb
  go_wp2_with (at_make; refine wpList_make_own _ rfl _ _ 22 rfl v1.heap.size 5 i0 (.int .u8 0) 1 Try.underlying22 hi hz0' hz1' _ _ _ N rfl rfl (by omega) ?b2 ?b3 (Nat.le_refl _) ?_)
  case b2 => rw [hz2']; omega
  case b3 => unfold maxLen; omega
  intro wm hvm hgm
  have hbm : Below v1.heap.size v1 wm := (Below.refl _ _).grown hgm (Nat.le_refl _) (fun k h => by cases h)
  have HVM : Hid (ownB wm v1.heap.size (.slice (some ⟨v1.heap.size, 0, none⟩) 0 N) []) := hvm
  have hsm : v1.heap.size ≤ wm.heap.size := hbm.size
  clear hvm hgm
  have HZV := hide (show w.heap.size < v1.heap.size from zz)
  have HZW := hide HB.out.size
  replace z0 := bC hbm z0 zz
  replace z1 := bC hbm z1 zz
  replace z2 := bC hbm z2 zz
  replace zz := Nat.lt_of_lt_of_le zz hbm.size
  replace HB := hide (HB.out.trans (hbm.mono HB.out.size))
  clear hbm
  have hvlt : v1.heap.size < wm.heap.size := (HVM.out.lt v1.heap.size rfl).2
  have hzv : w.heap.size < v1.heap.size := HZV.out
  go_wp2
  go_region_held3 (fun w' => w'.cell? ⟨w.heap.size, 0, none⟩ = some (.int .i64 key) ∧ w'.cell? ⟨w.heap.size, 2, none⟩ = some (.int .i64 safe)) (first | with_reducible exact ⟨l0, l1⟩ | with_reducible exact ⟨k0, k1⟩ | with_reducible exact ⟨z0, z2⟩ | go_keep) (first | (go_at_call 85; have hpre : Below wm.heap.size wm wm.drew := (Below.drew (Below.refl _ _)); have own_ := own_kept HVM.out hpre; have hc_ := appendThreeK v1.heap.size _ [] key wm.drew own_ (by (try simp) <;> omega) hkk.1 (by omega) (by simp); with_reducible refine hc_.mono ?_; clear hc_; rintro e x0 ⟨v3, rfl, hv3, hg3⟩; have hp0 : Below v1.heap.size wm x0 := (hpre.mono hsm).grown hg3 (by (try simp) <;> omega) (fun k h => (own_.lt k h).1); have sp0 := hp0.size; have HV3 := hide hv3; have HP0 := hide hp0; have k0 := bC hp0 z0 hzv; have k1 := bC hp0 z2 hzv; clear hv3 hg3 own_ hp0 hpre) | (refine step_append_bytes rfl (.tmp 19) (.tmp 23) rfl v1.heap.size v3 _ rfl (World.ownsRow.alloc HV3.out _) (some ⟨x0.heap.size, 0, none⟩) 1 [safe] 1 rfl rfl (fun h => by cases h) (rd_byteA x0 safe) (by simp) (by (try simp) <;> omega) ?_; intro v8 w8 hv8 hb8; have hp8 : Below v1.heap.size wm w8 := (HP0.out.alloc (by omega) _).trans hb8; have l0 := bC hp8 z0 hzv; have l1 := bC hp8 z2 hzv; have l2 := bC hp8 z1 hzv; have HV8 := hide hv8; have HP8 := hide hp8; clear hv8 hb8 hp8) | (refine step_append_bytes rfl (.tmp 19) (.tmp 23) rfl v1.heap.size v3 _ rfl HV3.out (some ⟨wm.heap.size, 0, none⟩) 1 [safe] 1 rfl rfl (fun h => by cases h) (rd_box hS0) (by simp) (by (try simp) <;> omega) ?_; intro v8 w8 hv8 hb8; have hp8 : Below v1.heap.size wm w8 := HP0.out.trans hb8; have l0 := bC hp8 z0 hzv; have l1 := bC hp8 z2 hzv; have l2 := bC hp8 z1 hzv; have HV8 := hide hv8; have HP8 := hide hp8; clear hv8 hb8 hp8) | (go_at_call 85; have hpre : Below wm.heap.size wm (wm.alloc (.cells #[.int .u8 safe] 5)).drew := (Below.drew ((Below.refl _ _).alloc (Nat.le_refl _) _)); have own_ := own_kept HVM.out hpre; have hc_ := appendThreeK v1.heap.size _ [] key (wm.alloc (.cells #[.int .u8 safe] 5)).drew own_ (by (try simp) <;> omega) hkk.1 (by omega) (by simp); with_reducible refine hc_.mono ?_; clear hc_; rintro e x0 ⟨v3, rfl, hv3, hg3⟩; have hp0 : Below v1.heap.size wm x0 := (hpre.mono hsm).grown hg3 (by (try simp) <;> omega) (fun k h => (own_.lt k h).1); have sp0 := hp0.size; have HV3 := hide hv3; have HP0 := hide hp0; have k0 := bC hp0 z0 hzv; have k1 := bC hp0 z2 hzv; have hS0 : x0.heap[wm.heap.size]? = some (.cells #[.int .u8 safe] 5 (0, 0)) := (hg3.block _ (by simp) (fun e => by simp [Value.ownBlock] at e; omega)).trans (alloc_drew_new wm (.cells #[.int .u8 safe] 5)); clear hv3 hg3 own_ hp0 hpre))
  all_goals
    have HB8 := hide (HB.out.trans (HP8.out.mono HZW.out))
    have HV9 : Hid (ownB w8 v1.heap.size v8 (jHead key safe ++ cmdsTo l 0)) := by unfold Hid; simpa [jHead, cmdsTo] using HV8.out
    clear HV8 z0 z1 z2 zz
    go_wp2
    go_loopw [4, 28] (fun bv iv wr => ∃ t : Nat, t ≤ l.length ∧ iv = .int .i64 (t : Int) ∧ Hid (ownB wr v1.heap.size bv (jHead key safe ++ cmdsTo l t)) ∧ Hid (Below v1.heap.size w8 wr))
      (fun _ iv _ => l.length - (intOf iv).toNat)
    case atStart => exact ⟨0, Nat.zero_le _, rfl, HV9.out, Below.refl _ _⟩
    case round =>
      obtain ⟨t, htl, rfl, HO, HBR⟩ := hrel
      have hsr := HBR.out.size
      have HS8 := hide HP8.out.size
      have HBB : Hid (Below w.heap.size w wr) := HB8.out.trans (HBR.out.mono HZW.out)
      have hlen : (jHead key safe ++ cmdsTo l t).length ≤ 1000 := by rw [List.length_append, cmdsTo_length l t htl]; simp [jHead]; omega
      have hvw : v1.heap.size ≤ wr.heap.size := by have := HS8.out; omega
      by_cases hlt : t < l.length
      · skip
        have hlt' : (t : Int) < (l.length : Int) := by omega
        have ht0 : (0 : Int) ≤ (t : Int) := by omega
        rcases HR.out with hR | ⟨b, off, rfl, hbl, hcell⟩
        · subst hR; simp at hlt
        obtain ⟨c0, c1, c2⟩ := RdL.cmd (C := w.heap.size) hcell t hlt
        replace c0 := (HBB.out.cell (p := ⟨b, off + t * 3, none⟩) hbl).trans c0
        replace c1 := (HBB.out.cell (p := ⟨b, off + t * 3 + 1, none⟩) hbl).trans c1
        replace c2 := (HBB.out.cell (p := ⟨b, off + t * 3 + 2, none⟩) hbl).trans c2
        obtain ⟨x, y, u, hxyu⟩ : ∃ x y u, l.getD t (0, 0, 0) = (x, y, u) := ⟨_, _, _, rfl⟩
        rw [hxyu] at c0 c1 c2
        dsimp only at c0 c1 c2
        obtain ⟨⟨q1, q2⟩, ⟨q3, q4⟩, q5, q6⟩ := cmd_ok HOK.out hlt hxyu
        have f1 : IntKind.u8.wrap x = x := u8w _ (by omega) (by omega)
        have f2 : IntKind.u8.wrap y = y := u8w _ (by omega) (by omega)
        have f3 : IntKind.u8.wrap u = u := u8w _ (by omega) (by omega)
        have HN := hide (cmdsTo_succ hlt hxyu)
        clear hxyu hcell
        obtain ⟨W2, hW2⟩ : ∃ W, wr.alloc (.cells #[.int .i64 x, .int .i64 y, .int .i64 u] 28) = W := ⟨_, rfl⟩
        have hb2 : Below wr.heap.size wr W2 := by rw [← hW2]; exact (Below.refl _ _).alloc (Nat.le_refl _) _
        have b0 : W2.cell? ⟨wr.heap.size, 0, none⟩ = some (.int .i64 x) := by rw [← hW2]; simp
        have b1 : W2.cell? ⟨wr.heap.size, 1, none⟩ = some (.int .i64 y) := by rw [← hW2]; simp
        have b2 : W2.cell? ⟨wr.heap.size, 2, none⟩ = some (.int .i64 u) := by rw [← hW2]; simp
        have HO2 := hide (own_kept HO.out hb2)
        have HB2 : Hid (Below v1.heap.size w8 W2) := HBR.out.trans (hb2.mono hvw)
        have hs2 : v1.heap.size ≤ W2.heap.size := by have := hb2.size; omega
        clear hb2
        generalize hL0 : jHead key safe ++ cmdsTo l t = L0 at *
        go_wp2_with (at_builtin; refine wpList_append_bytes rfl (.tmp 32) (.tmp 42) rfl v1.heap.size _ L0 rfl (World.ownsRow.alloc HO2.out _) (some ⟨W2.heap.size, 0, none⟩) 3 [x, y, u] rfl (fun h => by cases h) (rd_byte3A W2 x y u) (by simp; omega) (by simp; omega) ?_)
        intro v5 w5 hv5 _ hb5
        have HV5 := hide hv5
        have HB5 : Hid (Below v1.heap.size w8 w5) := (HB2.out.alloc hs2 _).trans hb5
        clear hv5 hb5
        go_wp2
        go_roundw
        case rel => exact ⟨t + 1, by omega, by go_num, by rw [HN.out, ← List.append_assoc, hL0]; exact HV5.out, HB5.out⟩
        case measure => simp [intOf]; omega
      · have e : t = l.length := by omega
        subst e
        have hlz : ¬ ((l.length : Int) < (l.length : Int)) := by omega
        have hzz := HZW.out
        clear hlen
        go_wp2
        go_ret2
        exact ⟨_, rfl, own_mono HO.out (by omega), HBB.out⟩

set_option maxRecDepth 100000 in
set_option maxHeartbeats 4000000 in
theorem implJBytes_sh (v : Value) (m : Jm) (w : World) (hR : RdJm w.heap.size w v m) (hcp : capJm v) (hf : fitJm m) :
    Calls Try.prog 27 #[v] w fun e w' => ∃ v', e = .returned (.tuple #[v', .bool (journalB m.key m.l m.safe)]) ∧ InB w.heap.size w'.heap.size w' v' (jrnL m) ∧ Below w.heap.size w w' := by
  have hjo := fun W (hb : Below w.heap.size w W) => implJournalOk_sh v m W ((hR.kept hb (Nat.le_refl _)).le hb.size) hf
  obtain ⟨vl, rfl, ⟨o, c, rfl, r⟩⟩ := hR
  have HE := hide (show jrnL m = if journalB m.key m.l m.safe = true then jHead m.key m.safe ++ cmdsTo m.l m.l.length else [] from rfl)
  cases hj : journalB m.key m.l m.safe with
  | true =>
    rw [hj] at hjo
    refine (implJBytes_go m.key m.safe o c m.l w r hj hjo).mono ?_
    rintro e w' ⟨v, rfl, hv, hb⟩
    refine ⟨v, rfl, ?_, hb⟩
    rw [HE.out, if_pos hj]
    exact InB.of hv
  | false =>
    rw [hj] at hjo
    have HE2 := hide (show jrnL m = [] by rw [HE.out, if_neg (by rw [hj]; simp)])
    clear HE hj r
    obtain ⟨W0, hW0⟩ : ∃ W, (w.alloc (.cells #[.int .i64 m.key, .slice o m.l.length c, .int .i64 m.safe] 47)) = W := ⟨_, rfl⟩
    have hb_W0 : Below w.heap.size w W0 := by rw [← hW0]; exact ((Below.refl _ _).alloc (Nat.le_refl _) _)
    have HB := hide hb_W0
    clear hb_W0
    have zz : w.heap.size < W0.heap.size := by rw [← hW0]; simp
    have z0 : W0.cell? ⟨w.heap.size, 0, none⟩ = some (.int .i64 m.key) := by rw [← hW0]; simp [go_sem]
    have z1 : W0.cell? ⟨w.heap.size, 1, none⟩ = some (.slice o m.l.length c) := by rw [← hW0]; simp [go_sem]
    have z2 : W0.cell? ⟨w.heap.size, 2, none⟩ = some (.int .i64 m.safe) := by rw [← hW0]; simp [go_sem]
    have HJO := hide (hjo W0 HB.out)
    clear hjo
    go_enter Try.func27, Try.ntmps27
    go_wp2_with fail
    refine (HJO.out).mono ?_
    rintro e v1 ⟨rfl, hb⟩
    replace z0 := bC hb z0 zz
    replace z1 := bC hb z1 zz
    replace z2 := bC hb z2 zz
    replace zz := Nat.lt_of_lt_of_le zz hb.size
    replace HB := hide (HB.out.trans (hb.mono HB.out.size))
    clear hb
    go_wp2
    go_ret2
    refine ⟨.slice none 0 0, rfl, ?_, HB.out⟩
    rw [HE2.out]
    exact ⟨World.ownsRow_nil _ _ _ _, fun b e => by cases e⟩

end Go.Proofs.Ytflakpmcgopdaaa
