/- A carrier's bytes, the model's. -/
import Derived.Test.YtoeoiljddcjphaaShN
import Derived.Test.YtoeoiljddcjphaaSPBytes
import Derived.Deep.RegionLaw
namespace Go.Proofs.Ytoeoiljddcjphaa
open Go.ChangeShapes Go.WideShapes Go.ChangeAt Go.RowKit Go.Joins
set_option linter.unusedVariables false
set_option linter.unusedSimpArgs false

/-- The head of a carrier's bytes; the bytes of the first k segs. -/
def headL (n : Nat) (pl st : Int) : List Int := [(n : Int), pl, st / 65536, st / 256 % 256, st % 256]
def segB (p : Int × Int) : Int := 16 * p.2 + p.1
def segTo (g : List (Int × Int)) (k : Nat) : List Int := (g.take k).map segB
theorem segTo_succ {g : List (Int × Int)} {k : Nat} {x y : Int} (hk : k < g.length) (h : g.getD k (0, 0) = (x, y)) : segTo g (k + 1) = segTo g k ++ [16 * y + x] := by
  unfold segTo
  rw [takeG_succ g k hk, h, List.map_append]
  rfl
theorem segTo_length (g : List (Int × Int)) (k : Nat) (h : k ≤ g.length) : (segTo g k).length = k := by simp [segTo]; omega

theorem own_lit (w : World) (cs : Array Value) (e : TypeId) (n : Nat) (hn : cs.size = n) (hm : n ≤ 1000) : (w.alloc (.cells cs e)).ownsRow w.heap.size e 1 (.slice (some ⟨w.heap.size, 0, none⟩) n n) n cs.toList :=
  ⟨by simp [hn], .inr ⟨w.heap.size, n, cs, rfl, Nat.le_refl _, heap_alloc_new w _, Nat.le_refl _, by unfold maxLen; omega, by rw [hn, Nat.mul_one], by rw [Nat.mul_one]; exact List.take_of_length_le (by simp [hn])⟩⟩
theorem packetL_len (a b f s : Int) (l : List Int) (hl : l.length ≤ 16) : (packetL a b f s l).length ≤ 100 := by
  simp [packetL, preL_length]; omega
/-- A seg's byte. -/
theorem seg_bits {x y : Int} (hx : 0 ≤ x ∧ x < 6) (hy : 0 ≤ y ∧ y ≤ 1) : bits .or .i64 (y * 16) x = 16 * y + x := by
  have h1 : x = 0 ∨ x = 1 ∨ x = 2 ∨ x = 3 ∨ x = 4 ∨ x = 5 := by omega
  have h2 : y = 0 ∨ y = 1 := by omega
  rcases h1 with rfl | rfl | rfl | rfl | rfl | rfl <;> rcases h2 with rfl | rfl <;> decide

theorem wrap_u8c (n : Int) (h0 : 0 ≤ n) (h1 : n < 256) : IntKind.u8.wrap n = n := by
  simp [IntKind.wrap, IntKind.bits, IntKind.signed]; omega
theorem rd_byte1 (w : World) (x : Int) : Rd (w.alloc (.cells #[.int .u8 x] 5)).drew (some ⟨w.heap.size, 0, none⟩) [x] := by
  refine .inr ⟨w.heap.size, 0, rfl, by show w.heap.size < (w.alloc _).heap.size; simp, fun i hi => ?_⟩
  have hi0 : i = 0 := by simpa using hi
  subst hi0
  show (w.alloc _).cell? _ = _
  simp
theorem routeR_seg (op : Bool) : ∀ (g : List (Int × Int)) (p : Int), routeR op p g = true → ∀ i, i < g.length → segOkB (g.getD i (0, 0)).1 (g.getD i (0, 0)).2 = true
  | [], _, _, i, hi => by simp at hi
  | q :: g, p, h, i, hi => by
    simp [routeR] at h
    cases i with
    | zero => simpa using h.1.1.1
    | succ i => simpa using routeR_seg op g _ h.2 i (by simpa using hi)
theorem carrier_seg {a b f s : Int} {n : Nat} {g : List (Int × Int)} {pl st : Int} (h : carrierOkB a b f s n g pl st = true) {k : Nat} (hk : k < g.length) {x y : Int} (hxy : g.getD k (0, 0) = (x, y)) : (0 ≤ x ∧ x < 6) ∧ (0 ≤ y ∧ y ≤ 1) := by
  have h1 : routeR (opens3 f) 0 g = true := by unfold carrierOkB at h; cases hh : headB a b f s n g.length pl st <;> simp_all
  have := routeR_seg _ g 0 h1 k hk
  rw [hxy] at this
  have := segOkB_iff.1 this
  omega

set_option maxRecDepth 100000 in
set_option maxHeartbeats 4000000 in
theorem l2bytes_any (a b f s : Int) (o og : Option Addr) (cap cg : Nat) (l : List Int) (g : List (Int × Int)) (pl st : Int) (w : World) (hR : Rd w o l) (hn : o = none → cap = 0) (hB8 : isB l) (hG : RdG w og g) (hok : carrierOkB a b f s l.length g pl st = true) :
    Calls Try.prog 71 #[crr a b f s (.slice o l.length cap) (.slice og g.length cg) pl st] w fun e w' => ∃ v, e = .returned v ∧ ownB w' w.heap.size v (headL g.length pl st ++ segTo g g.length ++ packetL a b f s l) ∧ Below w.heap.size w w' := by
  obtain ⟨hpk, h2, h3, h4, h5, h6, h7⟩ := carrierOkB_head hok
  have hs1 : 0 ≤ st / 65536 ∧ st / 65536 ≤ 1 := by omega
  have hs2 : 0 ≤ st / 256 ∧ st / 256 ≤ 400 := by omega
  go_enter Try.func71, Try.ntmps71
  obtain ⟨i0, hi, hz0, hz1, hz2⟩ := info_parts infoU8
  have F1 : Hid ((((w.alloc (.cells #[.int .i64 a, .int .i64 b, .int .i64 f, .int .i64 s, .slice o l.length cap, .slice og g.length cg, .int .i64 pl, .int .i64 st] 29)).alloc (.cells #[.int .u8 (g.length : Int), .int .u8 pl] 5)).alloc (.cells #[.int .u8 (st / 65536), .int .u8 (st / 256 % 256), .int .u8 (st % 256)] 5)).ownsRow (w.heap.size + 1) 5 1 (.slice (some ⟨w.heap.size + 1, 0, none⟩) 2 2) 2 [.int .u8 (g.length : Int), .int .u8 pl]) := by
    have h := own_lit (w.alloc (.cells #[.int .i64 a, .int .i64 b, .int .i64 f, .int .i64 s, .slice o l.length cap, .slice og g.length cg, .int .i64 pl, .int .i64 st] 29)) #[.int .u8 (g.length : Int), .int .u8 pl] 5 2 rfl (by decide)
    rw [World.size_alloc] at h
    exact World.ownsRow.alloc h _
  have HC : Hid (∀ j u, ([.int .u8 (st / 65536), .int .u8 (st / 256 % 256), .int .u8 (st % 256)] : List Value)[j]? = some u → (((w.alloc (.cells #[.int .i64 a, .int .i64 b, .int .i64 f, .int .i64 s, .slice o l.length cap, .slice og g.length cg, .int .i64 pl, .int .i64 st] 29)).alloc (.cells #[.int .u8 (g.length : Int), .int .u8 pl] 5)).alloc (.cells #[.int .u8 (st / 65536), .int .u8 (st / 256 % 256), .int .u8 (st % 256)] 5)).cell? ((⟨w.heap.size + 1 + 1, 0, none⟩ : Addr).add j) = some u) := by
    have h := cells_new ((w.alloc (.cells #[.int .i64 a, .int .i64 b, .int .i64 f, .int .i64 s, .slice o l.length cap, .slice og g.length cg, .int .i64 pl, .int .i64 st] 29)).alloc (.cells #[.int .u8 (g.length : Int), .int .u8 pl] 5)) #[.int .u8 (st / 65536), .int .u8 (st / 256 % 256), .int .u8 (st % 256)] 5
    simp only [World.size_alloc] at h
    exact h
  have hb0 : Hid (Below w.heap.size w (((w.alloc (.cells #[.int .i64 a, .int .i64 b, .int .i64 f, .int .i64 s, .slice o l.length cap, .slice og g.length cg, .int .i64 pl, .int .i64 st] 29)).alloc (.cells #[.int .u8 (g.length : Int), .int .u8 pl] 5)).alloc (.cells #[.int .u8 (st / 65536), .int .u8 (st / 256 % 256), .int .u8 (st % 256)] 5))) := (((Below.refl w.heap.size w).alloc (Nat.le_refl _) _).alloc (by simp) _).alloc (by simp; omega) _
  have hb1 : Hid (Below (w.heap.size + 1) (w.alloc (.cells #[.int .i64 a, .int .i64 b, .int .i64 f, .int .i64 s, .slice o l.length cap, .slice og g.length cg, .int .i64 pl, .int .i64 st] 29)) (((w.alloc (.cells #[.int .i64 a, .int .i64 b, .int .i64 f, .int .i64 s, .slice o l.length cap, .slice og g.length cg, .int .i64 pl, .int .i64 st] 29)).alloc (.cells #[.int .u8 (g.length : Int), .int .u8 pl] 5)).alloc (.cells #[.int .u8 (st / 65536), .int .u8 (st / 256 % 256), .int .u8 (st % 256)] 5))) := ((Below.refl (w.heap.size + 1) (w.alloc (.cells #[.int .i64 a, .int .i64 b, .int .i64 f, .int .i64 s, .slice o l.length cap, .slice og g.length cg, .int .i64 pl, .int .i64 st] 29))).alloc (by simp) _).alloc (by simp) _
  have bx0 : Hid ((w.alloc (.cells #[.int .i64 a, .int .i64 b, .int .i64 f, .int .i64 s, .slice o l.length cap, .slice og g.length cg, .int .i64 pl, .int .i64 st] 29)).heap[w.heap.size]? = some (.cells #[.int .i64 a, .int .i64 b, .int .i64 f, .int .i64 s, .slice o l.length cap, .slice og g.length cg, .int .i64 pl, .int .i64 st] 29 (0, 0))) := World.alloc_heap_new w (.cells #[.int .i64 a, .int .i64 b, .int .i64 f, .int .i64 s, .slice o l.length cap, .slice og g.length cg, .int .i64 pl, .int .i64 st] 29)
  go_wp2_with (at_builtin; refine wpList_append_own _ rfl _ _ 22 rfl (w.heap.size + 1) 5 i0 (.int .u8 0) 1 1 Try.underlying22 hi hz0 hz1 hz2 rfl (by decide) _ _ _ rfl F1.out ⟨w.heap.size + 1 + 1, 0, none⟩ 3 3 [.int .u8 (st / 65536), .int .u8 (st / 256 % 256), .int .u8 (st % 256)] rfl rfl HC.out ?c2 ?c3 ?c4 ?c5 ?_)
  case c2 => exact ints_oneCell .u8 [st / 65536, st / 256 % 256, st % 256]
  case c3 => unfold maxLen; omega
  case c4 => omega
  case c5 => simp
  intro v1 w1 hv1 hg1 _
  have hb2 : Below (w.heap.size + 1) (w.alloc (.cells #[.int .i64 a, .int .i64 b, .int .i64 f, .int .i64 s, .slice o l.length cap, .slice og g.length cg, .int .i64 pl, .int .i64 st] 29)) w1 := hb1.out.grown hg1 (by simp) (fun k h => (F1.out.lt k h).1)
  have HV1 : Hid (ownB w1 (w.heap.size + 1) v1 (headL g.length pl st ++ segTo g 0)) := hv1
  have hbx := (hb2.block w.heap.size (by omega)).trans bx0.out
  have hB1 : Below w.heap.size w w1 := ((Below.refl w.heap.size w).alloc (Nat.le_refl _) _).trans (hb2.mono (by omega))
  have hsz1 : w.heap.size + 1 ≤ w1.heap.size := by have := hb2.size; simp at this; omega
  have HBX := hide hbx
  have HB1 := hide hB1
  clear F1 HC hb0 hb1 bx0 hv1 hg1 hb2 hbx hB1
  go_wp2
  go_loopw [3, 4] (fun bv iv wr => ∃ k : Nat, k ≤ g.length ∧ iv = .int .i64 k ∧ ownB wr (w.heap.size + 1) bv (headL g.length pl st ++ segTo g k) ∧ Below (w.heap.size + 1) w1 wr)
    (fun _ iv _ => g.length - (intOf iv).toNat)
  case atStart => exact ⟨0, Nat.zero_le _, rfl, HV1.out, Below.refl _ _⟩
  case round =>
    obtain ⟨k, hk, rfl, hbv, hBr⟩ := hrel
    have bxr := (hBr.block w.heap.size (by omega)).trans HBX.out
    have c5 : wr.cell? ⟨w.heap.size, 5, none⟩ = some (.slice og g.length cg) := block_cell bxr 5 _ rfl
    have hlen : (headL g.length pl st ++ segTo g k).length ≤ 100 := by rw [List.length_append, segTo_length g k hk]; simp [headL]; omega
    have HO := hide hbv
    have HBr := hide hBr
    by_cases hlt : k < g.length
    · rcases hG with hG | ⟨bb, off, rfl, hbb, hcell⟩
      · subst hG; simp at hlt
      obtain ⟨x, y, hxy⟩ : ∃ x y, g.getD k (0, 0) = (x, y) := ⟨_, _, rfl⟩
      have hcx := hcell k hlt
      rw [hxy] at hcx
      have hBw := HB1.out.trans (hBr.mono (Nat.le_succ _))
      have p0 := (hBw.cell (p := ⟨bb, off + k * 2, none⟩) hbb).trans hcx.1
      have p1 := (hBw.cell (p := ⟨bb, off + k * 2 + 1, none⟩) hbb).trans hcx.2
      have hsg := carrier_seg hok hlt hxy
      have z1 : (k : Int) < (g.length : Int) := by omega
      have HN := hide (segTo_succ hlt hxy)
      have hbt := seg_bits hsg.1 hsg.2
      clear hxy hcell hcx hBw hBr hbv bxr
      have hbb2 : 0 ≤ 16 * y + x ∧ 16 * y + x ≤ 255 := by omega
      have hwr : IntKind.i64.wrap (y * 16) = y * 16 := wrap_i64 _ (by omega) (by omega)
      have hb3 : 16 * y + x < 256 := by omega
      have hb4 : 0 ≤ 16 * y + x := by omega
      have hu8 : IntKind.u8.wrap (16 * y + x) = 16 * y + x := wrap_u8c _ hb4 hb3
      generalize 16 * y + x = z at *
      have F1 : ownB (wr.alloc (.cells #[.int .u8 z] 5)).drew (w.heap.size + 1) u3 (headL g.length pl st ++ segTo g k) := World.ownsRow.alloc HO.out _
      have B1 : Below (w.heap.size + 1) w1 (wr.alloc (.cells #[.int .u8 z] 5)).drew := (HBr.out.alloc (Nat.le_trans hsz1 HBr.out.size) _).drew
      have R1 : Rd (wr.alloc (.cells #[.int .u8 z] 5)).drew (some ⟨wr.heap.size, 0, none⟩) [z] := rd_byte1 wr _
      have hL2 : Hid ((headL g.length pl st ++ segTo g k).length + [z].length ≤ 1099511627776) := by show _ ≤ _; rw [List.length_singleton]; omega
      have hS2 : Hid (w.heap.size + 1 ≤ (wr.alloc (.cells #[.int .u8 z] 5)).drew.heap.size) := Nat.le_trans hsz1 B1.size
      have hF := hide F1
      have hB := hide B1
      have hR1 := hide R1
      clear F1 B1 R1
      go_wp2
      go_region_law (first | (refine step_append_bytes rfl (.tmp 33) (.tmp 49) rfl (w.heap.size + 1) u3 (headL g.length pl st ++ segTo g k) rfl hF.out (some ⟨wr.heap.size, 0, none⟩) 1 [z] 1 rfl rfl ?hn hR1.out hL2.out hS2.out ?_; (case hn => (intro h; cases h)); intro v8 w8 hv8 hb8; have HR := hide (And.intro hv8 (hB.out.trans hb8)); clear hv8 hb8))
      all_goals (
        go_wp2
        go_roundw
        case rel => exact ⟨k + 1, by omega, by go_num, by rw [HN.out, ← List.append_assoc]; exact HR.out.1, HR.out.2⟩
        case measure => simp [intOf]; omega)
    · have e : k = g.length := by omega
      subst e
      obtain ⟨hl16, qa, qb, qf, qs⟩ := packetOk_bd hpk
      have x0 : wr.cell? ⟨w.heap.size, 0, none⟩ = some (.int .i64 a) := block_cell bxr 0 _ rfl
      have x1 : wr.cell? ⟨w.heap.size, 1, none⟩ = some (.int .i64 b) := block_cell bxr 1 _ rfl
      have x2 : wr.cell? ⟨w.heap.size, 2, none⟩ = some (.int .i64 f) := block_cell bxr 2 _ rfl
      have x3 : wr.cell? ⟨w.heap.size, 3, none⟩ = some (.int .i64 s) := block_cell bxr 3 _ rfl
      have x4 : wr.cell? ⟨w.heap.size, 4, none⟩ = some (.slice o l.length cap) := block_cell bxr 4 _ rfl
      have HBw := hide (HB1.out.trans (hBr.mono (Nat.le_succ _)))
      clear hbv hBr bxr
      go_wp2_with fail
      refine (l1bytes_any a b f s o cap l wr (hR.kept HBw.out) hn hB8 hl16 qa qb qf qs).mono ?_
      rintro e w2 ⟨v2, rfl, hv2, hb2⟩
      have hpl := packetL_len a b f s l hl16
      have hcap := InRow.cap (InB.of hv2)
      obtain ⟨o2, c2, hv2e, hR2⟩ := hv2.open
      subst hv2e
      have hn2 : o2 = none → c2 = 0 := fun h => hcap _ c2 (by rw [h])
      have hpn : (packetL a b f s l).length ≤ 100 := hpl
      have F2 : Hid (ownB w2 (w.heap.size + 1) u3 (headL g.length pl st ++ segTo g g.length)) := own_kept HO.out hb2
      have HB2 := hide (HBw.out.trans (hb2.mono HBw.out.size))
      have hs2 : w.heap.size + 1 ≤ w2.heap.size := Nat.le_trans hsz1 (Nat.le_trans HBr.out.size hb2.size)
      have HL : Hid ((headL g.length pl st ++ segTo g g.length).length + (packetL a b f s l).length ≤ 1099511627776) := by show _ ≤ _; omega
      clear x0 x1 x2 x3 x4 hv2 hb2 hcap hlen
      go_wp2_with (at_builtin; refine wpList_append_bytes rfl _ _ rfl (w.heap.size + 1) _ (headL g.length pl st ++ segTo g g.length) rfl F2.out o2 c2 (packetL a b f s l) rfl hn2 hR2 HL.out hs2 ?_)
      intro v3 w3 hv3 _ hb3
      have HR := hide (And.intro (own_mono hv3 (Nat.le_succ _)) (HB2.out.trans (hb3.mono (Nat.le_succ _))))
      clear hv3 hb3
      go_wp2
      go_ret
      exact ⟨_, rfl, by rw [List.append_assoc]; exact HR.out.1, HR.out.2⟩

/-- A carrier's bytes. -/
def carrL (m : Cm) : List Int := if m.ok then headL m.g.length m.pl m.st ++ segTo m.g m.g.length ++ packetL m.a m.b m.f m.s m.l else []
theorem carrL_len (m : Cm) : (carrL m).length ≤ 1048576 := by
  unfold carrL
  split
  · rename_i h
    obtain ⟨hpk, h2, h3, _⟩ := carrierOkB_head h
    have := packetL_len m.a m.b m.f m.s m.l (packetOk_bd hpk).1
    rw [List.length_append, List.length_append, segTo_length _ _ (Nat.le_refl _)]
    simp [headL]; omega
  · decide

set_option maxRecDepth 100000 in
set_option maxHeartbeats 1000000 in
theorem specCBytes_any (a b f s : Int) (o og : Option Addr) (cap cg : Nat) (l : List Int) (g : List (Int × Int)) (pl st : Int) (w : World) (hR : Rd w o l) (hn : o = none → cap = 0) (hB8 : isB l) (hl : l.length ≤ 1048576) (hG : RdG w og g) (hgl : g.length ≤ 1048576) :
    Calls Try.prog 40 #[crr a b f s (.slice o l.length cap) (.slice og g.length cg) pl st] w fun e w' => ∃ v, e = .returned (.tuple #[v, .bool (carrierOkB a b f s l.length g pl st)]) ∧ ownB w' w.heap.size v (carrL ⟨a, b, f, s, l, g, pl, st⟩) ∧ Below w.heap.size w w' := by
  have hb0 : Below w.heap.size w (w.alloc (.cells #[.int .i64 a, .int .i64 b, .int .i64 f, .int .i64 s, .slice o l.length cap, .slice og g.length cg, .int .i64 pl, .int .i64 st] 29)) := (Below.refl _ _).alloc (Nat.le_refl _) _
  have hs0 : w.heap.size < (w.alloc (.cells #[.int .i64 a, .int .i64 b, .int .i64 f, .int .i64 s, .slice o l.length cap, .slice og g.length cg, .int .i64 pl, .int .i64 st] 29)).heap.size := by simp
  have bx := World.alloc_heap_new w (.cells #[.int .i64 a, .int .i64 b, .int .i64 f, .int .i64 s, .slice o l.length cap, .slice og g.length cg, .int .i64 pl, .int .i64 st] 29)
  have hc := specCarrierOk_any a b f s o og l.length cap cg g pl st (w.alloc (.cells #[.int .i64 a, .int .i64 b, .int .i64 f, .int .i64 s, .slice o l.length cap, .slice og g.length cg, .int .i64 pl, .int .i64 st] 29)) (by unfold maxLen; omega) (by unfold maxLen; omega) (hG.kept hb0)
  have HE := hide (show carrL ⟨a, b, f, s, l, g, pl, st⟩ = if carrierOkB a b f s l.length g pl st then headL g.length pl st ++ segTo g g.length ++ packetL a b f s l else [] from rfl)
  have Hb := hide hb0
  have Hx := hide bx
  clear hb0 bx
  cases hok : carrierOkB a b f s l.length g pl st with
  | false =>
    rw [hok] at hc HE
    go_enter Try.func40, Try.ntmps40
    go_wp2_with fail
    generalize (w.alloc (.cells #[.int .i64 a, .int .i64 b, .int .i64 f, .int .i64 s, .slice o l.length cap, .slice og g.length cg, .int .i64 pl, .int .i64 st] 29)) = w0 at *
    refine hc.mono ?_
    rintro e w1 ⟨rfl, hb1⟩
    have HB := hide (Hb.out.trans (hb1.mono Hb.out.size))
    clear hb1 hc Hb Hx
    go_wp2
    go_ret2
    exact ⟨_, rfl, by rw [HE.out]; exact World.ownsRow_nil _ _ _ _, HB.out⟩
  | true =>
    rw [hok] at hc HE
    go_enter Try.func40, Try.ntmps40
    go_wp2_with fail
    generalize (w.alloc (.cells #[.int .i64 a, .int .i64 b, .int .i64 f, .int .i64 s, .slice o l.length cap, .slice og g.length cg, .int .i64 pl, .int .i64 st] 29)) = w0 at *
    refine hc.mono ?_
    rintro e w1 ⟨rfl, hb1⟩
    have hx1 := (hb1.block _ hs0).trans Hx.out
    have HB := hide (Hb.out.trans (hb1.mono Hb.out.size))
    have x0 : w1.cell? ⟨w.heap.size, 0, none⟩ = some (.int .i64 a) := block_cell hx1 0 _ rfl
    have x1 : w1.cell? ⟨w.heap.size, 1, none⟩ = some (.int .i64 b) := block_cell hx1 1 _ rfl
    have x2 : w1.cell? ⟨w.heap.size, 2, none⟩ = some (.int .i64 f) := block_cell hx1 2 _ rfl
    have x3 : w1.cell? ⟨w.heap.size, 3, none⟩ = some (.int .i64 s) := block_cell hx1 3 _ rfl
    have x4 : w1.cell? ⟨w.heap.size, 4, none⟩ = some (.slice o l.length cap) := block_cell hx1 4 _ rfl
    have x5 : w1.cell? ⟨w.heap.size, 5, none⟩ = some (.slice og g.length cg) := block_cell hx1 5 _ rfl
    have x6 : w1.cell? ⟨w.heap.size, 6, none⟩ = some (.int .i64 pl) := block_cell hx1 6 _ rfl
    have x7 : w1.cell? ⟨w.heap.size, 7, none⟩ = some (.int .i64 st) := block_cell hx1 7 _ rfl
    clear hb1 hc Hb Hx hx1
    go_wp2_with fail
    refine (l2bytes_any a b f s o og cap cg l g pl st w1 (hR.kept HB.out) hn hB8 (hG.kept HB.out) hok).mono ?_
    rintro e w2 ⟨v2, rfl, hv2, hb2⟩
    have HR := hide (And.intro (own_mono hv2 HB.out.size) (HB.out.trans (hb2.mono HB.out.size)))
    clear hv2 hb2 x0 x1 x2 x3 x4 x5 x6 x7
    go_wp2
    go_ret2
    exact ⟨_, rfl, by rw [HE.out]; exact HR.out.1, HR.out.2⟩

end Go.Proofs.Ytoeoiljddcjphaa
