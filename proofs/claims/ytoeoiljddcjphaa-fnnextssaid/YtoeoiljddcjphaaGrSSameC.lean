/- Several texts in one: SCBytes2, SCBytes3, ShCB, SConv, SSameC. -/
import Derived.Test.YtoeoiljddcjphaaSCBytes
import Derived.Test.YtoeoiljddcjphaaSHunt2
import Derived.Test.YtoeoiljddcjphaaBytes
import Derived.Laws.BytesArg
import Derived.BigQuiet
/- A carrier's bytes, the program's. -/
namespace Go.Proofs.Ytoeoiljddcjphaa
open Go.ChangeShapes Go.WideShapes Go.ChangeAt Go.RowKit Go.Joins Go.Shelf
set_option linter.unusedVariables false
set_option linter.unusedSimpArgs false

set_option maxHeartbeats 1000000 in
theorem appendWord_wide (base : Nat) (v : Value) (l : List Int) (n : Int) (w : World) (hv : ownB w base v l) (hbase : base ≤ w.heap.size) (h0 : 0 ≤ n) (h1 : n ≤ 100000) (hlen : l.length ≤ 1048576) :
    Calls Try.prog 67 #[v, .int .i64 n] w fun e w' => ∃ v', e = .returned v' ∧ ownB w' base v' (l ++ [n / 256 % 256, n % 256]) ∧ w.grownBy w' v.ownBlock := by
  obtain ⟨i0, hi, hz0, hz1, hz2⟩ := info_parts infoU8
  have hs2 : 0 ≤ n / 256 ∧ n / 256 ≤ 400 := by omega
  go_enter Try.func67, Try.ntmps67
  go_wp2_with (at_builtin; refine wpList_append_own _ rfl _ _ 22 rfl base 5 i0 (.int .u8 0) 1 1 Try.underlying22 hi hz0 hz1 hz2 rfl (by decide) v _ _ rfl (hv.alloc _) ⟨w.heap.size, 0, none⟩ 2 2 [.int .u8 (n / 256 % 256), .int .u8 (n % 256)] rfl rfl ?c1 ?c2 ?c3 ?c4 ?c5 ?_)
  case c1 => exact cells_new w #[.int .u8 (n / 256 % 256), .int .u8 (n % 256)] 5
  case c2 => exact ints_oneCell .u8 [n / 256 % 256, n % 256]
  case c3 => unfold maxLen; omega
  case c4 => omega
  case c5 => simp; omega
  intro v' w1 hown hgrow _
  have HO : Hid (ownB w1 base v' (l ++ [n / 256 % 256, n % 256])) := by
    unfold Hid ownB; simpa using hown
  have HG : Hid (w.grownBy w1 v.ownBlock) := (World.grownBy_alloc w _ _).trans hgrow
  clear hown hgrow hv
  go_wp2
  go_ret
  exact ⟨_, rfl, HO.out, HG.out⟩

end Go.Proofs.Ytoeoiljddcjphaa

/- A carrier's bytes, the program's, where it may be. -/
namespace Go.Proofs.Ytoeoiljddcjphaa
open Go.ChangeShapes Go.WideShapes Go.ChangeAt Go.RowKit Go.Joins Go.Shelf
set_option linter.unusedVariables false
set_option linter.unusedSimpArgs false

attribute [local go_sem] Oper.semAt_some

/-- A stop's byte, whatever it holds. -/
def stB (x : Stop) : Int := wrap64 (wrap64 (16 * x.1.2) + x.1.1) % 256
theorem own_shape {w : World} {base : Nat} {e : TypeId} {size : Nat} {v : Value} {n : Nat} {xs : List Value} (h : w.ownsRow base e size v n xs) : ∃ a c, v = .slice a n c := by
  rcases h.2 with ⟨h1, h2⟩ | ⟨g, cap, cur, h1, _⟩
  · exact ⟨none, 0, by rw [h1, h2]⟩
  · exact ⟨_, _, h1⟩
theorem wrap64_small (n : Int) (h0 : 0 ≤ n) (h1 : n < 1000000) : wrap64 n = n := by
  unfold wrap64; omega
theorem stB_upto {a b f s : Int} {n : Nat} {g : List (Int × Int)} {pl st : Int} (hok : carrierOkB a b f s n g pl st = true) : (upto (stopAt g pl) g.length).map stB = segTo g g.length := by
  unfold upto segTo
  rw [List.take_length, List.map_map]
  apply List.ext_getElem?
  intro i
  by_cases hi : i < g.length
  · obtain ⟨x, y, hxy⟩ : ∃ x y, g.getD i (0, 0) = (x, y) := ⟨_, _, rfl⟩
    have hs := carrier_seg hok hi hxy
    have hg : g[i]? = some (x, y) := by
      rw [List.getElem?_eq_getElem hi, ← hxy]; simp [hi]
    have e : stB (stopAt g pl i) = 16 * y + x := by
      unfold stB stopAt
      rw [hg]
      simp only [Option.getD_some]
      rw [wrap64_small (16 * y) (by omega) (by omega), wrap64_small _ (by omega) (by omega)]
      omega
    have hg2 : g[i] = (x, y) := by rw [List.getElem?_eq_getElem hi] at hg; injection hg
    simp [hi, e, segB, hg2]
  · simp [hi]
theorem carrNeByte : (29 : TypeId) ≠ 5 := by decide
theorem bytesNe : (22 : TypeId) ≠ 5 := by decide

end Go.Proofs.Ytoeoiljddcjphaa

/- CarrierBytes, in the words of shapes. -/
namespace Go.Proofs.Ytoeoiljddcjphaa
open Go.ChangeShapes Go.WideShapes Go.ChangeAt Go.RowKit Go.Joins
set_option linter.unusedVariables false
set_option linter.unusedSimpArgs false

theorem specCBytes_sh (v : Value) (m : Cm) (w : World) (hR : RdCm w.heap.size w v m) (hc : capCm v) (hf : fitCm m) :
    Calls Try.prog 40 #[v] w fun e w' => ∃ v', e = .returned (.tuple #[v', .bool m.ok]) ∧ InB w.heap.size w'.heap.size w' v' (carrL m) ∧ Below w.heap.size w w' := by
  obtain ⟨vl, vg, rfl, ⟨o, c, rfl, r⟩, ⟨og, cg, rfl, rg⟩⟩ := hR
  obtain ⟨hn, hng⟩ := hc.two
  have h1 := hf.1
  refine (specCBytes_any m.a m.b m.f m.s o og c cg m.l m.g m.pl m.st w (RdB_rd.1 r) hn hf.2 (by omega) (RdG_rd.1 rg) (by omega)).mono ?_
  rintro e w' ⟨v, rfl, ho, hb⟩
  exact ⟨v, rfl, InB.of ho, hb⟩
end Go.Proofs.Ytoeoiljddcjphaa

/- Bytes turned into a string, and held against others: bytes.Equal. -/
namespace Go.Proofs.Ytoeoiljddcjphaa
open Go.ChangeShapes Go.WideShapes Go.ChangeAt Go.RowKit Go.Joins
set_option linter.unusedVariables false
set_option linter.unusedSimpArgs false

theorem run_conv {w : World} {o : Option Addr} {l : List Int} (cap : Nat) (h : Rd w o l) : (convert 22 9 (.slice o l.length cap)).run Try.prog w = .ok (.string (strOfNums l)) w := by
  rcases h with h | ⟨b, off, rfl, _, hc⟩
  · subst h
    rw [run_convert_bytes_string w _ _ _ _ _ cap Try.underlying22 Try.underlying5 Try.underlying9]
    cases o with
    | none => simp [Conv.bytesToString, strOfNums]; rfl
    | some ad =>
      have hl : (loadCells ad ([] : List Int).length).run Try.prog w = .ok (([] : List Int).map (Value.int .u8)).toArray w := by
        simpa using run_loadCells_list (P := Try.prog) w ad [] (fun j v hj => by simp at hj)
      rw [run_bytesToString w _ _ cap [] hl, foldl_push_bytes]
      simp [strOfNums, ByteArray.empty, ByteArray.emptyWithCapacity]
      rfl
  · exact run_convert_bytes_arg w _ _ Try.underlying22 Try.underlying5 b off _ cap l rfl hc _ Try.underlying9

theorem str_inj {l1 l2 : List Int} (h1 : isB l1) (h2 : isB l2) : ((strOfNums l1).toList == (strOfNums l2).toList) = decide (l1 = l2) := by
  have e : ∀ l, (strOfNums l).toList = l.map fun n => UInt8.ofNat n.toNat := fun l => by
    rw [← strOfNums_data]; exact ByteArray.toList_eq _
  rw [e, e, Bool.eq_iff_iff, beq_iff_eq, decide_eq_true_eq]
  constructor
  · intro h
    have hlen : l1.length = l2.length := by have := congrArg List.length h; simpa using this
    apply List.ext_getElem hlen
    intro i p q
    have hi := congrArg (fun l => l[i]?) h
    simp [p, q] at hi
    have b1 := h1 _ (List.getElem_mem p)
    have b2 := h2 _ (List.getElem_mem q)
    have h3 := congrArg UInt8.toNat hi
    simp at h3
    omega
  · intro h; rw [h]

set_option maxHeartbeats 400000 in
theorem bytesEqual_any (o1 o2 : Option Addr) (c1 c2 : Nat) (l1 l2 : List Int) (w : World) (h1 : Rd w o1 l1) (h2 : Rd w o2 l2) (b1 : isB l1) (b2 : isB l2) :
    Calls Try.prog 69 #[.slice o1 l1.length c1, .slice o2 l2.length c2] w fun e w' => e = .returned (.bool (decide (l1 = l2))) ∧ w = w' := by
  have k1 := run_conv c1 h1
  have k2 := run_conv c2 h2
  have HE := hide (str_inj b1 b2)
  go_enter Try.func69, Try.ntmps69
  go_wp2
  go_ret
  exact ⟨ret_bool HE.out, rfl⟩

end Go.Proofs.Ytoeoiljddcjphaa

/- Two carriers that read alike are the same to the laws. -/
namespace Go.Proofs.Ytoeoiljddcjphaa
open Go.ChangeShapes Go.WideShapes Go.ChangeAt Go.RowKit Go.Joins
set_option linter.unusedVariables false
set_option linter.unusedSimpArgs false

set_option maxHeartbeats 400000 in
theorem same_eq (o1 o2 : Option Addr) (c1 c2 : Nat) (l : List Int) (w : World) (h1 : Rd w o1 l) (h2 : Rd w o2 l) :
    Calls Try.prog 41 #[.slice o1 l.length c1, .slice o2 l.length c2] w fun e w' => e = .returned (.bool true) ∧ w = w' := by
  have k1 := run_conv c1 h1
  have k2 := run_conv c2 h2
  generalize strOfNums l = S at *
  go_enter Try.func41, Try.ntmps41
  go_wp2
  go_ret
  exact ⟨rfl, rfl⟩

set_option maxRecDepth 100000 in
set_option maxHeartbeats 2000000 in
theorem sameCarrier_eq (v1 v2 : Value) (m : Cm) (w : World) (h1 : RdCm w.heap.size w v1 m) (h2 : RdCm w.heap.size w v2 m) (k1 : capCm v1) (k2 : capCm v2) (hf : fitCm m) :
    Calls Try.prog 14 #[v1, v2] w fun e w' => e = .returned (.bool true) ∧ Below w.heap.size w w' := by
  have HS := hide (fun v W h hc => specCBytes_sh v m W h hc hf)
  have hR1 := h1
  have hR2 := h2
  obtain ⟨a, b, f, s, L, g, pl, st⟩ := m
  obtain ⟨vl, vg, rfl, ⟨o, c, rfl, _⟩, ⟨og, cg, rfl, _⟩⟩ := h1
  obtain ⟨vl', vg', rfl, ⟨o', c', rfl, _⟩, ⟨og', cg', rfl, _⟩⟩ := h2
  dsimp only at *
  generalize carrL ⟨a, b, f, s, L, g, pl, st⟩ = mr at *
  generalize (Cm.ok ⟨a, b, f, s, L, g, pl, st⟩) = okb at *
  have bx : ((w.alloc (.cells #[.int .i64 a, .int .i64 b, .int .i64 f, .int .i64 s, .slice o L.length c, .slice og g.length cg, .int .i64 pl, .int .i64 st] 29)).alloc (.cells #[.int .i64 a, .int .i64 b, .int .i64 f, .int .i64 s, .slice o' L.length c', .slice og' g.length cg', .int .i64 pl, .int .i64 st] 29)).heap[w.heap.size]? = some (.cells #[.int .i64 a, .int .i64 b, .int .i64 f, .int .i64 s, .slice o L.length c, .slice og g.length cg, .int .i64 pl, .int .i64 st] 29 (0, 0)) := (Below.heap_alloc _ _ w.heap.size (by simp)).trans (World.alloc_heap_new w _)
  have by2 : ((w.alloc (.cells #[.int .i64 a, .int .i64 b, .int .i64 f, .int .i64 s, .slice o L.length c, .slice og g.length cg, .int .i64 pl, .int .i64 st] 29)).alloc (.cells #[.int .i64 a, .int .i64 b, .int .i64 f, .int .i64 s, .slice o' L.length c', .slice og' g.length cg', .int .i64 pl, .int .i64 st] 29)).heap[w.heap.size + 1]? = some (.cells #[.int .i64 a, .int .i64 b, .int .i64 f, .int .i64 s, .slice o' L.length c', .slice og' g.length cg', .int .i64 pl, .int .i64 st] 29 (0, 0)) := by
    have := World.alloc_heap_new (w.alloc (.cells #[.int .i64 a, .int .i64 b, .int .i64 f, .int .i64 s, .slice o L.length c, .slice og g.length cg, .int .i64 pl, .int .i64 st] 29)) (.cells #[.int .i64 a, .int .i64 b, .int .i64 f, .int .i64 s, .slice o' L.length c', .slice og' g.length cg', .int .i64 pl, .int .i64 st] 29)
    simpa only [World.size_alloc] using this
  have hB0 : Below w.heap.size w ((w.alloc (.cells #[.int .i64 a, .int .i64 b, .int .i64 f, .int .i64 s, .slice o L.length c, .slice og g.length cg, .int .i64 pl, .int .i64 st] 29)).alloc (.cells #[.int .i64 a, .int .i64 b, .int .i64 f, .int .i64 s, .slice o' L.length c', .slice og' g.length cg', .int .i64 pl, .int .i64 st] 29)) := ((Below.refl _ _).alloc (Nat.le_refl _) _).alloc (by simp) _
  have hsz : ((w.alloc (.cells #[.int .i64 a, .int .i64 b, .int .i64 f, .int .i64 s, .slice o L.length c, .slice og g.length cg, .int .i64 pl, .int .i64 st] 29)).alloc (.cells #[.int .i64 a, .int .i64 b, .int .i64 f, .int .i64 s, .slice o' L.length c', .slice og' g.length cg', .int .i64 pl, .int .i64 st] 29)).heap.size = w.heap.size + 2 := by simp
  have Hs := hide (And.intro bx (And.intro by2 hB0))
  have p0 : ((w.alloc (.cells #[.int .i64 a, .int .i64 b, .int .i64 f, .int .i64 s, .slice o L.length c, .slice og g.length cg, .int .i64 pl, .int .i64 st] 29)).alloc (.cells #[.int .i64 a, .int .i64 b, .int .i64 f, .int .i64 s, .slice o' L.length c', .slice og' g.length cg', .int .i64 pl, .int .i64 st] 29)).cell? ⟨w.heap.size, 0, none⟩ = some (.int .i64 a) := block_cell bx 0 _ rfl
  have p1 : ((w.alloc (.cells #[.int .i64 a, .int .i64 b, .int .i64 f, .int .i64 s, .slice o L.length c, .slice og g.length cg, .int .i64 pl, .int .i64 st] 29)).alloc (.cells #[.int .i64 a, .int .i64 b, .int .i64 f, .int .i64 s, .slice o' L.length c', .slice og' g.length cg', .int .i64 pl, .int .i64 st] 29)).cell? ⟨w.heap.size, 1, none⟩ = some (.int .i64 b) := block_cell bx 1 _ rfl
  have p2 : ((w.alloc (.cells #[.int .i64 a, .int .i64 b, .int .i64 f, .int .i64 s, .slice o L.length c, .slice og g.length cg, .int .i64 pl, .int .i64 st] 29)).alloc (.cells #[.int .i64 a, .int .i64 b, .int .i64 f, .int .i64 s, .slice o' L.length c', .slice og' g.length cg', .int .i64 pl, .int .i64 st] 29)).cell? ⟨w.heap.size, 2, none⟩ = some (.int .i64 f) := block_cell bx 2 _ rfl
  have p3 : ((w.alloc (.cells #[.int .i64 a, .int .i64 b, .int .i64 f, .int .i64 s, .slice o L.length c, .slice og g.length cg, .int .i64 pl, .int .i64 st] 29)).alloc (.cells #[.int .i64 a, .int .i64 b, .int .i64 f, .int .i64 s, .slice o' L.length c', .slice og' g.length cg', .int .i64 pl, .int .i64 st] 29)).cell? ⟨w.heap.size, 3, none⟩ = some (.int .i64 s) := block_cell bx 3 _ rfl
  have p4 : ((w.alloc (.cells #[.int .i64 a, .int .i64 b, .int .i64 f, .int .i64 s, .slice o L.length c, .slice og g.length cg, .int .i64 pl, .int .i64 st] 29)).alloc (.cells #[.int .i64 a, .int .i64 b, .int .i64 f, .int .i64 s, .slice o' L.length c', .slice og' g.length cg', .int .i64 pl, .int .i64 st] 29)).cell? ⟨w.heap.size, 4, none⟩ = some (.slice o L.length c) := block_cell bx 4 _ rfl
  have p5 : ((w.alloc (.cells #[.int .i64 a, .int .i64 b, .int .i64 f, .int .i64 s, .slice o L.length c, .slice og g.length cg, .int .i64 pl, .int .i64 st] 29)).alloc (.cells #[.int .i64 a, .int .i64 b, .int .i64 f, .int .i64 s, .slice o' L.length c', .slice og' g.length cg', .int .i64 pl, .int .i64 st] 29)).cell? ⟨w.heap.size, 5, none⟩ = some (.slice og g.length cg) := block_cell bx 5 _ rfl
  have p6 : ((w.alloc (.cells #[.int .i64 a, .int .i64 b, .int .i64 f, .int .i64 s, .slice o L.length c, .slice og g.length cg, .int .i64 pl, .int .i64 st] 29)).alloc (.cells #[.int .i64 a, .int .i64 b, .int .i64 f, .int .i64 s, .slice o' L.length c', .slice og' g.length cg', .int .i64 pl, .int .i64 st] 29)).cell? ⟨w.heap.size, 6, none⟩ = some (.int .i64 pl) := block_cell bx 6 _ rfl
  have p7 : ((w.alloc (.cells #[.int .i64 a, .int .i64 b, .int .i64 f, .int .i64 s, .slice o L.length c, .slice og g.length cg, .int .i64 pl, .int .i64 st] 29)).alloc (.cells #[.int .i64 a, .int .i64 b, .int .i64 f, .int .i64 s, .slice o' L.length c', .slice og' g.length cg', .int .i64 pl, .int .i64 st] 29)).cell? ⟨w.heap.size, 7, none⟩ = some (.int .i64 st) := block_cell bx 7 _ rfl
  clear bx by2 hB0
  go_enter Try.func14, Try.ntmps14
  go_wp2_with fail
  obtain ⟨bx, by2, hB0⟩ := Hs.out
  clear Hs p0 p1 p2 p3 p4 p5 p6 p7
  generalize ((w.alloc (.cells #[.int .i64 a, .int .i64 b, .int .i64 f, .int .i64 s, .slice o L.length c, .slice og g.length cg, .int .i64 pl, .int .i64 st] 29)).alloc (.cells #[.int .i64 a, .int .i64 b, .int .i64 f, .int .i64 s, .slice o' L.length c', .slice og' g.length cg', .int .i64 pl, .int .i64 st] 29)) = w0 at *
  refine (HS.out _ w0 ((hR1.kept hB0 (Nat.le_refl _)).le hB0.size) k1).mono ?_
  rintro e w1 ⟨x1, rfl, in1, hb1⟩
  have B1 : Below w.heap.size w w1 := hB0.trans (hb1.mono hB0.size)
  have by1 := (hb1.block _ (by omega)).trans by2
  obtain ⟨ox, cx, rfl, rx⟩ := in1.rd
  have p0 : w1.cell? ⟨w.heap.size + 1, 0, none⟩ = some (.int .i64 a) := block_cell by1 0 _ rfl
  have p1 : w1.cell? ⟨w.heap.size + 1, 1, none⟩ = some (.int .i64 b) := block_cell by1 1 _ rfl
  have p2 : w1.cell? ⟨w.heap.size + 1, 2, none⟩ = some (.int .i64 f) := block_cell by1 2 _ rfl
  have p3 : w1.cell? ⟨w.heap.size + 1, 3, none⟩ = some (.int .i64 s) := block_cell by1 3 _ rfl
  have p4 : w1.cell? ⟨w.heap.size + 1, 4, none⟩ = some (.slice o' L.length c') := block_cell by1 4 _ rfl
  have p5 : w1.cell? ⟨w.heap.size + 1, 5, none⟩ = some (.slice og' g.length cg') := block_cell by1 5 _ rfl
  have p6 : w1.cell? ⟨w.heap.size + 1, 6, none⟩ = some (.int .i64 pl) := block_cell by1 6 _ rfl
  have p7 : w1.cell? ⟨w.heap.size + 1, 7, none⟩ = some (.int .i64 st) := block_cell by1 7 _ rfl
  have HX := hide (And.intro in1 B1)
  clear in1 B1 by1 rx hb1 hB0 bx by2
  go_wp2_with fail
  obtain ⟨in1, B1⟩ := HX.out
  clear HX p0 p1 p2 p3 p4 p5 p6 p7
  refine (HS.out _ w1 ((hR2.kept B1 (Nat.le_refl _)).le B1.size) k2).mono ?_
  rintro e w2 ⟨x2, rfl, in2, hb2⟩
  have B2 := B1.trans (hb2.mono B1.size)
  have in1' : InB w0.heap.size w1.heap.size w2 (.slice ox mr.length cx) mr := in1.step (Stp.of (lo := 0) (hi := 0) hb2) (.inl (Nat.zero_le _))
  obtain ⟨oy, cy, rfl, ry⟩ := in2.rd
  obtain ⟨ox', cx', ex, rx⟩ := in1'.rd
  injection ex with ex1 _ ex3
  subst ex1 ex3
  have r1 : Rd w2 ox mr := RdB_rd.1 (rx.le hb2.size)
  have r2 : Rd w2 oy mr := RdB_rd.1 ry
  have HQ := hide (same_eq ox oy cx cy mr w2 r1 r2)
  have HB := hide B2
  clear in1 in1' in2 rx ry r1 r2 hb2 B1 B2
  cases okb <;> (go_wp2_with fail; refine HQ.out.mono ?_; rintro e w3 ⟨rfl, rfl⟩; go_wp2; go_ret; exact ⟨rfl, HB.out⟩)

end Go.Proofs.Ytoeoiljddcjphaa

