/- Several texts in one: SCBytes2, SCBytes3, ShCB. -/
import Derived.Test.YtoeoiljddcjphaaDoorQCarriers24
import Derived.Test.YtoeoiljddcjphaaDoorQCarriers30
/- A carrier's bytes, the program's. -/
namespace Go.Proofs.YtoeoiljddcjphaaDoor
open Go.ChangeShapes Go.WideShapes Go.ChangeAt Go.RowKit Go.Joins Go.Shelf
set_option linter.unusedVariables false
set_option linter.unusedSimpArgs false

set_option maxHeartbeats 1000000 in
theorem appendWord_wide (base : Nat) (v : Value) (l : List Int) (n : Int) (w : World) (hv : ownB w base v l) (hbase : base ≤ w.heap.size) (h0 : 0 ≤ n) (h1 : n ≤ 100000) (hlen : l.length ≤ 1048576) :
  Calls Tryd.prog 56 #[v, .int .i64 n] w fun e w' => ∃ v', e = .returned v' ∧ ownB w' base v' (l ++ [n / 256 % 256, n % 256]) ∧ w.grownBy w' v.ownBlock := by
 obtain ⟨i0, hi, hz0, hz1, hz2⟩ := info_parts infoU8
 have hs2 : 0 ≤ n / 256 ∧ n / 256 ≤ 400 := by omega
 go_enter Tryd.func56, Tryd.ntmps56
 go_wp2_with (at_builtin; refine wpList_append_own _ rfl _ _ 22 rfl base 5 i0 (.int .u8 0) 1 1 Tryd.underlying22 hi hz0 hz1 hz2 rfl (by decide) v _ _ rfl (hv.alloc _) ⟨w.heap.size, 0, none⟩ 2 2 [.int .u8 (n / 256 % 256), .int .u8 (n % 256)] rfl rfl ?c1 ?c2 ?c3 ?c4 ?c5 ?_)
 case c1 => exact cells_new w #[.int .u8 (n / 256 % 256), .int .u8 (n % 256)] 5
 case c2 => exact ints_oneCell .u8 [n / 256 % 256, n % 256]
 case c3 => unfold maxLen; omega
 case c4 => omega
 case c5 => simp; omega
 intro v' w1 hown hgrow _
 have HO : Hid (ownB w1 base v' (l ++ [n / 256 % 256, n % 256])) := by
  unfold Hid ownB; simpa using hown
 have HG : Hid (w.grownBy w1 v.ownBlock) := (World.grownBy_alloc w _ _).trans hgrow
 clear hown hgrow hv
 go_wp2
 go_ret
 exact ⟨_, rfl, HO.out, HG.out⟩

set_option maxHeartbeats 1000000 in
theorem appendThree_any (base : Nat) (v : Value) (l : List Int) (n : Int) (w : World) (hv : ownB w base v l) (hbase : base ≤ w.heap.size) (h0 : 0 ≤ n) (h1 : n ≤ 100000) (hlen : l.length ≤ 1000000) :
  Calls Tryd.prog 26 #[v, .int .i64 n] w fun e w' => ∃ v', e = .returned v' ∧ ownB w' base v' (l ++ [n / 65536, n / 256 % 256, n % 256]) ∧ w.grownBy w' v.ownBlock := by
 obtain ⟨i0, hi, hz0, hz1, hz2⟩ := info_parts infoU8
 have hs2 : 0 ≤ n / 65536 ∧ n / 65536 ≤ 1 := by omega
 go_enter Tryd.func26, Tryd.ntmps26
 go_wp2_with (at_builtin; refine wpList_append_own_at _ rfl _ _ 22 rfl base 5 i0 (.int .u8 0) 1 1 Tryd.underlying22 hi hz0 hz1 hz2 rfl (by decide) v _ _ rfl (hv.alloc _) ⟨w.heap.size, 0, none⟩ 1 1 [.int .u8 (n / 65536)] rfl rfl ?c1 ?c2 ?c3 ?c4 ?c5 ?_)
 case c1 => exact cells_new w #[.int .u8 (n / 65536)] 5
 case c2 => exact ints_oneCell .u8 [n / 65536]
 case c3 => unfold maxLen; omega
 case c4 => omega
 case c5 => simp; omega
 intro v' w1 hown hgrow _ hat
 have HO : Hid (ownB w1 base v' (l ++ [n / 65536])) := by
  unfold Hid ownB; simpa using hown
 have HG : Hid (w.grownBy w1 v.ownBlock) := (World.grownBy_alloc w _ _).trans hgrow
 have HA := hide hat
 have hs1 : base ≤ w1.heap.size := Nat.le_trans hbase HG.out.size
 clear hown hgrow hv hat
 go_wp2_with fail
 refine (appendWord_wide base v' _ n w1 HO.out hs1 h0 h1 (by simp; omega)).mono ?_
 rintro e w2 ⟨v2, rfl, hv2, hb2⟩
 have hgg : w.grownBy w2 v.ownBlock := ⟨hb2.os.trans HG.out.os, hb2.tape.trans HG.out.tape, hb2.output.trans HG.out.output, Nat.le_trans HG.out.size hb2.size, fun q hq hne => (hb2.block q (Nat.lt_of_lt_of_le hq HG.out.size) (fun e => by
  rcases HA.out with h | h
  ·exact hne (e.trans h)
  ·rw [h] at e; injection e with e; (try simp at e); omega)).trans (HG.out.block q hq hne)⟩
 have HR := hide (And.intro hv2 hgg)
 clear hv2 hb2 hgg
 go_wp2
 go_ret
 exact ⟨_, rfl, by have := HR.out.1; simpa using this, HR.out.2⟩

end Go.Proofs.YtoeoiljddcjphaaDoor

/- A carrier's bytes, the program's, where it may be. -/
namespace Go.Proofs.YtoeoiljddcjphaaDoor
open Go.ChangeShapes Go.WideShapes Go.ChangeAt Go.RowKit Go.Joins Go.Shelf
set_option linter.unusedVariables false
set_option linter.unusedSimpArgs false

attribute [local go_sem] Oper.semAt_some

/-- A stop's byte, whatever it holds. -/
def stB (x : Stop) : Int := wrap64 (wrap64 (16 * x.1.2) + x.1.1) % 256
theorem own_shape {w : World} {base : Nat} {e : TypeId} {size : Nat} {v : Value} {n : Nat} {xs : List Value} (h : w.ownsRow base e size v n xs) : ∃ a c, v = .slice a n c := by
 rcases h.2 with ⟨h1, h2⟩ | ⟨g, cap, cur, h1, _⟩
 ·exact ⟨none, 0, by rw [h1, h2]⟩
 ·exact ⟨_, _, h1⟩
theorem wrap64_small (n : Int) (h0 : 0 ≤ n) (h1 : n < 1000000) : wrap64 n = n := by
 unfold wrap64; omega
theorem stB_upto {a b f s : Int} {n : Nat} {g : List (Int × Int)} {pl st : Int} (hok : carrierOkB a b f s n g pl st = true) : (upto (stopAt g pl) g.length).map stB = segTo g g.length := by
 unfold upto segTo
 rw [List.take_length, List.map_map]
 apply List.ext_getElem?
 intro i
 by_cases hi : i < g.length
 ·obtain ⟨x, y, hxy⟩ : ∃ x y, g.getD i (0, 0) = (x, y) := ⟨_, _, rfl⟩
  have hs := carrier_seg hok hi hxy
  have hg : g[i]? = some (x, y) := by
   rw [List.getElem?_eq_getElem hi, ← hxy]; simp [hi]
  have e : stB (stopAt g pl i) = 16 * y + x := by
   unfold stB stopAt
   rw [hg]
   simp only [Option.getD_some]
   rw [wrap64_small (16 * y) (by omega) (by omega), wrap64_small _ (by omega) (by omega)]
   omega
  have hg2 : g[i] = (x, y) := by rw [List.getElem?_eq_getElem hi] at hg; injection hg
  simp [hi, e, segB, hg2]
 ·simp [hi]
theorem carrNeByte : (29 : TypeId) ≠ 5 := by decide
theorem bytesNe : (22 : TypeId) ≠ 5 := by decide

set_option maxRecDepth 100000 in
set_option maxHeartbeats 4000000 in
theorem implCBytes_yes (a b f s : Int) (o : Option Addr) (cap bb off cg : Nat) (l : List Int) (g : List (Int × Int)) (pl st : Int) (w : World) (hR : Rd w o l) (hn : o = none → cap = 0) (hB8 : isB l) (hgl : g.length ≤ 1048576) (hbb : bb < w.heap.size)
  (hcell : ∀ i, i < g.length → w.cell? ⟨bb, off + i * 2, none⟩ = some (.int .i64 (g.getD i (0, 0)).1) ∧ w.cell? ⟨bb, off + i * 2 + 1, none⟩ = some (.int .i64 (g.getD i (0, 0)).2)) (hok : carrierOkB a b f s l.length g pl st = true) :
  Calls Tryd.prog 6 #[crr a b f s (.slice o l.length cap) (.slice (some ⟨bb, off, none⟩) g.length cg) pl st] w fun e w' => ∃ v, e = .returned (.tuple #[v, .bool true]) ∧ ownB w' w.heap.size v (headL g.length pl st ++ segTo g g.length ++ packetL a b f s l) ∧ Below w.heap.size w w' := by
 obtain ⟨hpk, h2, h3, h4, h5, h6, h7⟩ := carrierOkB_head hok
 obtain ⟨hl16, qa, qb, qf, qs⟩ := packetOk_bd hpk
 refine (callsIn_wide (n := 4)).1 ?_
 refine callsIn_of_wp_marks Tryd.func6 rfl trivial ?_ rfl
 simp only [Tryd.ntmps6, List.size_toArray, List.length_cons, List.length_nil, Nat.reduceAdd, Nat.reduceSub, Array.replicate_succ, Array.replicate_zero, List.push_toArray, List.append_toArray, List.nil_append, List.cons_append]
 have hb0 : Below w.heap.size w (w.alloc (.cells (crrCells a b f s (.slice o l.length cap) (.slice (some ⟨bb, off, none⟩) g.length cg) pl st) 29)) := (Below.refl _ _).alloc (Nat.le_refl _) _
 have hc := implCarrierOk_any a b f s o (some ⟨bb, off, none⟩) l.length cap cg g pl st (w.alloc (.cells (crrCells a b f s (.slice o l.length cap) (.slice (some ⟨bb, off, none⟩) g.length cg) pl st) 29)) (by unfold maxLen; omega) (by unfold maxLen; omega) (RdG.kept (.inr ⟨bb, off, rfl, hbb, hcell⟩) hb0)
 rw [hok] at hc
 have hx0 := World.alloc_heap_new w (.cells (crrCells a b f s (.slice o l.length cap) (.slice (some ⟨bb, off, none⟩) g.length cg) pl st) 29)
 have Hb0 := hide hb0
 have Hx0 := hide hx0
 clear hb0 hx0
 gi_wp2_with (refine ⟨trivial, ?_⟩; gi_at_call 8; refine (callsIn_wide.2 hc).mono ?_; rintro e w1 ⟨rfl, hb1⟩; have hx1 := (hb1.block w.heap.size (by simp)).trans Hx0.out; have x0 := block_cell hx1 0 _ rfl; have x1 := block_cell hx1 1 _ rfl; have x2 := block_cell hx1 2 _ rfl; have x3 := block_cell hx1 3 _ rfl; have x4 := block_cell hx1 4 _ rfl; have Hx1 := hide hx1; clear hx1; have hz1 : w.heap.size < w1.heap.size := (by have h := hb1.size; simp at h; omega); have Hb1 := hide (Hb0.out.trans (hb1.mono (by simp))); clear hb1)
 refine ⟨trivial, ?_⟩
 clear x0 x1 x2 x3 x4 Hb0 Hx0
 have hpb := implPacketBytes_any a b f s o cap l w1 (hR.kept Hb1.out) hn hB8 (by unfold maxLen; omega)
 rw [hpk, bytesL, if_pos hpk] at hpb
 refine (callsIn_wide.2 hpb).mono ?_
 rintro e w2 ⟨vp, rfl, hvp, hb2⟩
 have hpn := packetL_len a b f s l hl16
 have hcap := InRow.cap (InB.of hvp)
 obtain ⟨op, cp, hvpe, hRp⟩ := hvp.open
 subst hvpe
 have hnp : op = none → cp = 0 := fun h => hcap _ cp (by rw [h])
 have hx2 := (hb2.block _ hz1).trans Hx1.out
 have hz2 : w.heap.size < w2.heap.size := Nat.lt_of_lt_of_le hz1 hb2.size
 have HB2 := hide (Hb1.out.trans (hb2.mono Hb1.out.size))
 have HRp := hide hRp
 have x5 : w2.cell? ⟨w.heap.size, 5, none⟩ = some (.slice (some ⟨bb, off, none⟩) g.length cg) := block_cell hx2 5 _ rfl
 have HX2 := hide hx2
 clear hcap hvp hRp hx2 Hx1 Hb1 hb2 hc hpb
 obtain ⟨N, hN⟩ : ∃ N, (packetL a b f s l).length = N := ⟨_, rfl⟩
 have HN := hide hN
 rw [hN] at hpn ⊢
 clear hN
 obtain ⟨i0, hi, hz0, hz1', hz2'⟩ := info_parts infoU8
 gi_wp2_with (refine wpListIn_make_own _ rfl _ _ 22 rfl w2.heap.size 5 i0 (.int .u8 0) 1 Tryd.underlying22 hi hz0 hz1' _ _ _ (5 + g.length + N) rfl rfl ?hC ?b2 ?b3 ?b4 ?_)
 case hC => omega
 case b2 => rw [hz2']; omega
 case b3 => unfold maxLen; omega
 case b4 => exact Nat.le_refl _
 intro w3 hv3 hg3
 have hB3 : Below w2.heap.size w2 w3 := (Below.refl _ _).grown hg3 (Nat.le_refl _) (fun k h => by cases h)
 have hs3 : w2.heap.size ≤ w3.heap.size := hB3.size
 have hx3 := (hB3.block _ hz2).trans HX2.out
 have hx3a : (w3.alloc (.cells #[.slice (some ⟨w2.heap.size, 0, none⟩) 0 (5 + g.length + N)] 22)).heap[w.heap.size]? = _ := (Below.heap_alloc w3 _ _ (by omega)).trans hx3
 have y5 : (w3.alloc (.cells #[.slice (some ⟨w2.heap.size, 0, none⟩) 0 (5 + g.length + N)] 22)).cell? ⟨w.heap.size, 5, none⟩ = some (.slice (some ⟨bb, off, none⟩) g.length cg) := block_cell hx3a 5 _ rfl
 have y6 : (w3.alloc (.cells #[.slice (some ⟨w2.heap.size, 0, none⟩) 0 (5 + g.length + N)] 22)).cell? ⟨w.heap.size, 6, none⟩ = some (.int .i64 pl) := block_cell hx3a 6 _ rfl
 have bP := Boxed.new w3 22 (.slice (some ⟨w2.heap.size, 0, none⟩) 0 (5 + g.length + N))
 have hv3a := World.ownsRow.alloc hv3 (.cells #[.slice (some ⟨w2.heap.size, 0, none⟩) 0 (5 + g.length + N)] 22)
 have HF := hide (World.ownsRow.alloc hv3a (.cells #[.int .u8 (g.length : Int), .int .u8 pl] 5))
 have HP := hide (And.intro bP (And.intro hv3a (And.intro hx3a hB3)))
 have HC : Hid (∀ j u, ([.int .u8 (g.length : Int), .int .u8 pl] : List Value)[j]? = some u → ((w3.alloc (.cells #[.slice (some ⟨w2.heap.size, 0, none⟩) 0 (5 + g.length + N)] 22)).alloc (.cells #[.int .u8 (g.length : Int), .int .u8 pl] 5)).cell? ((⟨w3.heap.size + 1, 0, none⟩ : Addr).add j) = some u) := by
  have h := cells_new (w3.alloc (.cells #[.slice (some ⟨w2.heap.size, 0, none⟩) 0 (5 + g.length + N)] 22)) #[.int .u8 (g.length : Int), .int .u8 pl] 5
  simp only [World.size_alloc] at h
  exact h
 clear hv3 hg3 hB3 hx3 hx3a bP hv3a x5
 gi_wp2_with (refine wpListIn_append_own _ rfl _ _ 22 rfl w2.heap.size 5 i0 (.int .u8 0) 1 1 Tryd.underlying22 hi hz0 hz1' hz2' rfl (by decide) _ _ _ rfl HF.out ⟨w3.heap.size + 1, 0, none⟩ 2 2 [.int .u8 (g.length : Int), .int .u8 pl] rfl rfl HC.out ?h1 ?b1 ?b2 ?b3 ?_)
 case h1 => exact ints_oneCell .u8 [(g.length : Int), pl]
 case b1 => unfold maxLen; omega
 case b2 => omega
 case b3 => simp; omega
 intro v4 w4 hown4 hgr4 _
 obtain ⟨g4, c4, rfl⟩ := ownsRow_succ (k := 1) hown4
 obtain ⟨q1, q2, q3, q4⟩ := HP.out
 obtain ⟨b1, b2, b3, b4, b5⟩ := Boxed.appended (n₀ := w2.heap.size) (tmp := .cells #[.int .u8 (g.length : Int), .int .u8 pl] 5) q1 bytesNe q2 (by simp; omega) hs3 hown4 hgr4
 have cP := b1.cell
 have fP := b1.frozen
 have hB4 : Below w2.heap.size w2 (w4.setCell ⟨w3.heap.size, 0, none⟩ (.slice (some ⟨g4, 0, none⟩) 2 c4)) := (q4.alloc hs3 _).trans b5
 have hx4 := (b5.block _ hz2).trans q3
 have hsz4 : w3.heap.size < (w4.setCell ⟨w3.heap.size, 0, none⟩ (.slice (some ⟨g4, 0, none⟩) 2 c4)).heap.size := b2.lt
 obtain ⟨W4, hW4⟩ : ∃ W4, w4.setCell ⟨w3.heap.size, 0, none⟩ (.slice (some ⟨g4, 0, none⟩) 2 c4) = W4 := ⟨_, rfl⟩
 rw [hW4] at b2 b3 hB4 hx4 hsz4
 have z5 : W4.cell? ⟨w3.heap.size, 0, none⟩ = some (.slice (some ⟨g4, 0, none⟩) 2 c4) := b2.cell
 have z7 : W4.cell? ⟨w.heap.size, 7, none⟩ = some (.int .i64 st) := block_cell hx4 7 _ rfl
 have HK := hide (And.intro b2 (And.intro b3 (And.intro hB4 hx4)))
 clear b1 b2 b3 b4 b5 hB4 hx4 q1 q2 q3 q4 HP HF HC hown4 hgr4 y5 y6
 gi_wp2
 refine ⟨trivial, ?_⟩
 obtain ⟨b2, b3, hB4, hx4⟩ := HK.out
 have hv4 : ownB W4 w2.heap.size (.slice (some ⟨g4, 0, none⟩) 2 c4) [(g.length : Int), pl] := b3
 refine (callsIn_wide.2 (appendThree_any w2.heap.size _ _ st W4 hv4 hB4.size h6 h7 (by simp))).mono ?_
 rintro e w5 ⟨v5, rfl, hv5, hg5⟩
 have hv5' : ownB w5 w2.heap.size v5 (headL g.length pl st) := hv5
 have b5 : Boxed w5 w3.heap.size 22 (.slice (some ⟨g4, 0, none⟩) 2 c4) := b2.kept hg5 (b2.not_row bytesNe b3)
 have hx5 := (hg5.block w.heap.size (by have := hB4.size; omega) (fun e => by have := (hv4.lt _ e.symm).1; omega)).trans hx4
 have hB5 : Below w2.heap.size w2 w5 := hB4.grown hg5 hB4.size (fun k h => (hv4.lt k h).1)
 obtain ⟨g5, c5, hv5e, hgg5⟩ := ownB.pos hv5' (by simp [headL])
 subst hv5e
 have cP5 := b5.cell
 have fP5 := b5.frozen
 have n5 : Boxed (w5.setCell ⟨w3.heap.size, 0, none⟩ (.slice (some ⟨g5, 0, none⟩) (headL g.length pl st).length c5)) w3.heap.size 22 (.slice (some ⟨g5, 0, none⟩) (headL g.length pl st).length c5) := b5.set _
 have o5 : ownB (w5.setCell ⟨w3.heap.size, 0, none⟩ (.slice (some ⟨g5, 0, none⟩) (headL g.length pl st).length c5)) w2.heap.size (.slice (some ⟨g5, 0, none⟩) (headL g.length pl st).length c5) (headL g.length pl st) := World.ownsRow.kept hv5' (grownBy_setCell' w5 w3.heap.size _) (.inr (b5.not_row bytesNe hv5').symm)
 have hB6 : Below w2.heap.size w2 (w5.setCell ⟨w3.heap.size, 0, none⟩ (.slice (some ⟨g5, 0, none⟩) (headL g.length pl st).length c5)) := hB5.setCell (p := ⟨w3.heap.size, 0, none⟩) hs3 _
 have hx6 : (w5.setCell ⟨w3.heap.size, 0, none⟩ (.slice (some ⟨g5, 0, none⟩) (headL g.length pl st).length c5)).heap[w.heap.size]? = _ := (Below.heap_setCell w5 ⟨w3.heap.size, 0, none⟩ _ w.heap.size (by show w.heap.size ≠ w3.heap.size; omega)).trans hx5
 have hl5 : (headL g.length pl st).length = 5 := rfl
 rw [hl5] at n5 o5 hB6 hx6 ⊢
 clear hl5
 obtain ⟨W5, hW5⟩ : ∃ W5, w5.setCell ⟨w3.heap.size, 0, none⟩ (.slice (some ⟨g5, 0, none⟩) 5 c5) = W5 := ⟨_, rfl⟩
 rw [hW5] at n5 o5 hB6 hx6
 have s0 := block_cell hx6 0 _ rfl
 have s1 := block_cell hx6 1 _ rfl
 have s2 := block_cell hx6 2 _ rfl
 have s3 := block_cell hx6 3 _ rfl
 have s4 := block_cell hx6 4 _ rfl
 have s5 := block_cell hx6 5 _ rfl
 have s6 := block_cell hx6 6 _ rfl
 have s7 := block_cell hx6 7 _ rfl
 have hP5 : w3.heap.size < W5.heap.size := n5.lt
 have HM := hide (And.intro n5 (And.intro o5 hB6))
 clear b2 b3 hB4 hx4 hv4 hv5 hv5' hg5 hx5 hB5 b5 n5 o5 hB6 hx6 HK z5 z7 cP fP HX2 hgg5
 gi_wp2
 refine ⟨trivial, ?_⟩
 refine (stops_in Fence.wide (4 - 1) trivial rfl _ _ _ _ _ _ _ _ _).mono ?_
 rintro e w' ⟨rfl, rfl⟩
 clear s0 s1 s2 s3 s4 s5 s6 s7 cP5 fP5
 obtain ⟨n5, o5, hB6⟩ := HM.out
 have bP0 := Boxed.alloc n5 (.cells (crrCells a b f s (.slice o l.length cap) (.slice (some ⟨bb, off, none⟩) g.length cg) pl st) 29)
 have oP0 := World.ownsRow.alloc o5 (.cells (crrCells a b f s (.slice o l.length cap) (.slice (some ⟨bb, off, none⟩) g.length cg) pl st) 29)
 have hS0 := World.alloc_heap_new W5 (.cells (crrCells a b f s (.slice o l.length cap) (.slice (some ⟨bb, off, none⟩) g.length cg) pl st) 29)
 have hB0 : Below w2.heap.size w2 (W5.alloc (.cells (crrCells a b f s (.slice o l.length cap) (.slice (some ⟨bb, off, none⟩) g.length cg) pl st) 29)) := hB6.alloc hB6.size _
 have hsz : (W5.alloc (.cells (crrCells a b f s (.slice o l.length cap) (.slice (some ⟨bb, off, none⟩) g.length cg) pl st) 29)).heap.size = W5.heap.size + 1 := by simp
 gi_wp2
 generalize (W5.alloc (.cells (crrCells a b f s (.slice o l.length cap) (.slice (some ⟨bb, off, none⟩) g.length cg) pl st) 29)) = W0 at *
 have hbw : bb < w2.heap.size := by omega
 have hcellW : ∀ j, j < g.length → W0.cell? ⟨bb, off + j * 2, none⟩ = some (.int .i64 (g[j]?.getD (0, 0)).1) ∧ W0.cell? ⟨bb, off + j * 2 + 1, none⟩ = some (.int .i64 (g[j]?.getD (0, 0)).2) := fun j hj => by
  have := hcell j hj
  rw [List.getD_eq_getElem?_getD] at this
  have hB := HB2.out.trans (hB0.mono (by omega))
  exact ⟨(hB.cell (p := ⟨bb, off + j * 2, none⟩) hbb).trans this.1, (hB.cell (p := ⟨bb, off + j * 2 + 1, none⟩) hbb).trans this.2⟩
 refine wpIn_rangeFunc_ownH rfl (by decide) (gf := 57) (lb := #[.pointer (some ⟨W5.heap.size, 0, none⟩)]) rfl trivial (enters_of Tryd.func57 (by kernel_rfl) rfl)
  (stops_stops Fence.wide (4 - 1) trivial rfl (by decide) W5.heap.size w2.heap.size bb off cg g pl hgl W0 (by omega) hbw (by omega) (block_cell hS0 5 _ rfl) (block_cell hS0 6 _ rfl) hcellW)
  (fun h k => KpB.trans h k)
  (fun W l ob ob' hl' hw' hn1 hn2 => ⟨belowK_b (w := W0) (by omega) W l ob ob' hl' hw' hn1 hn2, (grownBy_putObj' W l ob').block _ (by have := (Array.getElem?_eq_some_iff.1 hw').1; omega) (by simp; omega)⟩)
  (Below.refl _ _) (fun _ => rfl)
  (fun pre W => ((∃ v, Boxed W w3.heap.size 22 v ∧ W.ownsRow w2.heap.size 5 1 v (headL g.length pl st ++ pre.map stB).length ((headL g.length pl st ++ pre.map stB).map (Value.int .u8)) ∧ True) ∧ W.heap[W5.heap.size]? = some (.cells (crrCells a b f s (.slice o l.length cap) (.slice (some ⟨bb, off, none⟩) g.length cg) pl st) 29 (0, 0)) ∧ W5.heap.size + 1 ≤ W.heap.size) ∧ Below w2.heap.size w2 W)
  (fun c pre W => False ∧ Below w2.heap.size w2 W)
  (OwnFrom.and (Own.from (fun q A B row hs hg hr => by obtain ⟨e1, e4, e5⟩ := hs; exact ⟨holdsRow_own w2.heap.size w3.heap.size 22 5 1 (fun pre => (headL g.length pl st ++ pre.map stB).length) (fun pre => (headL g.length pl st ++ pre.map stB).map (Value.int .u8)) (fun _ _ => True) q A B row e1 hg hr, block_own e4 hg hr, Nat.le_trans e5 hg.size⟩) _) (ownFrom_below (Nat.le_refl _) (by omega)))
  (fun c => OwnFrom.and (Own.from (fun q A B row hs hg hr => hs) _) (ownFrom_below (Nat.le_refl _) (by omega)))
  ⟨⟨⟨_, bP0, by simpa using oP0, trivial⟩, hS0, by omega⟩, hB0⟩
  (fun x a' W => ∃ Bx, W5.heap.size < Bx ∧ W.heap[Bx]? = some (.cells #[.int .i64 x.1.1, .int .i64 x.1.2] 62 (0, 0)) ∧ a' = { tmps := #[crr a b f s (.slice o l.length cap) (.slice (some ⟨bb, off, none⟩) g.length cg) pl st, .pointer (some ⟨w.heap.size, 0, none⟩), .slice none 0 0, .bool false, .slice op N cp, .bool true, .pointer (some ⟨w3.heap.size, 0, none⟩), .pointer (some ⟨Bx, 0, none⟩), .agg #[.int .i64 a, .int .i64 b, .int .i64 f, .int .i64 s, .slice o l.length cap, .slice (some ⟨bb, off, none⟩) g.length cg, .int .i64 pl, .int .i64 st], .bool true, .bool false, .tuple #[.slice op N cp, .bool true], .pointer (some ⟨w.heap.size, 0, none⟩), .agg #[.int .i64 a, .int .i64 b, .int .i64 f, .int .i64 s, .slice o l.length cap], .tuple #[.slice op N cp, .bool true], .slice op N cp, .bool true, .pointer (some ⟨w.heap.size, 5, none⟩), .slice (some ⟨bb, off, none⟩) g.length cg, .int .i64 (g.length : Int), .int .i64 (5 + (g.length : Int)), .slice op N cp, .int .i64 (N : Int), .int .i64 (5 + (g.length : Int) + (N : Int)), .slice (some ⟨w2.heap.size, 0, none⟩) 0 (5 + g.length + N), .slice (some ⟨w2.heap.size, 0, none⟩) 0 (5 + g.length + N), .pointer (some ⟨w.heap.size, 5, none⟩), .slice (some ⟨bb, off, none⟩) g.length cg, .int .i64 (g.length : Int), .int .u8 (g.length : Int), .pointer (some ⟨w.heap.size, 6, none⟩), .int .i64 pl, .int .u8 pl, .slice (some ⟨w3.heap.size + 1, 0, none⟩) 2 2, .slice (some ⟨g4, 0, none⟩) 2 c4, .slice (some ⟨g4, 0, none⟩) 2 c4, .pointer (some ⟨w.heap.size, 7, none⟩), .int .i64 st, .slice (some ⟨g5, 0, none⟩) 5 c5, .agg #[.int .i64 a, .int .i64 b, .int .i64 f, .int .i64 s, .slice o l.length cap, .slice (some ⟨bb, off, none⟩) g.length cg, .int .i64 pl, .int .i64 st], .func (.func 57) #[] #[.pointer (some ⟨W5.heap.size, 0, none⟩)], seg x.1.1 x.1.2, .bool x.2, undef, undef, undef, undef, undef, undef, undef, undef, undef, undef, undef, undef, undef], defers := [] })
  (fun x a' _ X Y row hs hg hr => by obtain ⟨Bx, e1, e2, e3⟩ := hs; exact ⟨Bx, e1, block_own e2 hg (fun r e => (hr r e).2), e3⟩)
  ?assign ?body ?done ?stop
 case assign =>
  rintro l pre x W K ⟨⟨⟨v, e1, e2, _⟩, e4, e5⟩, hB⟩ hK
  gi_wp2
  refine hK _ _ ((KeepsOthers.alloc _ _).from _) ⟨(Below.refl _ W).alloc hB.size _, Below.heap_alloc W _ _ (by omega)⟩ ⟨⟨⟨v, e1.alloc _, World.ownsRow.alloc e2 _, trivial⟩, (Below.heap_alloc W _ _ (by omega)).trans e4, Nat.le_trans e5 (by simp)⟩, hB.alloc hB.size _⟩ ⟨W.heap.size, by omega, World.alloc_heap_new W _, rfl⟩
 case body =>
  rintro l pre ⟨⟨x1, x2⟩, d⟩ a' W hl ⟨r, hr⟩ ⟨⟨⟨v, e1, e2, _⟩, e4, e5⟩, hB⟩ ⟨Bx, hBx, hX, rfl⟩ hlt
  dsimp only at hX
  have cX0 := block_cell hX 0 _ rfl
  have cX1 := block_cell hX 1 _ rfl
  have hHL : (headL g.length pl st ++ pre.map stB).length ≤ 2000000 := by rw [List.length_append, List.length_map]; simp [headL]; omega
  have hnn : (headL g.length pl st ++ pre.map stB).length = (headL g.length pl st).length + pre.length := by simp
  rw [hnn] at e2 hHL
  have cP := e1.cell
  have fP := e1.frozen
  have hnW : w2.heap.size ≤ W.heap.size := by omega
  have hnS := cells_not_row e4 carrNeByte e2
  have HE := hide (And.intro e1 (And.intro e2 (And.intro e4 (And.intro hB hnS))))
  have HF := hide (World.ownsRow.alloc e2 (.cells #[.int .u8 (wrap64 (wrap64 (16 * x2) + x1) % 256)] 5))
  obtain ⟨ov, cv, hve⟩ := own_shape e2
  have HNN := hide hnn
  clear e1 e2 e4 hB hnS hnn
  subst hve
  gi_wp2_with (refine wpListIn_append_own _ rfl _ _ 22 rfl w2.heap.size 5 i0 (.int .u8 0) 1 1 Tryd.underlying22 hi hz0 hz1' hz2' rfl (by decide) _ _ _ rfl HF.out ⟨W.heap.size, 0, none⟩ 1 1 [.int .u8 (wrap64 (wrap64 (16 * x2) + x1) % 256)] rfl rfl (cell_one_new W _ _) ?h1 ?b1 ?b2 ?b3 ?_)
  case h1 => simp [Value.oneCell']
  case b1 => unfold maxLen; omega
  case b2 => omega
  case b3 => (try simp) <;> omega
  intro v' w2' hown' hgrow _
  obtain ⟨g', c', rfl⟩ := ownsRow_succ hown'
  obtain ⟨q1, q2, q4, qB, qS⟩ := HE.out
  obtain ⟨b1, b2, b3, b4, b5⟩ := Boxed.appended (tmp := .cells #[.int .u8 (wrap64 (wrap64 (16 * x2) + x1) % 256)] 5) q1 bytesNe q2 hnW hs3 hown' hgrow
  have cP2 := b1.cell
  have fP2 := b1.frozen
  have HR := hide (And.intro b2 (And.intro b3 (And.intro b4 b5)))
  have HS : Hid ((w2'.setCell ⟨w3.heap.size, 0, none⟩ (.slice (some ⟨g', 0, none⟩) ((headL g.length pl st).length + pre.length + 1) c')).heap[W5.heap.size]? = W.heap[W5.heap.size]?) :=
   (Below.heap_setCell w2' ⟨w3.heap.size, 0, none⟩ _ W5.heap.size (by show W5.heap.size ≠ w3.heap.size; omega)).trans ((hgrow.block W5.heap.size (by simp; omega) qS).trans (Below.heap_alloc W _ _ (by omega)))
  clear b1 b2 b3 b4 b5 hown' hgrow q1 q2
  gi_wp2
  obtain ⟨b2, b3, b4, b5⟩ := HR.out
  refine ⟨b4.from _, ⟨b5, HS.out⟩, ⟨⟨_, b2, ?_, trivial⟩, HS.out.trans q4, Nat.le_trans e5 b5.size⟩, qB.trans b5⟩
  rw [show (headL g.length pl st ++ List.map stB (pre ++ [((x1, x2), d)])).length = (headL g.length pl st).length + pre.length + 1 by simp; omega]
  simpa [stB] using b3
 case done =>
  rintro D ys W hD rfl ⟨⟨⟨v, e1, e2, _⟩, e4, e5⟩, hB⟩ hK
  have hmap : (upto (stopAt g pl) g.length).map stB = segTo g g.length := stB_upto hok
  rw [hmap] at e2
  have hsl : (headL g.length pl st ++ segTo g g.length).length = 5 + g.length := by rw [List.length_append, segTo_length _ _ (Nat.le_refl _)]; rfl
  rw [hsl] at e2
  obtain ⟨ov, cv, hve⟩ := own_shape e2
  subst hve
  have cP := e1.cell
  have HE := hide (And.intro e2 hB)
  clear e1 e4 hsl hmap
  have hne : packetL a b f s l ≠ [] := fun h => by have := congrArg List.length h; simp [packetL, preL_length] at this
  have HRW : Rd W op (packetL a b f s l) := by
   rcases HRp.out with h | ⟨pb, poff, ho, hb, r⟩
   ·exact .inl h
   ·exact .inr ⟨pb, poff, ho, Nat.lt_of_lt_of_le hb hB.size, fun i hi => (hB.cell (p := ⟨pb, poff + i, none⟩) hb).trans (r i hi)⟩
  obtain ⟨ad, had⟩ : ∃ ad, op = some ad := by
   cases op with
   | none => exact absurd HRW.nil hne
   | some ad => exact ⟨ad, rfl⟩
  subst had
  have HNW := hide HRW.news
  have HLW : Hid (((packetL a b f s l).map (Value.int .u8)).length = N * 1) := by show _ = _; rw [List.length_map, HN.out, Nat.mul_one]
  have hDo : some D ≠ (Value.slice ov (5 + g.length) cv).ownBlock := fun e => by
   rcases e2.2 with ⟨h1, _⟩ | ⟨gq, cq, cur, h1, _, hgb, _⟩
   ·rw [h1] at e; cases e
   ·rw [h1] at e; simp [Value.ownBlock] at e; subst e; rw [hgb] at hK; cases hK
  have hnW : w2.heap.size ≤ W.heap.size := hB.size
  have HDo := hide hDo
  clear HRW hne e2 hB hDo HRp
  gi_wp2_with (refine wpListIn_append_own _ rfl _ _ 22 rfl w2.heap.size 5 i0 (.int .u8 0) 1 1 Tryd.underlying22 hi hz0 hz1' hz2' rfl (by decide) _ _ _ rfl HE.out.1 ad N cp ((packetL a b f s l).map (Value.int .u8)) rfl HLW.out HNW.out (ints_oneCell .u8 _) ?b1 ?b2 hnW ?_)
  case b1 => unfold maxLen; omega
  case b2 => omega
  intro v9 w9 ho9 hg9 _
  obtain ⟨o9, c9, hv9⟩ := own_shape ho9
  subst hv9
  have hK9 := (hg9.block D (Array.getElem?_eq_some_iff.1 hK).1 HDo.out).trans hK
  have hB9 : Below w2.heap.size w2 w9 := HE.out.2.grown hg9 hnW (fun k h => (HE.out.1.lt k h).1)
  have HO9 := hide ho9
  have HB9 := hide hB9
  clear ho9 hg9 hB9 hK
  gi_wp2
  refine ⟨by simp, .inl ⟨_, _, rfl, run_takeDeferred hK9, ?_⟩⟩
  refine ⟨.tuple #[.slice o9 (5 + g.length + N) c9, .bool true], by simp [results, Tryd.f6, go_sem], _, rfl, ?_, ?_⟩
  ·have h1 := ownsRow_putObj HO9.out (.deferred none) hK9 rfl
   have hfl : (headL g.length pl st ++ segTo g g.length ++ packetL a b f s l).length = 5 + g.length + N := by rw [List.length_append, HN.out, List.length_append, segTo_length _ _ (Nat.le_refl _)]; rfl
   unfold ownB
   rw [hfl, List.map_append]
   exact own_mono h1 (Nat.le_of_lt hz2)
  ·exact HB2.out.trans ((HB9.out.trans (belowK_b (w := w2) (Nat.le_refl _) w9 D _ _ (by omega) hK9 rfl rfl)).mono (Nat.le_of_lt hz2))
 case stop =>
  rintro D c pre W hD ⟨k, hk, rfl⟩ ⟨hF, hB⟩ hK
  exact hF.elim

end Go.Proofs.YtoeoiljddcjphaaDoor

/- CarrierBytes, in the words of shapes. -/
namespace Go.Proofs.YtoeoiljddcjphaaDoor
open Go.ChangeShapes Go.WideShapes Go.ChangeAt Go.RowKit Go.Joins
set_option linter.unusedVariables false
set_option linter.unusedSimpArgs false

set_option maxRecDepth 100000 in
set_option maxHeartbeats 1000000 in
theorem implCBytes_no (a b f s : Int) (o og : Option Addr) (len cap cg : Nat) (g : List (Int × Int)) (pl st : Int) (w : World) (hl : len ≤ maxLen) (hgl : g.length ≤ 1048576) (hG : RdG w og g) (hok : carrierOkB a b f s len g pl st = false) :
  Calls Tryd.prog 6 #[crr a b f s (.slice o len cap) (.slice og g.length cg) pl st] w fun e w' => e = .returned (.tuple #[.slice none 0 0, .bool false]) ∧ Below w.heap.size w w' := by
 have hb0 : Below w.heap.size w (w.alloc (.cells #[.int .i64 a, .int .i64 b, .int .i64 f, .int .i64 s, .slice o len cap, .slice og g.length cg, .int .i64 pl, .int .i64 st] 29)) := (Below.refl _ _).alloc (Nat.le_refl _) _
 have hc := implCarrierOk_any a b f s o og len cap cg g pl st (w.alloc (.cells #[.int .i64 a, .int .i64 b, .int .i64 f, .int .i64 s, .slice o len cap, .slice og g.length cg, .int .i64 pl, .int .i64 st] 29)) hl (by unfold maxLen; omega) (hG.kept hb0)
 rw [hok] at hc
 have Hb := hide hb0
 clear hb0
 go_enter Tryd.func6, Tryd.ntmps6
 go_wp2_with fail
 generalize (w.alloc (.cells #[.int .i64 a, .int .i64 b, .int .i64 f, .int .i64 s, .slice o len cap, .slice og g.length cg, .int .i64 pl, .int .i64 st] 29)) = w0 at *
 refine hc.mono ?_
 rintro e w1 ⟨rfl, hb1⟩
 have HB := hide (Hb.out.trans (hb1.mono Hb.out.size))
 clear hb1 hc Hb
 go_wp2
 go_ret2
 exact ⟨rfl, HB.out⟩
theorem specCBytes_sh (v : Value) (m : Cm) (w : World) (hR : RdCm w.heap.size w v m) (hc : capCm v) (hf : fitCm m) :
  Calls Tryd.prog 37 #[v] w fun e w' => ∃ v', e = .returned (.tuple #[v', .bool m.ok]) ∧ InB w.heap.size w'.heap.size w' v' (carrL m) ∧ Below w.heap.size w w' := by
 obtain ⟨vl, vg, rfl, ⟨o, c, rfl, r⟩, ⟨og, cg, rfl, rg⟩⟩ := hR
 obtain ⟨hn, hng⟩ := hc.two
 have h1 := hf.1
 refine (specCBytes_any m.a m.b m.f m.s o og c cg m.l m.g m.pl m.st w (RdB_rd.1 r) hn hf.2 (by omega) (RdG_rd.1 rg) (by omega)).mono ?_
 rintro e w' ⟨v, rfl, ho, hb⟩
 exact ⟨v, rfl, InB.of ho, hb⟩
theorem implCBytes_sh (v : Value) (m : Cm) (w : World) (hR : RdCm w.heap.size w v m) (hc : capCm v) (hf : fitCm m) :
  Calls Tryd.prog 6 #[v] w fun e w' => ∃ v', e = .returned (.tuple #[v', .bool m.ok]) ∧ InB w.heap.size w'.heap.size w' v' (carrL m) ∧ Below w.heap.size w w' := by
 obtain ⟨vl, vg, rfl, ⟨o, c, rfl, r⟩, ⟨og, cg, rfl, rg⟩⟩ := hR
 obtain ⟨hn, hng⟩ := hc.two
 have h1 := hf.1
 have hG := RdG_rd.1 rg
 cases hok : m.ok with
 | false =>
  refine (implCBytes_no m.a m.b m.f m.s o og m.l.length c cg m.g m.pl m.st w (by unfold maxLen; omega) (by omega) hG hok).mono ?_
  rintro e w' ⟨rfl, hb⟩
  refine ⟨_, rfl, ?_, hb⟩
  unfold carrL
  rw [hok]
  exact ⟨World.ownsRow_nil _ _ _ _, fun b e => by cases e⟩
 | true =>
  rcases hG with hG | ⟨bb, off, rfl, hbb, hcell⟩
  ·have := carrierOkB_head hok
   rw [hG] at this
   simp at this
  ·refine (implCBytes_yes m.a m.b m.f m.s o c bb off cg m.l m.g m.pl m.st w (RdB_rd.1 r) hn hf.2 (by omega) hbb hcell hok).mono ?_
   rintro e w' ⟨v, rfl, ho, hb⟩
   refine ⟨v, rfl, ?_, hb⟩
   unfold carrL
   rw [hok]
   exact InB.of ho

end Go.Proofs.YtoeoiljddcjphaaDoor

