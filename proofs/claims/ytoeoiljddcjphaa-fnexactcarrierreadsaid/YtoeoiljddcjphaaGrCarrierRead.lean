/- For every list of bytes the law FnExactCarrierRead answers true, and the bytes read as they did: impl.CarrierRead answers as the model's (its reader's panic is taken back), writes nothing into what it is handed, and its answer owns its memory. No conditions. -/
import Derived.Test.YtoeoiljddcjphaaLMark
import Derived.Test.YtoeoiljddcjphaaLMarkG
import Derived.Test.YtoeoiljddcjphaaGrSCRd3
import Derived.Test.YtoeoiljddcjphaaLCarr
namespace Go.Proofs.Ytoeoiljddcjphaa
open Go.ChangeShapes Go.WideShapes Go.ChangeAt Go.RowKit Go.Joins
set_option linter.unusedVariables false
set_option linter.unusedSimpArgs false

set_option maxRecDepth 100000 in
set_option maxHeartbeats 8000000 in
theorem lawFnExactCarrierRead (o : Option Addr) (cap : Nat) (l : List Int) (w : World) (hm : l.length ≤ maxLen) (hR : Rd w o l) (hB8 : isB l) :
    Calls Try.prog 4 #[.slice o l.length cap] w fun e w' => e = .returned (.bool true) ∧ Below w.heap.size w w' := by
  by_cases hlen : l.length ≤ 1048576
  · have HS := hide (fun v w h hf => specCRead_sh v l w h hf hB8 hlen)
    have HI := hide (fun v w h hf => implCRead_sh v l w h hf hB8 hlen)
    have HV : Hid (RdV layB w.heap.size w (.slice o l.length cap) l) := ⟨o, cap, rfl, RdB_rd.2 hR⟩
    have hmr := (crR_fit l hB8).1
    generalize crR l = mr at *
    generalize crOk l = t at *
    unfold maxLen at hm
    have B_w : Below w.heap.size w w := Below.refl _ _
    go_enter Try.func4, Try.ntmps4
    have HB_ := hide B_w
    clear B_w
    go_wp2_with fail
    have B_w := HB_.out
    clear HB_
    refine (toByteS_full _ l w ((HV.out.kept B_w (Nat.le_refl _)).le B_w.size) hB8 hlen).mono ?_
    rintro e w1 ⟨v2, rfl, full2, in2, hb_w1⟩
    have HF2 := hide full2
    clear full2
    have B_w1 : Below w.heap.size w w1 := B_w.trans (hb_w1.mono B_w.size)
    have hs_w1 : w.heap.size ≤ w1.heap.size := hb_w1.size
    clear hb_w1 B_w
    have Hin2 := hide in2
    clear in2
    have HB_ := hide B_w1
    clear B_w1
    go_wp2_with fail
    have in2 := Hin2.out
    clear Hin2
    have B_w1 := HB_.out
    clear HB_
    refine (HS.out _ w1 ((InL.rd (L := layB) in2).le (by omega)) HF2.out).mono ?_
    rintro e w2 ⟨vw, rfl, inw, hb_w2⟩
    replace in2 := in2.step (Stp.of (lo := 0) (hi := 0) hb_w2) (.inl (Nat.zero_le _))
    have B_w2 : Below w.heap.size w w2 := B_w1.trans (hb_w2.mono B_w1.size)
    have hs_w2 : w1.heap.size ≤ w2.heap.size := hb_w2.size
    clear hb_w2 B_w1
    clear in2
    obtain ⟨vlw, vsw, rfl, ⟨ow, cw, rfl, _⟩, ⟨ogw, cgw, rfl, _⟩⟩ := inw.rd
    have bxw : (w2.alloc (.cells #[.int .i64 mr.a, .int .i64 mr.b, .int .i64 mr.f, .int .i64 mr.s, .slice ow mr.l.length cw, .slice ogw mr.g.length cgw, .int .i64 mr.pl, .int .i64 mr.st] 29)).heap[w2.heap.size]? = some (.cells #[.int .i64 mr.a, .int .i64 mr.b, .int .i64 mr.f, .int .i64 mr.s, .slice ow mr.l.length cw, .slice ogw mr.g.length cgw, .int .i64 mr.pl, .int .i64 mr.st] 29 (0, 0)) := World.alloc_heap_new w2 (.cells #[.int .i64 mr.a, .int .i64 mr.b, .int .i64 mr.f, .int .i64 mr.s, .slice ow mr.l.length cw, .slice ogw mr.g.length cgw, .int .i64 mr.pl, .int .i64 mr.st] 29)
    have hb_w3 : Below w2.heap.size w2 (w2.alloc (.cells #[.int .i64 mr.a, .int .i64 mr.b, .int .i64 mr.f, .int .i64 mr.s, .slice ow mr.l.length cw, .slice ogw mr.g.length cgw, .int .i64 mr.pl, .int .i64 mr.st] 29)) := (Below.refl _ _).alloc (Nat.le_refl _) _
    have hz_w3 : w2.heap.size < (w2.alloc (.cells #[.int .i64 mr.a, .int .i64 mr.b, .int .i64 mr.f, .int .i64 mr.s, .slice ow mr.l.length cw, .slice ogw mr.g.length cgw, .int .i64 mr.pl, .int .i64 mr.st] 29)).heap.size := by simp
    have bxwc0 : (w2.alloc (.cells #[.int .i64 mr.a, .int .i64 mr.b, .int .i64 mr.f, .int .i64 mr.s, .slice ow mr.l.length cw, .slice ogw mr.g.length cgw, .int .i64 mr.pl, .int .i64 mr.st] 29)).cell? ⟨w2.heap.size, 0, none⟩ = some (.int .i64 mr.a) := block_cell bxw 0 _ rfl
    have bxwc1 : (w2.alloc (.cells #[.int .i64 mr.a, .int .i64 mr.b, .int .i64 mr.f, .int .i64 mr.s, .slice ow mr.l.length cw, .slice ogw mr.g.length cgw, .int .i64 mr.pl, .int .i64 mr.st] 29)).cell? ⟨w2.heap.size, 1, none⟩ = some (.int .i64 mr.b) := block_cell bxw 1 _ rfl
    have bxwc2 : (w2.alloc (.cells #[.int .i64 mr.a, .int .i64 mr.b, .int .i64 mr.f, .int .i64 mr.s, .slice ow mr.l.length cw, .slice ogw mr.g.length cgw, .int .i64 mr.pl, .int .i64 mr.st] 29)).cell? ⟨w2.heap.size, 2, none⟩ = some (.int .i64 mr.f) := block_cell bxw 2 _ rfl
    have bxwc3 : (w2.alloc (.cells #[.int .i64 mr.a, .int .i64 mr.b, .int .i64 mr.f, .int .i64 mr.s, .slice ow mr.l.length cw, .slice ogw mr.g.length cgw, .int .i64 mr.pl, .int .i64 mr.st] 29)).cell? ⟨w2.heap.size, 3, none⟩ = some (.int .i64 mr.s) := block_cell bxw 3 _ rfl
    have bxwc4 : (w2.alloc (.cells #[.int .i64 mr.a, .int .i64 mr.b, .int .i64 mr.f, .int .i64 mr.s, .slice ow mr.l.length cw, .slice ogw mr.g.length cgw, .int .i64 mr.pl, .int .i64 mr.st] 29)).cell? ⟨w2.heap.size, 4, none⟩ = some (.slice ow mr.l.length cw) := block_cell bxw 4 _ rfl
    have bxwc5 : (w2.alloc (.cells #[.int .i64 mr.a, .int .i64 mr.b, .int .i64 mr.f, .int .i64 mr.s, .slice ow mr.l.length cw, .slice ogw mr.g.length cgw, .int .i64 mr.pl, .int .i64 mr.st] 29)).cell? ⟨w2.heap.size, 5, none⟩ = some (.slice ogw mr.g.length cgw) := block_cell bxw 5 _ rfl
    have bxwc6 : (w2.alloc (.cells #[.int .i64 mr.a, .int .i64 mr.b, .int .i64 mr.f, .int .i64 mr.s, .slice ow mr.l.length cw, .slice ogw mr.g.length cgw, .int .i64 mr.pl, .int .i64 mr.st] 29)).cell? ⟨w2.heap.size, 6, none⟩ = some (.int .i64 mr.pl) := block_cell bxw 6 _ rfl
    have bxwc7 : (w2.alloc (.cells #[.int .i64 mr.a, .int .i64 mr.b, .int .i64 mr.f, .int .i64 mr.s, .slice ow mr.l.length cw, .slice ogw mr.g.length cgw, .int .i64 mr.pl, .int .i64 mr.st] 29)).cell? ⟨w2.heap.size, 7, none⟩ = some (.int .i64 mr.st) := block_cell bxw 7 _ rfl
    have Hbxw := hide bxw
    have Hb_ := hide hb_w3
    clear bxw hb_w3
    have Hinw := hide inw
    clear inw
    have HB_ := hide B_w2
    clear B_w2
    go_wp2_with fail
    clear bxwc0 bxwc1 bxwc2 bxwc3 bxwc4 bxwc5 bxwc6 bxwc7
    have inw := Hinw.out
    clear Hinw
    have B_w2 := HB_.out
    clear HB_
    have bxw := Hbxw.out
    have hb_w3 := Hb_.out
    clear Hbxw Hb_
    generalize w2.alloc (.cells #[.int .i64 mr.a, .int .i64 mr.b, .int .i64 mr.f, .int .i64 mr.s, .slice ow mr.l.length cw, .slice ogw mr.g.length cgw, .int .i64 mr.pl, .int .i64 mr.st] 29) = w3 at *
    replace inw := inw.step (Stp.of (lo := 0) (hi := 0) hb_w3) (.inl (Nat.zero_le _))
    have B_w3 : Below w.heap.size w w3 := B_w2.trans (hb_w3.mono B_w2.size)
    have hs_w3 : w2.heap.size ≤ w3.heap.size := hb_w3.size
    clear hb_w3 B_w2
    refine (toByteS_full _ l w3 ((HV.out.kept B_w3 (Nat.le_refl _)).le B_w3.size) hB8 hlen).mono ?_
    rintro e w4 ⟨vx, rfl, fullx, inx, hb_w4⟩
    have HFx := hide fullx
    clear fullx
    replace inw := inw.step (Stp.of (lo := 0) (hi := 0) hb_w4) (.inl (Nat.zero_le _))
    replace bxw := (hb_w4.block _ (by omega)).trans bxw
    have B_w4 : Below w.heap.size w w4 := B_w3.trans (hb_w4.mono B_w3.size)
    have hs_w4 : w3.heap.size ≤ w4.heap.size := hb_w4.size
    clear hb_w4 B_w3
    have Hinw := hide inw
    clear inw
    have Hbxw := hide bxw
    clear bxw
    have Hinx := hide inx
    clear inx
    have HB_ := hide B_w4
    clear B_w4
    go_wp2_with fail
    have inw := Hinw.out
    clear Hinw
    have bxw := Hbxw.out
    clear Hbxw
    have inx := Hinx.out
    clear Hinx
    have B_w4 := HB_.out
    clear HB_
    refine (HI.out _ w4 ((InL.rd (L := layB) inx).le (by omega)) HFx.out).mono ?_
    rintro e w5 ⟨vg, rfl, ing, hb_w5⟩
    replace inw := inw.step (Stp.of (lo := 0) (hi := 0) hb_w5) (.inl (Nat.zero_le _))
    replace bxw := (hb_w5.block _ (by omega)).trans bxw
    replace inx := inx.step (Stp.of (lo := 0) (hi := 0) hb_w5) (.inl (Nat.zero_le _))
    have B_w5 : Below w.heap.size w w5 := B_w4.trans (hb_w5.mono B_w4.size)
    have hs_w5 : w4.heap.size ≤ w5.heap.size := hb_w5.size
    clear hb_w5 B_w4
    obtain ⟨vlg, vsg, rfl, ⟨og, cg, rfl, _⟩, ⟨ogg, cgg, rfl, _⟩⟩ := ing.rd
    have bxg : (w5.alloc (.cells #[.int .i64 mr.a, .int .i64 mr.b, .int .i64 mr.f, .int .i64 mr.s, .slice og mr.l.length cg, .slice ogg mr.g.length cgg, .int .i64 mr.pl, .int .i64 mr.st] 29)).heap[w5.heap.size]? = some (.cells #[.int .i64 mr.a, .int .i64 mr.b, .int .i64 mr.f, .int .i64 mr.s, .slice og mr.l.length cg, .slice ogg mr.g.length cgg, .int .i64 mr.pl, .int .i64 mr.st] 29 (0, 0)) := World.alloc_heap_new w5 (.cells #[.int .i64 mr.a, .int .i64 mr.b, .int .i64 mr.f, .int .i64 mr.s, .slice og mr.l.length cg, .slice ogg mr.g.length cgg, .int .i64 mr.pl, .int .i64 mr.st] 29)
    have hb_w6 : Below w5.heap.size w5 (w5.alloc (.cells #[.int .i64 mr.a, .int .i64 mr.b, .int .i64 mr.f, .int .i64 mr.s, .slice og mr.l.length cg, .slice ogg mr.g.length cgg, .int .i64 mr.pl, .int .i64 mr.st] 29)) := (Below.refl _ _).alloc (Nat.le_refl _) _
    have hz_w6 : w5.heap.size < (w5.alloc (.cells #[.int .i64 mr.a, .int .i64 mr.b, .int .i64 mr.f, .int .i64 mr.s, .slice og mr.l.length cg, .slice ogg mr.g.length cgg, .int .i64 mr.pl, .int .i64 mr.st] 29)).heap.size := by simp
    have bxwW := (hb_w6.block _ (by omega)).trans bxw
    have bxwc0 : (w5.alloc (.cells #[.int .i64 mr.a, .int .i64 mr.b, .int .i64 mr.f, .int .i64 mr.s, .slice og mr.l.length cg, .slice ogg mr.g.length cgg, .int .i64 mr.pl, .int .i64 mr.st] 29)).cell? ⟨w2.heap.size, 0, none⟩ = some (.int .i64 mr.a) := block_cell bxwW 0 _ rfl
    have bxwc1 : (w5.alloc (.cells #[.int .i64 mr.a, .int .i64 mr.b, .int .i64 mr.f, .int .i64 mr.s, .slice og mr.l.length cg, .slice ogg mr.g.length cgg, .int .i64 mr.pl, .int .i64 mr.st] 29)).cell? ⟨w2.heap.size, 1, none⟩ = some (.int .i64 mr.b) := block_cell bxwW 1 _ rfl
    have bxwc2 : (w5.alloc (.cells #[.int .i64 mr.a, .int .i64 mr.b, .int .i64 mr.f, .int .i64 mr.s, .slice og mr.l.length cg, .slice ogg mr.g.length cgg, .int .i64 mr.pl, .int .i64 mr.st] 29)).cell? ⟨w2.heap.size, 2, none⟩ = some (.int .i64 mr.f) := block_cell bxwW 2 _ rfl
    have bxwc3 : (w5.alloc (.cells #[.int .i64 mr.a, .int .i64 mr.b, .int .i64 mr.f, .int .i64 mr.s, .slice og mr.l.length cg, .slice ogg mr.g.length cgg, .int .i64 mr.pl, .int .i64 mr.st] 29)).cell? ⟨w2.heap.size, 3, none⟩ = some (.int .i64 mr.s) := block_cell bxwW 3 _ rfl
    have bxwc4 : (w5.alloc (.cells #[.int .i64 mr.a, .int .i64 mr.b, .int .i64 mr.f, .int .i64 mr.s, .slice og mr.l.length cg, .slice ogg mr.g.length cgg, .int .i64 mr.pl, .int .i64 mr.st] 29)).cell? ⟨w2.heap.size, 4, none⟩ = some (.slice ow mr.l.length cw) := block_cell bxwW 4 _ rfl
    have bxwc5 : (w5.alloc (.cells #[.int .i64 mr.a, .int .i64 mr.b, .int .i64 mr.f, .int .i64 mr.s, .slice og mr.l.length cg, .slice ogg mr.g.length cgg, .int .i64 mr.pl, .int .i64 mr.st] 29)).cell? ⟨w2.heap.size, 5, none⟩ = some (.slice ogw mr.g.length cgw) := block_cell bxwW 5 _ rfl
    have bxwc6 : (w5.alloc (.cells #[.int .i64 mr.a, .int .i64 mr.b, .int .i64 mr.f, .int .i64 mr.s, .slice og mr.l.length cg, .slice ogg mr.g.length cgg, .int .i64 mr.pl, .int .i64 mr.st] 29)).cell? ⟨w2.heap.size, 6, none⟩ = some (.int .i64 mr.pl) := block_cell bxwW 6 _ rfl
    have bxwc7 : (w5.alloc (.cells #[.int .i64 mr.a, .int .i64 mr.b, .int .i64 mr.f, .int .i64 mr.s, .slice og mr.l.length cg, .slice ogg mr.g.length cgg, .int .i64 mr.pl, .int .i64 mr.st] 29)).cell? ⟨w2.heap.size, 7, none⟩ = some (.int .i64 mr.st) := block_cell bxwW 7 _ rfl
    clear bxwW
    have bxgc0 : (w5.alloc (.cells #[.int .i64 mr.a, .int .i64 mr.b, .int .i64 mr.f, .int .i64 mr.s, .slice og mr.l.length cg, .slice ogg mr.g.length cgg, .int .i64 mr.pl, .int .i64 mr.st] 29)).cell? ⟨w5.heap.size, 0, none⟩ = some (.int .i64 mr.a) := block_cell bxg 0 _ rfl
    have bxgc1 : (w5.alloc (.cells #[.int .i64 mr.a, .int .i64 mr.b, .int .i64 mr.f, .int .i64 mr.s, .slice og mr.l.length cg, .slice ogg mr.g.length cgg, .int .i64 mr.pl, .int .i64 mr.st] 29)).cell? ⟨w5.heap.size, 1, none⟩ = some (.int .i64 mr.b) := block_cell bxg 1 _ rfl
    have bxgc2 : (w5.alloc (.cells #[.int .i64 mr.a, .int .i64 mr.b, .int .i64 mr.f, .int .i64 mr.s, .slice og mr.l.length cg, .slice ogg mr.g.length cgg, .int .i64 mr.pl, .int .i64 mr.st] 29)).cell? ⟨w5.heap.size, 2, none⟩ = some (.int .i64 mr.f) := block_cell bxg 2 _ rfl
    have bxgc3 : (w5.alloc (.cells #[.int .i64 mr.a, .int .i64 mr.b, .int .i64 mr.f, .int .i64 mr.s, .slice og mr.l.length cg, .slice ogg mr.g.length cgg, .int .i64 mr.pl, .int .i64 mr.st] 29)).cell? ⟨w5.heap.size, 3, none⟩ = some (.int .i64 mr.s) := block_cell bxg 3 _ rfl
    have bxgc4 : (w5.alloc (.cells #[.int .i64 mr.a, .int .i64 mr.b, .int .i64 mr.f, .int .i64 mr.s, .slice og mr.l.length cg, .slice ogg mr.g.length cgg, .int .i64 mr.pl, .int .i64 mr.st] 29)).cell? ⟨w5.heap.size, 4, none⟩ = some (.slice og mr.l.length cg) := block_cell bxg 4 _ rfl
    have bxgc5 : (w5.alloc (.cells #[.int .i64 mr.a, .int .i64 mr.b, .int .i64 mr.f, .int .i64 mr.s, .slice og mr.l.length cg, .slice ogg mr.g.length cgg, .int .i64 mr.pl, .int .i64 mr.st] 29)).cell? ⟨w5.heap.size, 5, none⟩ = some (.slice ogg mr.g.length cgg) := block_cell bxg 5 _ rfl
    have bxgc6 : (w5.alloc (.cells #[.int .i64 mr.a, .int .i64 mr.b, .int .i64 mr.f, .int .i64 mr.s, .slice og mr.l.length cg, .slice ogg mr.g.length cgg, .int .i64 mr.pl, .int .i64 mr.st] 29)).cell? ⟨w5.heap.size, 6, none⟩ = some (.int .i64 mr.pl) := block_cell bxg 6 _ rfl
    have bxgc7 : (w5.alloc (.cells #[.int .i64 mr.a, .int .i64 mr.b, .int .i64 mr.f, .int .i64 mr.s, .slice og mr.l.length cg, .slice ogg mr.g.length cgg, .int .i64 mr.pl, .int .i64 mr.st] 29)).cell? ⟨w5.heap.size, 7, none⟩ = some (.int .i64 mr.st) := block_cell bxg 7 _ rfl
    have Hbxg := hide bxg
    have Hb_ := hide hb_w6
    clear bxg hb_w6
    have Hinw := hide inw
    clear inw
    have Hbxw := hide bxw
    clear bxw
    have Hinx := hide inx
    clear inx
    have Hing := hide ing
    clear ing
    have HB_ := hide B_w5
    clear B_w5
    go_wp2_with fail
    clear bxwc0 bxwc1 bxwc2 bxwc3 bxwc4 bxwc5 bxwc6 bxwc7
    clear bxgc0 bxgc1 bxgc2 bxgc3 bxgc4 bxgc5 bxgc6 bxgc7
    have inw := Hinw.out
    clear Hinw
    have bxw := Hbxw.out
    clear Hbxw
    have inx := Hinx.out
    clear Hinx
    have ing := Hing.out
    clear Hing
    have B_w5 := HB_.out
    clear HB_
    have bxg := Hbxg.out
    have hb_w6 := Hb_.out
    clear Hbxg Hb_
    generalize w5.alloc (.cells #[.int .i64 mr.a, .int .i64 mr.b, .int .i64 mr.f, .int .i64 mr.s, .slice og mr.l.length cg, .slice ogg mr.g.length cgg, .int .i64 mr.pl, .int .i64 mr.st] 29) = w6 at *
    replace inw := inw.step (Stp.of (lo := 0) (hi := 0) hb_w6) (.inl (Nat.zero_le _))
    replace bxw := (hb_w6.block _ (by omega)).trans bxw
    replace inx := inx.step (Stp.of (lo := 0) (hi := 0) hb_w6) (.inl (Nat.zero_le _))
    replace ing := ing.step (Stp.of (lo := 0) (hi := 0) hb_w6) (.inl (Nat.zero_le _))
    have B_w6 : Below w.heap.size w w6 := B_w5.trans (hb_w6.mono B_w5.size)
    have hs_w6 : w5.heap.size ≤ w6.heap.size := hb_w6.size
    clear hb_w6 B_w5
    refine (eqCarrier_sh _ _ mr w6 (ing.rd.le (by omega)) (inw.rd.le (by omega)) (by omega) (by omega)).mono ?_
    rintro e w7 ⟨rfl, hb_w7⟩
    replace inw := inw.step (Stp.of (lo := 0) (hi := 0) hb_w7) (.inl (Nat.zero_le _))
    replace bxw := (hb_w7.block _ (by omega)).trans bxw
    replace inx := inx.step (Stp.of (lo := 0) (hi := 0) hb_w7) (.inl (Nat.zero_le _))
    replace ing := ing.step (Stp.of (lo := 0) (hi := 0) hb_w7) (.inl (Nat.zero_le _))
    replace bxg := (hb_w7.block _ (by omega)).trans bxg
    have B_w7 : Below w.heap.size w w7 := B_w6.trans (hb_w7.mono B_w6.size)
    have hs_w7 : w6.heap.size ≤ w7.heap.size := hb_w7.size
    clear hb_w7 B_w6
    have Hinw := hide inw
    clear inw
    have Hbxw := hide bxw
    clear bxw
    have Hinx := hide inx
    clear inx
    have Hing := hide ing
    clear ing
    have Hbxg := hide bxg
    clear bxg
    have HB_ := hide B_w7
    clear B_w7
    go_wp2_with fail
    have inw := Hinw.out
    clear Hinw
    have bxw := Hbxw.out
    clear Hbxw
    have inx := Hinx.out
    clear Hinx
    have ing := Hing.out
    clear Hing
    have bxg := Hbxg.out
    clear Hbxg
    have B_w7 := HB_.out
    clear HB_
    refine (toByteS_full _ l w7 ((HV.out.kept B_w7 (Nat.le_refl _)).le B_w7.size) hB8 hlen).mono ?_
    rintro e w8 ⟨va, rfl, fulla, ina, hb_w8⟩
    have HFa := hide fulla
    clear fulla
    replace inw := inw.step (Stp.of (lo := 0) (hi := 0) hb_w8) (.inl (Nat.zero_le _))
    replace bxw := (hb_w8.block _ (by omega)).trans bxw
    replace inx := inx.step (Stp.of (lo := 0) (hi := 0) hb_w8) (.inl (Nat.zero_le _))
    replace ing := ing.step (Stp.of (lo := 0) (hi := 0) hb_w8) (.inl (Nat.zero_le _))
    replace bxg := (hb_w8.block _ (by omega)).trans bxg
    have B_w8 : Below w.heap.size w w8 := B_w7.trans (hb_w8.mono B_w7.size)
    have hs_w8 : w7.heap.size ≤ w8.heap.size := hb_w8.size
    clear hb_w8 B_w7
    have Hinw := hide inw
    clear inw
    have Hbxw := hide bxw
    clear bxw
    have Hinx := hide inx
    clear inx
    have Hing := hide ing
    clear ing
    have Hbxg := hide bxg
    clear bxg
    have Hina := hide ina
    clear ina
    have HB_ := hide B_w8
    clear B_w8
    go_wp2_with fail
    have inw := Hinw.out
    clear Hinw
    have bxw := Hbxw.out
    clear Hbxw
    have inx := Hinx.out
    clear Hinx
    have ing := Hing.out
    clear Hing
    have bxg := Hbxg.out
    clear Hbxg
    have ina := Hina.out
    clear Hina
    have B_w8 := HB_.out
    clear HB_
    refine (eqByteS_sh _ _ l w8 ((InL.rd (L := layB) inx).le (by omega)) ((InL.rd (L := layB) ina).le (by omega)) hlen).mono ?_
    rintro e w9 ⟨rfl, hb_w9⟩
    replace inw := inw.step (Stp.of (lo := 0) (hi := 0) hb_w9) (.inl (Nat.zero_le _))
    replace bxw := (hb_w9.block _ (by omega)).trans bxw
    replace inx := inx.step (Stp.of (lo := 0) (hi := 0) hb_w9) (.inl (Nat.zero_le _))
    replace ing := ing.step (Stp.of (lo := 0) (hi := 0) hb_w9) (.inl (Nat.zero_le _))
    replace bxg := (hb_w9.block _ (by omega)).trans bxg
    replace ina := ina.step (Stp.of (lo := 0) (hi := 0) hb_w9) (.inl (Nat.zero_le _))
    have B_w9 : Below w.heap.size w w9 := B_w8.trans (hb_w9.mono B_w8.size)
    have hs_w9 : w8.heap.size ≤ w9.heap.size := hb_w9.size
    clear hb_w9 B_w8
    clear ina
    have Hinw := hide inw
    clear inw
    have Hbxw := hide bxw
    clear bxw
    have Hinx := hide inx
    clear inx
    have Hing := hide ing
    clear ing
    have Hbxg := hide bxg
    clear bxg
    have HB_ := hide B_w9
    clear B_w9
    go_wp2_with fail
    have inw := Hinw.out
    clear Hinw
    have bxw := Hbxw.out
    clear Hbxw
    have inx := Hinx.out
    clear Hinx
    have ing := Hing.out
    clear Hing
    have bxg := Hbxg.out
    clear Hbxg
    have B_w9 := HB_.out
    clear HB_
    refine (markByteS_sh (w3.heap.size) (w4.heap.size) _ l 1 w9 inx (by omega) (by omega) hlen).mono ?_
    rintro e w10 ⟨rfl, _, sp_w10⟩
    replace sp_w10 : Stp (w3.heap.size) (w4.heap.size) w9 w10 := Stp.grown sp_w10 (fun b e => ⟨(inx.1.lt b e).1, inx.2 b e⟩)
    replace inw := inw.step sp_w10 (by omega)
    replace bxw := sp_w10.box bxw (by omega)
    replace ing := ing.step sp_w10 (by omega)
    replace bxg := sp_w10.box bxg (by omega)
    have B_w10 : Below w.heap.size w w10 := B_w9.trans (sp_w10.below (by omega) (by omega))
    have hs_w10 : w9.heap.size ≤ w10.heap.size := sp_w10.size
    clear sp_w10 B_w9
    clear inx
    have hk1 : (0 : Int) ≤ 1 + (l.length : Int) := by omega
    have bxgc0 : w10.cell? ⟨w5.heap.size, 0, none⟩ = some (.int .i64 mr.a) := block_cell bxg 0 _ rfl
    have bxgc1 : w10.cell? ⟨w5.heap.size, 1, none⟩ = some (.int .i64 mr.b) := block_cell bxg 1 _ rfl
    have bxgc2 : w10.cell? ⟨w5.heap.size, 2, none⟩ = some (.int .i64 mr.f) := block_cell bxg 2 _ rfl
    have bxgc3 : w10.cell? ⟨w5.heap.size, 3, none⟩ = some (.int .i64 mr.s) := block_cell bxg 3 _ rfl
    have bxgc4 : w10.cell? ⟨w5.heap.size, 4, none⟩ = some (.slice og mr.l.length cg) := block_cell bxg 4 _ rfl
    have bxgc5 : w10.cell? ⟨w5.heap.size, 5, none⟩ = some (.slice ogg mr.g.length cgg) := block_cell bxg 5 _ rfl
    have bxgc6 : w10.cell? ⟨w5.heap.size, 6, none⟩ = some (.int .i64 mr.pl) := block_cell bxg 6 _ rfl
    have bxgc7 : w10.cell? ⟨w5.heap.size, 7, none⟩ = some (.int .i64 mr.st) := block_cell bxg 7 _ rfl
    have bxwc0 : w10.cell? ⟨w2.heap.size, 0, none⟩ = some (.int .i64 mr.a) := block_cell bxw 0 _ rfl
    have bxwc1 : w10.cell? ⟨w2.heap.size, 1, none⟩ = some (.int .i64 mr.b) := block_cell bxw 1 _ rfl
    have bxwc2 : w10.cell? ⟨w2.heap.size, 2, none⟩ = some (.int .i64 mr.f) := block_cell bxw 2 _ rfl
    have bxwc3 : w10.cell? ⟨w2.heap.size, 3, none⟩ = some (.int .i64 mr.s) := block_cell bxw 3 _ rfl
    have bxwc4 : w10.cell? ⟨w2.heap.size, 4, none⟩ = some (.slice ow mr.l.length cw) := block_cell bxw 4 _ rfl
    have bxwc5 : w10.cell? ⟨w2.heap.size, 5, none⟩ = some (.slice ogw mr.g.length cgw) := block_cell bxw 5 _ rfl
    have bxwc6 : w10.cell? ⟨w2.heap.size, 6, none⟩ = some (.int .i64 mr.pl) := block_cell bxw 6 _ rfl
    have bxwc7 : w10.cell? ⟨w2.heap.size, 7, none⟩ = some (.int .i64 mr.st) := block_cell bxw 7 _ rfl
    have Hinw := hide inw
    clear inw
    have Hbxw := hide bxw
    clear bxw
    have Hing := hide ing
    clear ing
    have Hbxg := hide bxg
    clear bxg
    have HB_ := hide B_w10
    clear B_w10
    go_wp2_with fail
    clear bxgc0 bxgc1 bxgc2 bxgc3 bxgc4 bxgc5 bxgc6 bxgc7
    clear bxwc0 bxwc1 bxwc2 bxwc3 bxwc4 bxwc5 bxwc6 bxwc7
    have inw := Hinw.out
    clear Hinw
    have bxw := Hbxw.out
    clear Hbxw
    have ing := Hing.out
    clear Hing
    have bxg := Hbxg.out
    clear Hbxg
    have B_w10 := HB_.out
    clear HB_
    refine (eqCarrier_sh _ _ mr w10 (ing.rd.le (by omega)) (inw.rd.le (by omega)) (by omega) (by omega)).mono ?_
    rintro e w11 ⟨rfl, hb_w11⟩
    replace inw := inw.step (Stp.of (lo := 0) (hi := 0) hb_w11) (.inl (Nat.zero_le _))
    replace bxw := (hb_w11.block _ (by omega)).trans bxw
    replace ing := ing.step (Stp.of (lo := 0) (hi := 0) hb_w11) (.inl (Nat.zero_le _))
    replace bxg := (hb_w11.block _ (by omega)).trans bxg
    have B_w11 : Below w.heap.size w w11 := B_w10.trans (hb_w11.mono B_w10.size)
    have hs_w11 : w10.heap.size ≤ w11.heap.size := hb_w11.size
    clear hb_w11 B_w10
    have bxgc0 : w11.cell? ⟨w5.heap.size, 0, none⟩ = some (.int .i64 mr.a) := block_cell bxg 0 _ rfl
    have bxgc1 : w11.cell? ⟨w5.heap.size, 1, none⟩ = some (.int .i64 mr.b) := block_cell bxg 1 _ rfl
    have bxgc2 : w11.cell? ⟨w5.heap.size, 2, none⟩ = some (.int .i64 mr.f) := block_cell bxg 2 _ rfl
    have bxgc3 : w11.cell? ⟨w5.heap.size, 3, none⟩ = some (.int .i64 mr.s) := block_cell bxg 3 _ rfl
    have bxgc4 : w11.cell? ⟨w5.heap.size, 4, none⟩ = some (.slice og mr.l.length cg) := block_cell bxg 4 _ rfl
    have bxgc5 : w11.cell? ⟨w5.heap.size, 5, none⟩ = some (.slice ogg mr.g.length cgg) := block_cell bxg 5 _ rfl
    have bxgc6 : w11.cell? ⟨w5.heap.size, 6, none⟩ = some (.int .i64 mr.pl) := block_cell bxg 6 _ rfl
    have bxgc7 : w11.cell? ⟨w5.heap.size, 7, none⟩ = some (.int .i64 mr.st) := block_cell bxg 7 _ rfl
    have Hinw := hide inw
    clear inw
    have Hbxw := hide bxw
    clear bxw
    have Hing := hide ing
    clear ing
    have Hbxg := hide bxg
    clear bxg
    have HB_ := hide B_w11
    clear B_w11
    go_wp2_with fail
    clear bxgc0 bxgc1 bxgc2 bxgc3 bxgc4 bxgc5 bxgc6 bxgc7
    have inw := Hinw.out
    clear Hinw
    have bxw := Hbxw.out
    clear Hbxw
    have ing := Hing.out
    clear Hing
    have bxg := Hbxg.out
    clear Hbxg
    have B_w11 := HB_.out
    clear HB_
    refine (markCarrier_sh w4.heap.size w5.heap.size _ mr 1 w11 ing (by omega) (by omega) (by omega) (by omega)).mono ?_
    rintro e w12 ⟨rfl, ing', sp_w12⟩
    replace inw := inw.step sp_w12 (by omega)
    replace bxw := sp_w12.box bxw (by omega)
    replace bxg := sp_w12.box bxg (by omega)
    have B_w12 : Below w.heap.size w w12 := B_w11.trans (sp_w12.below (by omega) (by omega))
    have hs_w12 : w11.heap.size ≤ w12.heap.size := sp_w12.size
    clear sp_w12 B_w11
    clear ing
    have ing := ing'
    clear ing'
    have hk2 : (0 : Int) ≤ 1 + (mr.l.length : Int) + 2 * (mr.g.length : Int) ∧ 1 + (mr.l.length : Int) + 2 * (mr.g.length : Int) ≤ 10000000 := by omega
    have bxgc0 : w12.cell? ⟨w5.heap.size, 0, none⟩ = some (.int .i64 mr.a) := block_cell bxg 0 _ rfl
    have bxgc1 : w12.cell? ⟨w5.heap.size, 1, none⟩ = some (.int .i64 mr.b) := block_cell bxg 1 _ rfl
    have bxgc2 : w12.cell? ⟨w5.heap.size, 2, none⟩ = some (.int .i64 mr.f) := block_cell bxg 2 _ rfl
    have bxgc3 : w12.cell? ⟨w5.heap.size, 3, none⟩ = some (.int .i64 mr.s) := block_cell bxg 3 _ rfl
    have bxgc4 : w12.cell? ⟨w5.heap.size, 4, none⟩ = some (.slice og mr.l.length cg) := block_cell bxg 4 _ rfl
    have bxgc5 : w12.cell? ⟨w5.heap.size, 5, none⟩ = some (.slice ogg mr.g.length cgg) := block_cell bxg 5 _ rfl
    have bxgc6 : w12.cell? ⟨w5.heap.size, 6, none⟩ = some (.int .i64 mr.pl) := block_cell bxg 6 _ rfl
    have bxgc7 : w12.cell? ⟨w5.heap.size, 7, none⟩ = some (.int .i64 mr.st) := block_cell bxg 7 _ rfl
    have Hinw := hide inw
    clear inw
    have Hbxw := hide bxw
    clear bxw
    have Hing := hide ing
    clear ing
    have Hbxg := hide bxg
    clear bxg
    have HB_ := hide B_w12
    clear B_w12
    go_wp2_with fail
    clear bxgc0 bxgc1 bxgc2 bxgc3 bxgc4 bxgc5 bxgc6 bxgc7
    have inw := Hinw.out
    clear Hinw
    have bxw := Hbxw.out
    clear Hbxw
    have ing := Hing.out
    clear Hing
    have bxg := Hbxg.out
    clear Hbxg
    have B_w12 := HB_.out
    clear HB_
    refine (heldCarrier_sh _ mr 1 w12 (ing.rd.le (by omega)) (by omega) (by omega) (by omega) (by omega)).mono ?_
    rintro e w13 ⟨rfl, hb_w13⟩
    replace inw := inw.step (Stp.of (lo := 0) (hi := 0) hb_w13) (.inl (Nat.zero_le _))
    replace bxw := (hb_w13.block _ (by omega)).trans bxw
    replace ing := ing.step (Stp.of (lo := 0) (hi := 0) hb_w13) (.inl (Nat.zero_le _))
    replace bxg := (hb_w13.block _ (by omega)).trans bxg
    have B_w13 : Below w.heap.size w w13 := B_w12.trans (hb_w13.mono B_w12.size)
    have hs_w13 : w12.heap.size ≤ w13.heap.size := hb_w13.size
    clear hb_w13 B_w12
    have Hinw := hide inw
    clear inw
    have Hbxw := hide bxw
    clear bxw
    have Hing := hide ing
    clear ing
    have Hbxg := hide bxg
    clear bxg
    have HB_ := hide B_w13
    clear B_w13
    go_wp2_with fail
    have inw := Hinw.out
    clear Hinw
    have bxw := Hbxw.out
    clear Hbxw
    have ing := Hing.out
    clear Hing
    have bxg := Hbxg.out
    clear Hbxg
    have B_w13 := HB_.out
    clear HB_
    refine (toByteS_full _ l w13 ((HV.out.kept B_w13 (Nat.le_refl _)).le B_w13.size) hB8 hlen).mono ?_
    rintro e w14 ⟨vy, rfl, fully, iny, hb_w14⟩
    have HFy := hide fully
    clear fully
    replace inw := inw.step (Stp.of (lo := 0) (hi := 0) hb_w14) (.inl (Nat.zero_le _))
    replace bxw := (hb_w14.block _ (by omega)).trans bxw
    replace ing := ing.step (Stp.of (lo := 0) (hi := 0) hb_w14) (.inl (Nat.zero_le _))
    replace bxg := (hb_w14.block _ (by omega)).trans bxg
    have B_w14 : Below w.heap.size w w14 := B_w13.trans (hb_w14.mono B_w13.size)
    have hs_w14 : w13.heap.size ≤ w14.heap.size := hb_w14.size
    clear hb_w14 B_w13
    have Hinw := hide inw
    clear inw
    have Hbxw := hide bxw
    clear bxw
    have Hing := hide ing
    clear ing
    have Hbxg := hide bxg
    clear bxg
    have Hiny := hide iny
    clear iny
    have HB_ := hide B_w14
    clear B_w14
    go_wp2_with fail
    have inw := Hinw.out
    clear Hinw
    have bxw := Hbxw.out
    clear Hbxw
    have ing := Hing.out
    clear Hing
    have bxg := Hbxg.out
    clear Hbxg
    have iny := Hiny.out
    clear Hiny
    have B_w14 := HB_.out
    clear HB_
    refine (HI.out _ w14 ((InL.rd (L := layB) iny).le (by omega)) HFy.out).mono ?_
    rintro e w15 ⟨vh, rfl, inh, hb_w15⟩
    replace inw := inw.step (Stp.of (lo := 0) (hi := 0) hb_w15) (.inl (Nat.zero_le _))
    replace bxw := (hb_w15.block _ (by omega)).trans bxw
    replace ing := ing.step (Stp.of (lo := 0) (hi := 0) hb_w15) (.inl (Nat.zero_le _))
    replace bxg := (hb_w15.block _ (by omega)).trans bxg
    replace iny := iny.step (Stp.of (lo := 0) (hi := 0) hb_w15) (.inl (Nat.zero_le _))
    have B_w15 : Below w.heap.size w w15 := B_w14.trans (hb_w15.mono B_w14.size)
    have hs_w15 : w14.heap.size ≤ w15.heap.size := hb_w15.size
    clear hb_w15 B_w14
    clear iny
    obtain ⟨vlh, vsh, rfl, ⟨oh, ch, rfl, _⟩, ⟨ogh, cgh, rfl, _⟩⟩ := inh.rd
    have bxh : (w15.alloc (.cells #[.int .i64 mr.a, .int .i64 mr.b, .int .i64 mr.f, .int .i64 mr.s, .slice oh mr.l.length ch, .slice ogh mr.g.length cgh, .int .i64 mr.pl, .int .i64 mr.st] 29)).heap[w15.heap.size]? = some (.cells #[.int .i64 mr.a, .int .i64 mr.b, .int .i64 mr.f, .int .i64 mr.s, .slice oh mr.l.length ch, .slice ogh mr.g.length cgh, .int .i64 mr.pl, .int .i64 mr.st] 29 (0, 0)) := World.alloc_heap_new w15 (.cells #[.int .i64 mr.a, .int .i64 mr.b, .int .i64 mr.f, .int .i64 mr.s, .slice oh mr.l.length ch, .slice ogh mr.g.length cgh, .int .i64 mr.pl, .int .i64 mr.st] 29)
    have hb_w16 : Below w15.heap.size w15 (w15.alloc (.cells #[.int .i64 mr.a, .int .i64 mr.b, .int .i64 mr.f, .int .i64 mr.s, .slice oh mr.l.length ch, .slice ogh mr.g.length cgh, .int .i64 mr.pl, .int .i64 mr.st] 29)) := (Below.refl _ _).alloc (Nat.le_refl _) _
    have hz_w16 : w15.heap.size < (w15.alloc (.cells #[.int .i64 mr.a, .int .i64 mr.b, .int .i64 mr.f, .int .i64 mr.s, .slice oh mr.l.length ch, .slice ogh mr.g.length cgh, .int .i64 mr.pl, .int .i64 mr.st] 29)).heap.size := by simp
    have bxwW := (hb_w16.block _ (by omega)).trans bxw
    have bxwc0 : (w15.alloc (.cells #[.int .i64 mr.a, .int .i64 mr.b, .int .i64 mr.f, .int .i64 mr.s, .slice oh mr.l.length ch, .slice ogh mr.g.length cgh, .int .i64 mr.pl, .int .i64 mr.st] 29)).cell? ⟨w2.heap.size, 0, none⟩ = some (.int .i64 mr.a) := block_cell bxwW 0 _ rfl
    have bxwc1 : (w15.alloc (.cells #[.int .i64 mr.a, .int .i64 mr.b, .int .i64 mr.f, .int .i64 mr.s, .slice oh mr.l.length ch, .slice ogh mr.g.length cgh, .int .i64 mr.pl, .int .i64 mr.st] 29)).cell? ⟨w2.heap.size, 1, none⟩ = some (.int .i64 mr.b) := block_cell bxwW 1 _ rfl
    have bxwc2 : (w15.alloc (.cells #[.int .i64 mr.a, .int .i64 mr.b, .int .i64 mr.f, .int .i64 mr.s, .slice oh mr.l.length ch, .slice ogh mr.g.length cgh, .int .i64 mr.pl, .int .i64 mr.st] 29)).cell? ⟨w2.heap.size, 2, none⟩ = some (.int .i64 mr.f) := block_cell bxwW 2 _ rfl
    have bxwc3 : (w15.alloc (.cells #[.int .i64 mr.a, .int .i64 mr.b, .int .i64 mr.f, .int .i64 mr.s, .slice oh mr.l.length ch, .slice ogh mr.g.length cgh, .int .i64 mr.pl, .int .i64 mr.st] 29)).cell? ⟨w2.heap.size, 3, none⟩ = some (.int .i64 mr.s) := block_cell bxwW 3 _ rfl
    have bxwc4 : (w15.alloc (.cells #[.int .i64 mr.a, .int .i64 mr.b, .int .i64 mr.f, .int .i64 mr.s, .slice oh mr.l.length ch, .slice ogh mr.g.length cgh, .int .i64 mr.pl, .int .i64 mr.st] 29)).cell? ⟨w2.heap.size, 4, none⟩ = some (.slice ow mr.l.length cw) := block_cell bxwW 4 _ rfl
    have bxwc5 : (w15.alloc (.cells #[.int .i64 mr.a, .int .i64 mr.b, .int .i64 mr.f, .int .i64 mr.s, .slice oh mr.l.length ch, .slice ogh mr.g.length cgh, .int .i64 mr.pl, .int .i64 mr.st] 29)).cell? ⟨w2.heap.size, 5, none⟩ = some (.slice ogw mr.g.length cgw) := block_cell bxwW 5 _ rfl
    have bxwc6 : (w15.alloc (.cells #[.int .i64 mr.a, .int .i64 mr.b, .int .i64 mr.f, .int .i64 mr.s, .slice oh mr.l.length ch, .slice ogh mr.g.length cgh, .int .i64 mr.pl, .int .i64 mr.st] 29)).cell? ⟨w2.heap.size, 6, none⟩ = some (.int .i64 mr.pl) := block_cell bxwW 6 _ rfl
    have bxwc7 : (w15.alloc (.cells #[.int .i64 mr.a, .int .i64 mr.b, .int .i64 mr.f, .int .i64 mr.s, .slice oh mr.l.length ch, .slice ogh mr.g.length cgh, .int .i64 mr.pl, .int .i64 mr.st] 29)).cell? ⟨w2.heap.size, 7, none⟩ = some (.int .i64 mr.st) := block_cell bxwW 7 _ rfl
    clear bxwW
    have bxhc0 : (w15.alloc (.cells #[.int .i64 mr.a, .int .i64 mr.b, .int .i64 mr.f, .int .i64 mr.s, .slice oh mr.l.length ch, .slice ogh mr.g.length cgh, .int .i64 mr.pl, .int .i64 mr.st] 29)).cell? ⟨w15.heap.size, 0, none⟩ = some (.int .i64 mr.a) := block_cell bxh 0 _ rfl
    have bxhc1 : (w15.alloc (.cells #[.int .i64 mr.a, .int .i64 mr.b, .int .i64 mr.f, .int .i64 mr.s, .slice oh mr.l.length ch, .slice ogh mr.g.length cgh, .int .i64 mr.pl, .int .i64 mr.st] 29)).cell? ⟨w15.heap.size, 1, none⟩ = some (.int .i64 mr.b) := block_cell bxh 1 _ rfl
    have bxhc2 : (w15.alloc (.cells #[.int .i64 mr.a, .int .i64 mr.b, .int .i64 mr.f, .int .i64 mr.s, .slice oh mr.l.length ch, .slice ogh mr.g.length cgh, .int .i64 mr.pl, .int .i64 mr.st] 29)).cell? ⟨w15.heap.size, 2, none⟩ = some (.int .i64 mr.f) := block_cell bxh 2 _ rfl
    have bxhc3 : (w15.alloc (.cells #[.int .i64 mr.a, .int .i64 mr.b, .int .i64 mr.f, .int .i64 mr.s, .slice oh mr.l.length ch, .slice ogh mr.g.length cgh, .int .i64 mr.pl, .int .i64 mr.st] 29)).cell? ⟨w15.heap.size, 3, none⟩ = some (.int .i64 mr.s) := block_cell bxh 3 _ rfl
    have bxhc4 : (w15.alloc (.cells #[.int .i64 mr.a, .int .i64 mr.b, .int .i64 mr.f, .int .i64 mr.s, .slice oh mr.l.length ch, .slice ogh mr.g.length cgh, .int .i64 mr.pl, .int .i64 mr.st] 29)).cell? ⟨w15.heap.size, 4, none⟩ = some (.slice oh mr.l.length ch) := block_cell bxh 4 _ rfl
    have bxhc5 : (w15.alloc (.cells #[.int .i64 mr.a, .int .i64 mr.b, .int .i64 mr.f, .int .i64 mr.s, .slice oh mr.l.length ch, .slice ogh mr.g.length cgh, .int .i64 mr.pl, .int .i64 mr.st] 29)).cell? ⟨w15.heap.size, 5, none⟩ = some (.slice ogh mr.g.length cgh) := block_cell bxh 5 _ rfl
    have bxhc6 : (w15.alloc (.cells #[.int .i64 mr.a, .int .i64 mr.b, .int .i64 mr.f, .int .i64 mr.s, .slice oh mr.l.length ch, .slice ogh mr.g.length cgh, .int .i64 mr.pl, .int .i64 mr.st] 29)).cell? ⟨w15.heap.size, 6, none⟩ = some (.int .i64 mr.pl) := block_cell bxh 6 _ rfl
    have bxhc7 : (w15.alloc (.cells #[.int .i64 mr.a, .int .i64 mr.b, .int .i64 mr.f, .int .i64 mr.s, .slice oh mr.l.length ch, .slice ogh mr.g.length cgh, .int .i64 mr.pl, .int .i64 mr.st] 29)).cell? ⟨w15.heap.size, 7, none⟩ = some (.int .i64 mr.st) := block_cell bxh 7 _ rfl
    have Hbxh := hide bxh
    have Hb_ := hide hb_w16
    clear bxh hb_w16
    have Hinw := hide inw
    clear inw
    have Hbxw := hide bxw
    clear bxw
    have Hing := hide ing
    clear ing
    have Hbxg := hide bxg
    clear bxg
    have Hinh := hide inh
    clear inh
    have HB_ := hide B_w15
    clear B_w15
    go_wp2_with fail
    clear bxwc0 bxwc1 bxwc2 bxwc3 bxwc4 bxwc5 bxwc6 bxwc7
    clear bxhc0 bxhc1 bxhc2 bxhc3 bxhc4 bxhc5 bxhc6 bxhc7
    have inw := Hinw.out
    clear Hinw
    have bxw := Hbxw.out
    clear Hbxw
    have ing := Hing.out
    clear Hing
    have bxg := Hbxg.out
    clear Hbxg
    have inh := Hinh.out
    clear Hinh
    have B_w15 := HB_.out
    clear HB_
    have bxh := Hbxh.out
    have hb_w16 := Hb_.out
    clear Hbxh Hb_
    generalize w15.alloc (.cells #[.int .i64 mr.a, .int .i64 mr.b, .int .i64 mr.f, .int .i64 mr.s, .slice oh mr.l.length ch, .slice ogh mr.g.length cgh, .int .i64 mr.pl, .int .i64 mr.st] 29) = w16 at *
    replace inw := inw.step (Stp.of (lo := 0) (hi := 0) hb_w16) (.inl (Nat.zero_le _))
    replace bxw := (hb_w16.block _ (by omega)).trans bxw
    replace ing := ing.step (Stp.of (lo := 0) (hi := 0) hb_w16) (.inl (Nat.zero_le _))
    replace bxg := (hb_w16.block _ (by omega)).trans bxg
    replace inh := inh.step (Stp.of (lo := 0) (hi := 0) hb_w16) (.inl (Nat.zero_le _))
    have B_w16 : Below w.heap.size w w16 := B_w15.trans (hb_w16.mono B_w15.size)
    have hs_w16 : w15.heap.size ≤ w16.heap.size := hb_w16.size
    clear hb_w16 B_w15
    refine (eqCarrier_sh _ _ mr w16 (inh.rd.le (by omega)) (inw.rd.le (by omega)) (by omega) (by omega)).mono ?_
    rintro e w17 ⟨rfl, hb_w17⟩
    replace inw := inw.step (Stp.of (lo := 0) (hi := 0) hb_w17) (.inl (Nat.zero_le _))
    replace bxw := (hb_w17.block _ (by omega)).trans bxw
    replace ing := ing.step (Stp.of (lo := 0) (hi := 0) hb_w17) (.inl (Nat.zero_le _))
    replace bxg := (hb_w17.block _ (by omega)).trans bxg
    replace inh := inh.step (Stp.of (lo := 0) (hi := 0) hb_w17) (.inl (Nat.zero_le _))
    replace bxh := (hb_w17.block _ (by omega)).trans bxh
    have B_w17 : Below w.heap.size w w17 := B_w16.trans (hb_w17.mono B_w16.size)
    have hs_w17 : w16.heap.size ≤ w17.heap.size := hb_w17.size
    clear hb_w17 B_w16
    clear inh
    clear bxh
    have bxgc0 : w17.cell? ⟨w5.heap.size, 0, none⟩ = some (.int .i64 mr.a) := block_cell bxg 0 _ rfl
    have bxgc1 : w17.cell? ⟨w5.heap.size, 1, none⟩ = some (.int .i64 mr.b) := block_cell bxg 1 _ rfl
    have bxgc2 : w17.cell? ⟨w5.heap.size, 2, none⟩ = some (.int .i64 mr.f) := block_cell bxg 2 _ rfl
    have bxgc3 : w17.cell? ⟨w5.heap.size, 3, none⟩ = some (.int .i64 mr.s) := block_cell bxg 3 _ rfl
    have bxgc4 : w17.cell? ⟨w5.heap.size, 4, none⟩ = some (.slice og mr.l.length cg) := block_cell bxg 4 _ rfl
    have bxgc5 : w17.cell? ⟨w5.heap.size, 5, none⟩ = some (.slice ogg mr.g.length cgg) := block_cell bxg 5 _ rfl
    have bxgc6 : w17.cell? ⟨w5.heap.size, 6, none⟩ = some (.int .i64 mr.pl) := block_cell bxg 6 _ rfl
    have bxgc7 : w17.cell? ⟨w5.heap.size, 7, none⟩ = some (.int .i64 mr.st) := block_cell bxg 7 _ rfl
    have Hinw := hide inw
    clear inw
    have Hbxw := hide bxw
    clear bxw
    have Hing := hide ing
    clear ing
    have Hbxg := hide bxg
    clear bxg
    have HB_ := hide B_w17
    clear B_w17
    go_wp2_with fail
    clear bxgc0 bxgc1 bxgc2 bxgc3 bxgc4 bxgc5 bxgc6 bxgc7
    have inw := Hinw.out
    clear Hinw
    have bxw := Hbxw.out
    clear Hbxw
    have ing := Hing.out
    clear Hing
    have bxg := Hbxg.out
    clear Hbxg
    have B_w17 := HB_.out
    clear HB_
    refine (heldCarrier_sh _ mr 1 w17 (ing.rd.le (by omega)) (by omega) (by omega) (by omega) (by omega)).mono ?_
    rintro e w18 ⟨rfl, hb_w18⟩
    replace inw := inw.step (Stp.of (lo := 0) (hi := 0) hb_w18) (.inl (Nat.zero_le _))
    replace bxw := (hb_w18.block _ (by omega)).trans bxw
    replace ing := ing.step (Stp.of (lo := 0) (hi := 0) hb_w18) (.inl (Nat.zero_le _))
    replace bxg := (hb_w18.block _ (by omega)).trans bxg
    have B_w18 : Below w.heap.size w w18 := B_w17.trans (hb_w18.mono B_w17.size)
    have hs_w18 : w17.heap.size ≤ w18.heap.size := hb_w18.size
    clear hb_w18 B_w17
    have Hinw := hide inw
    clear inw
    have Hbxw := hide bxw
    clear bxw
    have Hing := hide ing
    clear ing
    have Hbxg := hide bxg
    clear bxg
    have HB_ := hide B_w18
    clear B_w18
    go_wp2
    go_ret
    exact ⟨rfl, HB_.out⟩
  · have hB : Below w.heap.size w w := Below.refl _ _
    unfold maxLen at hm
    go_enter Try.func4, Try.ntmps4
    go_wp2
    go_ret
    exact ⟨rfl, by (repeat (first | with_reducible exact hB | with_reducible exact Below.refl _ _ | with_reducible refine Below.drew ?_ | with_reducible refine below_drewN ?_ _ | with_reducible refine Below.alloc ?_ ?_ _ | with_reducible refine Below.setCell ?_ ?_ _ | (focus (simp; done)) | (focus (simp; omega)) | omega))⟩

set_option maxRecDepth 100000 in
theorem fnExactCarrierRead_lifted (os : Os) (started : os.Started) (H : Type) (enc : TypeId × Value → H) :
    ReturnsInHanded {} Try.checked os 4 .any (Rows.fnExactCarrierReadSpec.pre6 enc Try.prog Try.f4 Rows.fnExactCarrierReadRow.domain false) (Rows.fnExactCarrierReadSpec.post enc Try.prog Try.f4 false true false false) := by
  refine returnsInHanded_of_change (C := Try.checked) own started (by kernel_rfl) Try.func4
    (ChangeSpec.witness6 (enc := enc) (C := Try.checked) false ⟨#[], #[.slice none 0 0], []⟩ 8 (by kernel_rfl) (by kernel_rfl) (by kernel_rfl) (by kernel_rfl)) ?_
  intro W base args ds gs before hval0 hW hcnd _
  have hval : ∀ (j : Nat) t v, Try.f4.params[j]? = some t → args[j]? = some v → Value.okWide Try.prog W .any base t v := hval0
  have hW' := hW
  obtain ⟨p, q, hA0, hV, rfl, hfz, hnd⟩ := hW
  have hA : DataW.TrodAll enc Try.prog W 0 (fun _ => true) true Try.f4.params.toList args.toList ds p := hA0
  rw [Try.params4] at hA hval
  obtain ⟨v0, vs0, d0, ds0, p0, q0, hargs, rfl, rfl, h0, r0⟩ := trodAll_cons hA
  obtain ⟨rfl, rfl, rfl⟩ := trodAll_nil r0
  obtain rfl : args = #[v0] := by cases args; simp_all
  obtain ⟨rfl, rfl⟩ := trodVars_none hV
  have k0 := h0
  have lt0 : ∀ x ∈ p0, x.block < W.heap.size := by obtain ⟨m, hm⟩ := k0; exact DataW.trod_lt m _ _ _ hm
  obtain ⟨o0, cap0, l0, rfl, hm0, hR0, hB80⟩ := open_bytes (hval 0 22 v0 rfl rfl) h0
  clear hA0 hval0
  refine (lawFnExactCarrierRead o0 cap0 l0 W hm0 hR0 hB80 ).mono fun e W' ⟨he, bel⟩ => ?_
  subst he
  exact ⟨_, rfl, _, _, _, [], _, [], hW', trodAll_mk1 (shut_bool Try.underlying4 _), (trodAll_cons_mk (Below.trod laidOut (by kernel_rfl) (of_decide_eq_true (by kernel_rfl)) k0 bel lt0) trodAll_mk0), rfl, bel.frame _, fun h => by cases h⟩

theorem fnExactCarrierRead_over : Rows.fnExactCarrierReadRow.holds Try.pinned (OpenSpec.ofChange Rows.fnExactCarrierReadSpec) :=
  OpenClaim.holds_of_wide 4 Try.f4 rfl rfl rfl rfl rfl rfl rfl ⟨rfl, rfl, rfl, rfl, rfl⟩ rfl rfl rfl rfl rfl (by kernel_rfl) Try.func4 (by kernel_rfl)
    (of_decide_eq_true (by kernel_rfl)) (by unfold Func.isWrapper; first | (rw [if_pos (by decide +kernel)]; kernel_rfl) | (rw [if_neg (by decide +kernel)]; exact ⟨rfl, rfl⟩))
    (fun os started H enc _ => fnExactCarrierRead_lifted os started H enc)

theorem fnExactCarrierRead_holds : Rows.FnExactCarrierReadSaid := fnExactCarrierRead_over

end Go.Proofs.Ytoeoiljddcjphaa
