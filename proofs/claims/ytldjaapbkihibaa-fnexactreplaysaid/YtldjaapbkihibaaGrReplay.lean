/- For every journal the law FnExactReplay answers true, and the journal reads as it did: impl.Replay answers as the model's, writes nothing into what it is handed, and its answer owns its memory. No conditions. -/
import Derived.Test.YtldjaapbkihibaaShJ
import Derived.Test.YtldjaapbkihibaaGrSRepl2
import Derived.Deep.RegionHeld3
namespace Go.Proofs.Ytldjaapbkihibaa
open Go.ChangeShapes Go.WideShapes Go.ChangeAt Go.RowKit Go.Joins
set_option linter.unusedVariables false
set_option linter.unusedSimpArgs false

set_option maxRecDepth 100000 in
set_option maxHeartbeats 8000000 in
theorem lawFnExactReplay (v : Value) (m : Jm) (w : World) (hR : RdJm w.heap.size w v m) (hl : m.l.length ≤ maxLen) :
    Calls Try.prog 11 #[v] w fun e w' => e = .returned (.bool true) ∧ Below w.heap.size w w' := by
  have hR0 := hR
  by_cases hfit : m.l.length ≤ 1048576
  · have hf : fitJm m := hfit
    have hmr := replay_fit m
    have HS := hide (fun v w h (hc : capJm v) => specReplay_sh v m w h hc hf)
    have HI := hide (fun v w h (hc : capJm v) => implReplay_sh v m w h hc hf)
    generalize journalB m.key m.l m.safe = t at *
    generalize replayM m = mr at *
    obtain ⟨vla, rfl, ⟨oa, ca, rfl, _⟩⟩ := hR0
    have bxa : (w.alloc (.cells #[.int .i64 m.key, .slice oa m.l.length ca, .int .i64 m.safe] 81)).heap[w.heap.size]? = some (.cells #[.int .i64 m.key, .slice oa m.l.length ca, .int .i64 m.safe] 81 (0, 0)) := World.alloc_heap_new w (.cells #[.int .i64 m.key, .slice oa m.l.length ca, .int .i64 m.safe] 81)
    have hb_w0 : Below w.heap.size w (w.alloc (.cells #[.int .i64 m.key, .slice oa m.l.length ca, .int .i64 m.safe] 81)) := (Below.refl _ _).alloc (Nat.le_refl _) _
    have hz_w0 : w.heap.size < (w.alloc (.cells #[.int .i64 m.key, .slice oa m.l.length ca, .int .i64 m.safe] 81)).heap.size := by simp
    have Hbxa := hide bxa
    have Hb_ := hide hb_w0
    have HR := hide hR
    clear bxa hb_w0 hR
    go_enter Try.func11, Try.ntmps11
    go_wp2_with fail
    have bxa := Hbxa.out
    have hb_w0 := Hb_.out
    have hR := HR.out
    clear Hbxa Hb_ HR
    generalize w.alloc (.cells #[.int .i64 m.key, .slice oa m.l.length ca, .int .i64 m.safe] 81) = w0 at *
    have B_w0 := hb_w0
    clear hb_w0
    refine (szJournal_sh _ m w.heap.size w0 (hR.kept B_w0 (Nat.le_refl _)) hl).mono ?_
    rintro e w1 ⟨⟨nn, rfl, hpos, hneg, hn1, hn2⟩, hb_w1⟩
    have hnn := hpos hfit
    clear hpos hneg
    replace bxa := (hb_w1.block _ (by omega)).trans bxa
    have B_w1 : Below w.heap.size w w1 := B_w0.trans (hb_w1.mono B_w0.size)
    have hs_w1 : w0.heap.size ≤ w1.heap.size := hb_w1.size
    clear hb_w1 B_w0
    have bxac0 : w1.cell? ⟨w.heap.size, 0, none⟩ = some (.int .i64 m.key) := block_cell0 bxa 0 _ rfl
    have bxac1 : w1.cell? ⟨w.heap.size, 1, none⟩ = some (.slice oa m.l.length ca) := block_cell0 bxa 1 _ rfl
    have bxac2 : w1.cell? ⟨w.heap.size, 2, none⟩ = some (.int .i64 m.safe) := block_cell0 bxa 2 _ rfl
    have Hbxa := hide bxa
    clear bxa
    have HB_ := hide B_w1
    clear B_w1
    go_wp2_with fail
    clear bxac0 bxac1 bxac2
    have bxa := Hbxa.out
    clear Hbxa
    have B_w1 := HB_.out
    clear HB_
    refine (toJournal_sh _ m w1 ((hR.kept B_w1 (Nat.le_refl _)).le B_w1.size) hf).mono ?_
    rintro e w2 ⟨v2, rfl, in2, hb_w2⟩
    replace bxa := (hb_w2.block _ (by omega)).trans bxa
    have B_w2 : Below w.heap.size w w2 := B_w1.trans (hb_w2.mono B_w1.size)
    have hs_w2 : w1.heap.size ≤ w2.heap.size := hb_w2.size
    clear hb_w2 B_w1
    have Hbxa := hide bxa
    clear bxa
    have Hin2 := hide in2
    clear in2
    have HB_ := hide B_w2
    clear B_w2
    go_wp2_with fail
    have bxa := Hbxa.out
    clear Hbxa
    have in2 := Hin2.out
    clear Hin2
    have B_w2 := HB_.out
    clear HB_
    refine (HS.out _ w2 (in2.rd.le (by omega)) in2.cap).mono ?_
    rintro e w3 ⟨vw, rfl, inw, hb_w3⟩
    replace bxa := (hb_w3.block _ (by omega)).trans bxa
    replace in2 := in2.step (Stp.of (lo := 0) (hi := 0) hb_w3) (.inl (Nat.zero_le _))
    have B_w3 : Below w.heap.size w w3 := B_w2.trans (hb_w3.mono B_w2.size)
    have hs_w3 : w2.heap.size ≤ w3.heap.size := hb_w3.size
    clear hb_w3 B_w2
    clear in2
    obtain ⟨ow, cw, oRw, cRw, evw⟩ := inw.rd.opn
    subst evw
    have bxw : (w3.alloc (.cells #[.int .i64 mr.key, .slice ow mr.l.length cw, .slice oRw mr.ring.length cRw] 26)).heap[w3.heap.size]? = some (.cells #[.int .i64 mr.key, .slice ow mr.l.length cw, .slice oRw mr.ring.length cRw] 26 (0, 0)) := World.alloc_heap_new w3 (.cells #[.int .i64 mr.key, .slice ow mr.l.length cw, .slice oRw mr.ring.length cRw] 26)
    have hb_w4 : Below w3.heap.size w3 (w3.alloc (.cells #[.int .i64 mr.key, .slice ow mr.l.length cw, .slice oRw mr.ring.length cRw] 26)) := (Below.refl _ _).alloc (Nat.le_refl _) _
    have hz_w4 : w3.heap.size < (w3.alloc (.cells #[.int .i64 mr.key, .slice ow mr.l.length cw, .slice oRw mr.ring.length cRw] 26)).heap.size := by simp
    have bxaW := (hb_w4.block _ (by omega)).trans bxa
    have bxac0 : (w3.alloc (.cells #[.int .i64 mr.key, .slice ow mr.l.length cw, .slice oRw mr.ring.length cRw] 26)).cell? ⟨w.heap.size, 0, none⟩ = some (.int .i64 m.key) := block_cell0 bxaW 0 _ rfl
    have bxac1 : (w3.alloc (.cells #[.int .i64 mr.key, .slice ow mr.l.length cw, .slice oRw mr.ring.length cRw] 26)).cell? ⟨w.heap.size, 1, none⟩ = some (.slice oa m.l.length ca) := block_cell0 bxaW 1 _ rfl
    have bxac2 : (w3.alloc (.cells #[.int .i64 mr.key, .slice ow mr.l.length cw, .slice oRw mr.ring.length cRw] 26)).cell? ⟨w.heap.size, 2, none⟩ = some (.int .i64 m.safe) := block_cell0 bxaW 2 _ rfl
    clear bxaW
    have bxwc0 : (w3.alloc (.cells #[.int .i64 mr.key, .slice ow mr.l.length cw, .slice oRw mr.ring.length cRw] 26)).cell? ⟨w3.heap.size, 0, none⟩ = some (.int .i64 mr.key) := block_cell0 bxw 0 _ rfl
    have bxwc1 : (w3.alloc (.cells #[.int .i64 mr.key, .slice ow mr.l.length cw, .slice oRw mr.ring.length cRw] 26)).cell? ⟨w3.heap.size, 1, none⟩ = some (.slice ow mr.l.length cw) := block_cell0 bxw 1 _ rfl
    have bxwc2 : (w3.alloc (.cells #[.int .i64 mr.key, .slice ow mr.l.length cw, .slice oRw mr.ring.length cRw] 26)).cell? ⟨w3.heap.size, 2, none⟩ = some (.slice oRw mr.ring.length cRw) := block_cell0 bxw 2 _ rfl
    have Hbxw := hide bxw
    have Hb_ := hide hb_w4
    clear bxw hb_w4
    have Hbxa := hide bxa
    clear bxa
    have Hinw := hide inw
    clear inw
    have HB_ := hide B_w3
    clear B_w3
    go_wp2_with fail
    clear bxac0 bxac1 bxac2
    clear bxwc0 bxwc1 bxwc2
    have bxa := Hbxa.out
    clear Hbxa
    have inw := Hinw.out
    clear Hinw
    have B_w3 := HB_.out
    clear HB_
    have bxw := Hbxw.out
    have hb_w4 := Hb_.out
    clear Hbxw Hb_
    generalize w3.alloc (.cells #[.int .i64 mr.key, .slice ow mr.l.length cw, .slice oRw mr.ring.length cRw] 26) = w4 at *
    replace bxa := (hb_w4.block _ (by omega)).trans bxa
    replace inw := inw.step (Stp.of (lo := 0) (hi := 0) hb_w4) (.inl (Nat.zero_le _))
    have B_w4 : Below w.heap.size w w4 := B_w3.trans (hb_w4.mono B_w3.size)
    have hs_w4 : w3.heap.size ≤ w4.heap.size := hb_w4.size
    clear hb_w4 B_w3
    refine (toJournal_sh _ m w4 ((hR.kept B_w4 (Nat.le_refl _)).le B_w4.size) hf).mono ?_
    rintro e w5 ⟨vx, rfl, inx, hb_w5⟩
    replace bxa := (hb_w5.block _ (by omega)).trans bxa
    replace inw := inw.step (Stp.of (lo := 0) (hi := 0) hb_w5) (.inl (Nat.zero_le _))
    replace bxw := (hb_w5.block _ (by omega)).trans bxw
    have B_w5 : Below w.heap.size w w5 := B_w4.trans (hb_w5.mono B_w4.size)
    have hs_w5 : w4.heap.size ≤ w5.heap.size := hb_w5.size
    clear hb_w5 B_w4
    obtain ⟨vlx, rfl, ⟨ox, cx, rfl, _⟩⟩ := inx.rd
    have bxx : (w5.alloc (.cells #[.int .i64 m.key, .slice ox m.l.length cx, .int .i64 m.safe] 47)).heap[w5.heap.size]? = some (.cells #[.int .i64 m.key, .slice ox m.l.length cx, .int .i64 m.safe] 47 (0, 0)) := World.alloc_heap_new w5 (.cells #[.int .i64 m.key, .slice ox m.l.length cx, .int .i64 m.safe] 47)
    have hb_w6 : Below w5.heap.size w5 (w5.alloc (.cells #[.int .i64 m.key, .slice ox m.l.length cx, .int .i64 m.safe] 47)) := (Below.refl _ _).alloc (Nat.le_refl _) _
    have hz_w6 : w5.heap.size < (w5.alloc (.cells #[.int .i64 m.key, .slice ox m.l.length cx, .int .i64 m.safe] 47)).heap.size := by simp
    have bxxc0 : (w5.alloc (.cells #[.int .i64 m.key, .slice ox m.l.length cx, .int .i64 m.safe] 47)).cell? ⟨w5.heap.size, 0, none⟩ = some (.int .i64 m.key) := block_cell0 bxx 0 _ rfl
    have bxxc1 : (w5.alloc (.cells #[.int .i64 m.key, .slice ox m.l.length cx, .int .i64 m.safe] 47)).cell? ⟨w5.heap.size, 1, none⟩ = some (.slice ox m.l.length cx) := block_cell0 bxx 1 _ rfl
    have bxxc2 : (w5.alloc (.cells #[.int .i64 m.key, .slice ox m.l.length cx, .int .i64 m.safe] 47)).cell? ⟨w5.heap.size, 2, none⟩ = some (.int .i64 m.safe) := block_cell0 bxx 2 _ rfl
    have Hbxx := hide bxx
    have Hb_ := hide hb_w6
    clear bxx hb_w6
    have Hbxa := hide bxa
    clear bxa
    have Hinw := hide inw
    clear inw
    have Hbxw := hide bxw
    clear bxw
    have Hinx := hide inx
    clear inx
    have HB_ := hide B_w5
    clear B_w5
    go_wp2_with fail
    clear bxxc0 bxxc1 bxxc2
    have bxa := Hbxa.out
    clear Hbxa
    have inw := Hinw.out
    clear Hinw
    have bxw := Hbxw.out
    clear Hbxw
    have inx := Hinx.out
    clear Hinx
    have B_w5 := HB_.out
    clear HB_
    have bxx := Hbxx.out
    have hb_w6 := Hb_.out
    clear Hbxx Hb_
    generalize w5.alloc (.cells #[.int .i64 m.key, .slice ox m.l.length cx, .int .i64 m.safe] 47) = w6 at *
    replace bxa := (hb_w6.block _ (by omega)).trans bxa
    replace inw := inw.step (Stp.of (lo := 0) (hi := 0) hb_w6) (.inl (Nat.zero_le _))
    replace bxw := (hb_w6.block _ (by omega)).trans bxw
    replace inx := inx.step (Stp.of (lo := 0) (hi := 0) hb_w6) (.inl (Nat.zero_le _))
    have B_w6 : Below w.heap.size w w6 := B_w5.trans (hb_w6.mono B_w5.size)
    have hs_w6 : w5.heap.size ≤ w6.heap.size := hb_w6.size
    clear hb_w6 B_w5
    refine (HI.out _ w6 (inx.rd.le (by omega)) inx.cap).mono ?_
    rintro e w7 ⟨vg, rfl, ing, hb_w7⟩
    replace bxa := (hb_w7.block _ (by omega)).trans bxa
    replace inw := inw.step (Stp.of (lo := 0) (hi := 0) hb_w7) (.inl (Nat.zero_le _))
    replace bxw := (hb_w7.block _ (by omega)).trans bxw
    replace inx := inx.step (Stp.of (lo := 0) (hi := 0) hb_w7) (.inl (Nat.zero_le _))
    replace bxx := (hb_w7.block _ (by omega)).trans bxx
    have B_w7 : Below w.heap.size w w7 := B_w6.trans (hb_w7.mono B_w6.size)
    have hs_w7 : w6.heap.size ≤ w7.heap.size := hb_w7.size
    clear hb_w7 B_w6
    obtain ⟨og, cg, oRg, cRg, evg⟩ := ing.rd.opn
    subst evg
    have bxg : (w7.alloc (.cells #[.int .i64 mr.key, .slice og mr.l.length cg, .slice oRg mr.ring.length cRg] 26)).heap[w7.heap.size]? = some (.cells #[.int .i64 mr.key, .slice og mr.l.length cg, .slice oRg mr.ring.length cRg] 26 (0, 0)) := World.alloc_heap_new w7 (.cells #[.int .i64 mr.key, .slice og mr.l.length cg, .slice oRg mr.ring.length cRg] 26)
    have hb_w8 : Below w7.heap.size w7 (w7.alloc (.cells #[.int .i64 mr.key, .slice og mr.l.length cg, .slice oRg mr.ring.length cRg] 26)) := (Below.refl _ _).alloc (Nat.le_refl _) _
    have hz_w8 : w7.heap.size < (w7.alloc (.cells #[.int .i64 mr.key, .slice og mr.l.length cg, .slice oRg mr.ring.length cRg] 26)).heap.size := by simp
    have bxwW := (hb_w8.block _ (by omega)).trans bxw
    have bxwc0 : (w7.alloc (.cells #[.int .i64 mr.key, .slice og mr.l.length cg, .slice oRg mr.ring.length cRg] 26)).cell? ⟨w3.heap.size, 0, none⟩ = some (.int .i64 mr.key) := block_cell0 bxwW 0 _ rfl
    have bxwc1 : (w7.alloc (.cells #[.int .i64 mr.key, .slice og mr.l.length cg, .slice oRg mr.ring.length cRg] 26)).cell? ⟨w3.heap.size, 1, none⟩ = some (.slice ow mr.l.length cw) := block_cell0 bxwW 1 _ rfl
    have bxwc2 : (w7.alloc (.cells #[.int .i64 mr.key, .slice og mr.l.length cg, .slice oRg mr.ring.length cRg] 26)).cell? ⟨w3.heap.size, 2, none⟩ = some (.slice oRw mr.ring.length cRw) := block_cell0 bxwW 2 _ rfl
    clear bxwW
    have bxgc0 : (w7.alloc (.cells #[.int .i64 mr.key, .slice og mr.l.length cg, .slice oRg mr.ring.length cRg] 26)).cell? ⟨w7.heap.size, 0, none⟩ = some (.int .i64 mr.key) := block_cell0 bxg 0 _ rfl
    have bxgc1 : (w7.alloc (.cells #[.int .i64 mr.key, .slice og mr.l.length cg, .slice oRg mr.ring.length cRg] 26)).cell? ⟨w7.heap.size, 1, none⟩ = some (.slice og mr.l.length cg) := block_cell0 bxg 1 _ rfl
    have bxgc2 : (w7.alloc (.cells #[.int .i64 mr.key, .slice og mr.l.length cg, .slice oRg mr.ring.length cRg] 26)).cell? ⟨w7.heap.size, 2, none⟩ = some (.slice oRg mr.ring.length cRg) := block_cell0 bxg 2 _ rfl
    have Hbxg := hide bxg
    have Hb_ := hide hb_w8
    clear bxg hb_w8
    have Hbxa := hide bxa
    clear bxa
    have Hinw := hide inw
    clear inw
    have Hbxw := hide bxw
    clear bxw
    have Hinx := hide inx
    clear inx
    have Hbxx := hide bxx
    clear bxx
    have Hing := hide ing
    clear ing
    have HB_ := hide B_w7
    clear B_w7
    go_wp2_with fail
    clear bxwc0 bxwc1 bxwc2
    clear bxgc0 bxgc1 bxgc2
    have bxa := Hbxa.out
    clear Hbxa
    have inw := Hinw.out
    clear Hinw
    have bxw := Hbxw.out
    clear Hbxw
    have inx := Hinx.out
    clear Hinx
    have bxx := Hbxx.out
    clear Hbxx
    have ing := Hing.out
    clear Hing
    have B_w7 := HB_.out
    clear HB_
    have bxg := Hbxg.out
    have hb_w8 := Hb_.out
    clear Hbxg Hb_
    generalize w7.alloc (.cells #[.int .i64 mr.key, .slice og mr.l.length cg, .slice oRg mr.ring.length cRg] 26) = w8 at *
    replace bxa := (hb_w8.block _ (by omega)).trans bxa
    replace inw := inw.step (Stp.of (lo := 0) (hi := 0) hb_w8) (.inl (Nat.zero_le _))
    replace bxw := (hb_w8.block _ (by omega)).trans bxw
    replace inx := inx.step (Stp.of (lo := 0) (hi := 0) hb_w8) (.inl (Nat.zero_le _))
    replace bxx := (hb_w8.block _ (by omega)).trans bxx
    replace ing := ing.step (Stp.of (lo := 0) (hi := 0) hb_w8) (.inl (Nat.zero_le _))
    have B_w8 : Below w.heap.size w w8 := B_w7.trans (hb_w8.mono B_w7.size)
    have hs_w8 : w7.heap.size ≤ w8.heap.size := hb_w8.size
    clear hb_w8 B_w7
    refine (eqPool_sh _ _ mr w8 (ing.rd.le (by omega)) (inw.rd.le (by omega)) hmr).mono ?_
    rintro e w9 ⟨rfl, hb_w9⟩
    replace bxa := (hb_w9.block _ (by omega)).trans bxa
    replace inw := inw.step (Stp.of (lo := 0) (hi := 0) hb_w9) (.inl (Nat.zero_le _))
    replace bxw := (hb_w9.block _ (by omega)).trans bxw
    replace inx := inx.step (Stp.of (lo := 0) (hi := 0) hb_w9) (.inl (Nat.zero_le _))
    replace bxx := (hb_w9.block _ (by omega)).trans bxx
    replace ing := ing.step (Stp.of (lo := 0) (hi := 0) hb_w9) (.inl (Nat.zero_le _))
    replace bxg := (hb_w9.block _ (by omega)).trans bxg
    have B_w9 : Below w.heap.size w w9 := B_w8.trans (hb_w9.mono B_w8.size)
    have hs_w9 : w8.heap.size ≤ w9.heap.size := hb_w9.size
    clear hb_w9 B_w8
    have bxac0 : w9.cell? ⟨w.heap.size, 0, none⟩ = some (.int .i64 m.key) := block_cell0 bxa 0 _ rfl
    have bxac1 : w9.cell? ⟨w.heap.size, 1, none⟩ = some (.slice oa m.l.length ca) := block_cell0 bxa 1 _ rfl
    have bxac2 : w9.cell? ⟨w.heap.size, 2, none⟩ = some (.int .i64 m.safe) := block_cell0 bxa 2 _ rfl
    have bxxc0 : w9.cell? ⟨w5.heap.size, 0, none⟩ = some (.int .i64 m.key) := block_cell0 bxx 0 _ rfl
    have bxxc1 : w9.cell? ⟨w5.heap.size, 1, none⟩ = some (.slice ox m.l.length cx) := block_cell0 bxx 1 _ rfl
    have bxxc2 : w9.cell? ⟨w5.heap.size, 2, none⟩ = some (.int .i64 m.safe) := block_cell0 bxx 2 _ rfl
    have Hbxa := hide bxa
    clear bxa
    have Hinw := hide inw
    clear inw
    have Hbxw := hide bxw
    clear bxw
    have Hinx := hide inx
    clear inx
    have Hbxx := hide bxx
    clear bxx
    have Hing := hide ing
    clear ing
    have Hbxg := hide bxg
    clear bxg
    have HB_ := hide B_w9
    clear B_w9
    go_wp2
    have hka : w.heap.size < w9.heap.size := by omega
    have hkx : w5.heap.size < w9.heap.size := by omega
    go_region_held3 (fun w' => w'.cell? ⟨w.heap.size, 0, none⟩ = some (.int .i64 m.key) ∧ w'.cell? ⟨w.heap.size, 1, none⟩ = some (.slice oa m.l.length ca) ∧ w'.cell? ⟨w.heap.size, 2, none⟩ = some (.int .i64 m.safe) ∧ w'.cell? ⟨w5.heap.size, 0, none⟩ = some (.int .i64 m.key) ∧ w'.cell? ⟨w5.heap.size, 1, none⟩ = some (.slice ox m.l.length cx) ∧ w'.cell? ⟨w5.heap.size, 2, none⟩ = some (.int .i64 m.safe)) (first | exact ⟨q0, q1, q2, q3, q4, q5⟩ | exact ⟨p0, p1, p2, p3, p4, p5⟩ | exact ⟨bxac0, bxac1, bxac2, bxxc0, bxxc1, bxxc2⟩) (first | (go_at_call 49; refine (toJournal_sh _ m w9.drew ((hR.kept (Below.drew HB_.out) (Nat.le_refl _)).le HB_.out.size) hf).mono ?_; rintro e w10 ⟨va, rfl, ina, hba⟩; replace hba : Below w9.heap.size w9 w10 := (Below.drew (Below.refl _ _)).trans hba; have p0 := (hba.cell (p := ⟨w.heap.size, 0, none⟩) hka).trans bxac0; have p1 := (hba.cell (p := ⟨w.heap.size, 1, none⟩) hka).trans bxac1; have p2 := (hba.cell (p := ⟨w.heap.size, 2, none⟩) hka).trans bxac2; have p3 := (hba.cell (p := ⟨w5.heap.size, 0, none⟩) hkx).trans bxxc0; have p4 := (hba.cell (p := ⟨w5.heap.size, 1, none⟩) hkx).trans bxxc1; have p5 := (hba.cell (p := ⟨w5.heap.size, 2, none⟩) hkx).trans bxxc2) | (go_at_call 50; refine (eqJournal_sh _ _ m w10 ((Hinx.out.rd.kept hba (by omega)).le (by have := hba.size; omega)) (ina.rd.le (Nat.le_refl _)) (by omega)).mono ?_; rintro e w11 ⟨rfl, hbb⟩; replace hbb : Below w9.heap.size w9 w11 := hba.trans (hbb.mono hba.size); have q0 := (hbb.cell (p := ⟨w.heap.size, 0, none⟩) hka).trans bxac0; have q1 := (hbb.cell (p := ⟨w.heap.size, 1, none⟩) hka).trans bxac1; have q2 := (hbb.cell (p := ⟨w.heap.size, 2, none⟩) hka).trans bxac2; have q3 := (hbb.cell (p := ⟨w5.heap.size, 0, none⟩) hkx).trans bxxc0; have q4 := (hbb.cell (p := ⟨w5.heap.size, 1, none⟩) hkx).trans bxxc1; have q5 := (hbb.cell (p := ⟨w5.heap.size, 2, none⟩) hkx).trans bxxc2))
    clear p0 q0 p1 q1 p2 q2 p3 q3 p4 q4 p5 q5 hka hkx ina hba
    clear bxac0 bxac1 bxac2
    clear bxxc0 bxxc1 bxxc2
    have bxa := Hbxa.out
    clear Hbxa
    have inw := Hinw.out
    clear Hinw
    have bxw := Hbxw.out
    clear Hbxw
    have inx := Hinx.out
    clear Hinx
    have bxx := Hbxx.out
    clear Hbxx
    have ing := Hing.out
    clear Hing
    have bxg := Hbxg.out
    clear Hbxg
    have B_w9 := HB_.out
    clear HB_
    replace bxa := (hbb.block _ (by omega)).trans bxa
    replace inw := inw.step (Stp.of (lo := 0) (hi := 0) hbb) (.inl (Nat.zero_le _))
    replace bxw := (hbb.block _ (by omega)).trans bxw
    replace inx := inx.step (Stp.of (lo := 0) (hi := 0) hbb) (.inl (Nat.zero_le _))
    replace bxx := (hbb.block _ (by omega)).trans bxx
    replace ing := ing.step (Stp.of (lo := 0) (hi := 0) hbb) (.inl (Nat.zero_le _))
    replace bxg := (hbb.block _ (by omega)).trans bxg
    have B_w11 : Below w.heap.size w w11 := B_w9.trans (hbb.mono B_w9.size)
    have hs_w11 : w9.heap.size ≤ w11.heap.size := hbb.size
    clear hbb B_w9
    have bxxc0 : w11.cell? ⟨w5.heap.size, 0, none⟩ = some (.int .i64 m.key) := block_cell0 bxx 0 _ rfl
    have bxxc1 : w11.cell? ⟨w5.heap.size, 1, none⟩ = some (.slice ox m.l.length cx) := block_cell0 bxx 1 _ rfl
    have bxxc2 : w11.cell? ⟨w5.heap.size, 2, none⟩ = some (.int .i64 m.safe) := block_cell0 bxx 2 _ rfl
    have Hbxa := hide bxa
    clear bxa
    have Hinw := hide inw
    clear inw
    have Hbxw := hide bxw
    clear bxw
    have Hinx := hide inx
    clear inx
    have Hbxx := hide bxx
    clear bxx
    have Hing := hide ing
    clear ing
    have Hbxg := hide bxg
    clear bxg
    have HB_ := hide B_w11
    clear B_w11
    go_wp2_with fail
    clear bxxc0 bxxc1 bxxc2
    have bxa := Hbxa.out
    clear Hbxa
    have inw := Hinw.out
    clear Hinw
    have bxw := Hbxw.out
    clear Hbxw
    have inx := Hinx.out
    clear Hinx
    have bxx := Hbxx.out
    clear Hbxx
    have ing := Hing.out
    clear Hing
    have bxg := Hbxg.out
    clear Hbxg
    have B_w11 := HB_.out
    clear HB_
    refine (markJournal_sh w4.heap.size w5.heap.size _ m 1 w11 inx (by omega) (by omega) (by omega)).mono ?_
    rintro e w12 ⟨rfl, _, sp_w12⟩
    clear bxx
    replace bxa := sp_w12.box bxa (by omega)
    replace inw := inw.step sp_w12 (by omega)
    replace bxw := sp_w12.box bxw (by omega)
    replace ing := ing.step sp_w12 (by omega)
    replace bxg := sp_w12.box bxg (by omega)
    have B_w12 : Below w.heap.size w w12 := B_w11.trans (sp_w12.below (by omega) (by omega))
    have hs_w12 : w11.heap.size ≤ w12.heap.size := sp_w12.size
    clear sp_w12 B_w11
    clear inx
    have hk1 : (0 : Int) ≤ 1 + 3 * (m.l.length : Int) := by omega
    have bxgc0 : w12.cell? ⟨w7.heap.size, 0, none⟩ = some (.int .i64 mr.key) := block_cell0 bxg 0 _ rfl
    have bxgc1 : w12.cell? ⟨w7.heap.size, 1, none⟩ = some (.slice og mr.l.length cg) := block_cell0 bxg 1 _ rfl
    have bxgc2 : w12.cell? ⟨w7.heap.size, 2, none⟩ = some (.slice oRg mr.ring.length cRg) := block_cell0 bxg 2 _ rfl
    have bxwc0 : w12.cell? ⟨w3.heap.size, 0, none⟩ = some (.int .i64 mr.key) := block_cell0 bxw 0 _ rfl
    have bxwc1 : w12.cell? ⟨w3.heap.size, 1, none⟩ = some (.slice ow mr.l.length cw) := block_cell0 bxw 1 _ rfl
    have bxwc2 : w12.cell? ⟨w3.heap.size, 2, none⟩ = some (.slice oRw mr.ring.length cRw) := block_cell0 bxw 2 _ rfl
    have Hbxa := hide bxa
    clear bxa
    have Hinw := hide inw
    clear inw
    have Hbxw := hide bxw
    clear bxw
    have Hing := hide ing
    clear ing
    have Hbxg := hide bxg
    clear bxg
    have HB_ := hide B_w12
    clear B_w12
    go_wp2_with fail
    clear bxgc0 bxgc1 bxgc2
    clear bxwc0 bxwc1 bxwc2
    have bxa := Hbxa.out
    clear Hbxa
    have inw := Hinw.out
    clear Hinw
    have bxw := Hbxw.out
    clear Hbxw
    have ing := Hing.out
    clear Hing
    have bxg := Hbxg.out
    clear Hbxg
    have B_w12 := HB_.out
    clear HB_
    refine (eqPool_sh _ _ mr w12 (ing.rd.le (by omega)) (inw.rd.le (by omega)) hmr).mono ?_
    rintro e w13 ⟨rfl, hb_w13⟩
    replace bxa := (hb_w13.block _ (by omega)).trans bxa
    replace inw := inw.step (Stp.of (lo := 0) (hi := 0) hb_w13) (.inl (Nat.zero_le _))
    replace bxw := (hb_w13.block _ (by omega)).trans bxw
    replace ing := ing.step (Stp.of (lo := 0) (hi := 0) hb_w13) (.inl (Nat.zero_le _))
    replace bxg := (hb_w13.block _ (by omega)).trans bxg
    have B_w13 : Below w.heap.size w w13 := B_w12.trans (hb_w13.mono B_w12.size)
    have hs_w13 : w12.heap.size ≤ w13.heap.size := hb_w13.size
    clear hb_w13 B_w12
    have bxgc0 : w13.cell? ⟨w7.heap.size, 0, none⟩ = some (.int .i64 mr.key) := block_cell0 bxg 0 _ rfl
    have bxgc1 : w13.cell? ⟨w7.heap.size, 1, none⟩ = some (.slice og mr.l.length cg) := block_cell0 bxg 1 _ rfl
    have bxgc2 : w13.cell? ⟨w7.heap.size, 2, none⟩ = some (.slice oRg mr.ring.length cRg) := block_cell0 bxg 2 _ rfl
    have Hbxa := hide bxa
    clear bxa
    have Hinw := hide inw
    clear inw
    have Hbxw := hide bxw
    clear bxw
    have Hing := hide ing
    clear ing
    have Hbxg := hide bxg
    clear bxg
    have HB_ := hide B_w13
    clear B_w13
    go_wp2_with fail
    clear bxgc0 bxgc1 bxgc2
    have bxa := Hbxa.out
    clear Hbxa
    have inw := Hinw.out
    clear Hinw
    have bxw := Hbxw.out
    clear Hbxw
    have ing := Hing.out
    clear Hing
    have bxg := Hbxg.out
    clear Hbxg
    have B_w13 := HB_.out
    clear HB_
    refine (markPool_sh w6.heap.size w7.heap.size _ mr 1 w13 ing (by omega) (by omega) hmr).mono ?_
    rintro e w14 ⟨rfl, ing', sp_w14⟩
    replace bxa := sp_w14.box bxa (by omega)
    replace inw := inw.step sp_w14 (by omega)
    replace bxw := sp_w14.box bxw (by omega)
    replace bxg := sp_w14.box bxg (by omega)
    have B_w14 : Below w.heap.size w w14 := B_w13.trans (sp_w14.below (by omega) (by omega))
    have hs_w14 : w13.heap.size ≤ w14.heap.size := sp_w14.size
    clear sp_w14 B_w13
    clear ing
    have ing := ing'
    clear ing'
    have hk2 : (0 : Int) ≤ 1 + nPm mr ∧ 1 + nPm mr ≤ 10000000 := by (have := nPm_bd hmr; omega)
    have bxgc0 : w14.cell? ⟨w7.heap.size, 0, none⟩ = some (.int .i64 mr.key) := block_cell0 bxg 0 _ rfl
    have bxgc1 : w14.cell? ⟨w7.heap.size, 1, none⟩ = some (.slice og mr.l.length cg) := block_cell0 bxg 1 _ rfl
    have bxgc2 : w14.cell? ⟨w7.heap.size, 2, none⟩ = some (.slice oRg mr.ring.length cRg) := block_cell0 bxg 2 _ rfl
    have Hbxa := hide bxa
    clear bxa
    have Hinw := hide inw
    clear inw
    have Hbxw := hide bxw
    clear bxw
    have Hing := hide ing
    clear ing
    have Hbxg := hide bxg
    clear bxg
    have HB_ := hide B_w14
    clear B_w14
    go_wp2_with fail
    clear bxgc0 bxgc1 bxgc2
    have bxa := Hbxa.out
    clear Hbxa
    have inw := Hinw.out
    clear Hinw
    have bxw := Hbxw.out
    clear Hbxw
    have ing := Hing.out
    clear Hing
    have bxg := Hbxg.out
    clear Hbxg
    have B_w14 := HB_.out
    clear HB_
    refine (heldPool_sh _ mr 1 w14 (ing.rd.le (by omega)) (by omega) (by omega) hmr).mono ?_
    rintro e w15 ⟨rfl, hb_w15⟩
    replace bxa := (hb_w15.block _ (by omega)).trans bxa
    replace inw := inw.step (Stp.of (lo := 0) (hi := 0) hb_w15) (.inl (Nat.zero_le _))
    replace bxw := (hb_w15.block _ (by omega)).trans bxw
    replace ing := ing.step (Stp.of (lo := 0) (hi := 0) hb_w15) (.inl (Nat.zero_le _))
    replace bxg := (hb_w15.block _ (by omega)).trans bxg
    have B_w15 : Below w.heap.size w w15 := B_w14.trans (hb_w15.mono B_w14.size)
    have hs_w15 : w14.heap.size ≤ w15.heap.size := hb_w15.size
    clear hb_w15 B_w14
    have bxac0 : w15.cell? ⟨w.heap.size, 0, none⟩ = some (.int .i64 m.key) := block_cell0 bxa 0 _ rfl
    have bxac1 : w15.cell? ⟨w.heap.size, 1, none⟩ = some (.slice oa m.l.length ca) := block_cell0 bxa 1 _ rfl
    have bxac2 : w15.cell? ⟨w.heap.size, 2, none⟩ = some (.int .i64 m.safe) := block_cell0 bxa 2 _ rfl
    have Hbxa := hide bxa
    clear bxa
    have Hinw := hide inw
    clear inw
    have Hbxw := hide bxw
    clear bxw
    have Hing := hide ing
    clear ing
    have Hbxg := hide bxg
    clear bxg
    have HB_ := hide B_w15
    clear B_w15
    go_wp2_with fail
    clear bxac0 bxac1 bxac2
    have bxa := Hbxa.out
    clear Hbxa
    have inw := Hinw.out
    clear Hinw
    have bxw := Hbxw.out
    clear Hbxw
    have ing := Hing.out
    clear Hing
    have bxg := Hbxg.out
    clear Hbxg
    have B_w15 := HB_.out
    clear HB_
    refine (toJournal_sh _ m w15 ((hR.kept B_w15 (Nat.le_refl _)).le B_w15.size) hf).mono ?_
    rintro e w16 ⟨vy, rfl, iny, hb_w16⟩
    replace bxa := (hb_w16.block _ (by omega)).trans bxa
    replace inw := inw.step (Stp.of (lo := 0) (hi := 0) hb_w16) (.inl (Nat.zero_le _))
    replace bxw := (hb_w16.block _ (by omega)).trans bxw
    replace ing := ing.step (Stp.of (lo := 0) (hi := 0) hb_w16) (.inl (Nat.zero_le _))
    replace bxg := (hb_w16.block _ (by omega)).trans bxg
    have B_w16 : Below w.heap.size w w16 := B_w15.trans (hb_w16.mono B_w15.size)
    have hs_w16 : w15.heap.size ≤ w16.heap.size := hb_w16.size
    clear hb_w16 B_w15
    have Hbxa := hide bxa
    clear bxa
    have Hinw := hide inw
    clear inw
    have Hbxw := hide bxw
    clear bxw
    have Hing := hide ing
    clear ing
    have Hbxg := hide bxg
    clear bxg
    have Hiny := hide iny
    clear iny
    have HB_ := hide B_w16
    clear B_w16
    go_wp2_with fail
    have bxa := Hbxa.out
    clear Hbxa
    have inw := Hinw.out
    clear Hinw
    have bxw := Hbxw.out
    clear Hbxw
    have ing := Hing.out
    clear Hing
    have bxg := Hbxg.out
    clear Hbxg
    have iny := Hiny.out
    clear Hiny
    have B_w16 := HB_.out
    clear HB_
    refine (HI.out _ w16 (iny.rd.le (by omega)) iny.cap).mono ?_
    rintro e w17 ⟨vh, rfl, inh, hb_w17⟩
    replace bxa := (hb_w17.block _ (by omega)).trans bxa
    replace inw := inw.step (Stp.of (lo := 0) (hi := 0) hb_w17) (.inl (Nat.zero_le _))
    replace bxw := (hb_w17.block _ (by omega)).trans bxw
    replace ing := ing.step (Stp.of (lo := 0) (hi := 0) hb_w17) (.inl (Nat.zero_le _))
    replace bxg := (hb_w17.block _ (by omega)).trans bxg
    replace iny := iny.step (Stp.of (lo := 0) (hi := 0) hb_w17) (.inl (Nat.zero_le _))
    have B_w17 : Below w.heap.size w w17 := B_w16.trans (hb_w17.mono B_w16.size)
    have hs_w17 : w16.heap.size ≤ w17.heap.size := hb_w17.size
    clear hb_w17 B_w16
    clear iny
    obtain ⟨oh, ch, oRh, cRh, evh⟩ := inh.rd.opn
    subst evh
    have bxh : (w17.alloc (.cells #[.int .i64 mr.key, .slice oh mr.l.length ch, .slice oRh mr.ring.length cRh] 26)).heap[w17.heap.size]? = some (.cells #[.int .i64 mr.key, .slice oh mr.l.length ch, .slice oRh mr.ring.length cRh] 26 (0, 0)) := World.alloc_heap_new w17 (.cells #[.int .i64 mr.key, .slice oh mr.l.length ch, .slice oRh mr.ring.length cRh] 26)
    have hb_w18 : Below w17.heap.size w17 (w17.alloc (.cells #[.int .i64 mr.key, .slice oh mr.l.length ch, .slice oRh mr.ring.length cRh] 26)) := (Below.refl _ _).alloc (Nat.le_refl _) _
    have hz_w18 : w17.heap.size < (w17.alloc (.cells #[.int .i64 mr.key, .slice oh mr.l.length ch, .slice oRh mr.ring.length cRh] 26)).heap.size := by simp
    have bxwW := (hb_w18.block _ (by omega)).trans bxw
    have bxwc0 : (w17.alloc (.cells #[.int .i64 mr.key, .slice oh mr.l.length ch, .slice oRh mr.ring.length cRh] 26)).cell? ⟨w3.heap.size, 0, none⟩ = some (.int .i64 mr.key) := block_cell0 bxwW 0 _ rfl
    have bxwc1 : (w17.alloc (.cells #[.int .i64 mr.key, .slice oh mr.l.length ch, .slice oRh mr.ring.length cRh] 26)).cell? ⟨w3.heap.size, 1, none⟩ = some (.slice ow mr.l.length cw) := block_cell0 bxwW 1 _ rfl
    have bxwc2 : (w17.alloc (.cells #[.int .i64 mr.key, .slice oh mr.l.length ch, .slice oRh mr.ring.length cRh] 26)).cell? ⟨w3.heap.size, 2, none⟩ = some (.slice oRw mr.ring.length cRw) := block_cell0 bxwW 2 _ rfl
    clear bxwW
    have bxhc0 : (w17.alloc (.cells #[.int .i64 mr.key, .slice oh mr.l.length ch, .slice oRh mr.ring.length cRh] 26)).cell? ⟨w17.heap.size, 0, none⟩ = some (.int .i64 mr.key) := block_cell0 bxh 0 _ rfl
    have bxhc1 : (w17.alloc (.cells #[.int .i64 mr.key, .slice oh mr.l.length ch, .slice oRh mr.ring.length cRh] 26)).cell? ⟨w17.heap.size, 1, none⟩ = some (.slice oh mr.l.length ch) := block_cell0 bxh 1 _ rfl
    have bxhc2 : (w17.alloc (.cells #[.int .i64 mr.key, .slice oh mr.l.length ch, .slice oRh mr.ring.length cRh] 26)).cell? ⟨w17.heap.size, 2, none⟩ = some (.slice oRh mr.ring.length cRh) := block_cell0 bxh 2 _ rfl
    have Hbxh := hide bxh
    have Hb_ := hide hb_w18
    clear bxh hb_w18
    have Hbxa := hide bxa
    clear bxa
    have Hinw := hide inw
    clear inw
    have Hbxw := hide bxw
    clear bxw
    have Hing := hide ing
    clear ing
    have Hbxg := hide bxg
    clear bxg
    have Hinh := hide inh
    clear inh
    have HB_ := hide B_w17
    clear B_w17
    go_wp2_with fail
    clear bxwc0 bxwc1 bxwc2
    clear bxhc0 bxhc1 bxhc2
    have bxa := Hbxa.out
    clear Hbxa
    have inw := Hinw.out
    clear Hinw
    have bxw := Hbxw.out
    clear Hbxw
    have ing := Hing.out
    clear Hing
    have bxg := Hbxg.out
    clear Hbxg
    have inh := Hinh.out
    clear Hinh
    have B_w17 := HB_.out
    clear HB_
    have bxh := Hbxh.out
    have hb_w18 := Hb_.out
    clear Hbxh Hb_
    generalize w17.alloc (.cells #[.int .i64 mr.key, .slice oh mr.l.length ch, .slice oRh mr.ring.length cRh] 26) = w18 at *
    replace bxa := (hb_w18.block _ (by omega)).trans bxa
    replace inw := inw.step (Stp.of (lo := 0) (hi := 0) hb_w18) (.inl (Nat.zero_le _))
    replace bxw := (hb_w18.block _ (by omega)).trans bxw
    replace ing := ing.step (Stp.of (lo := 0) (hi := 0) hb_w18) (.inl (Nat.zero_le _))
    replace bxg := (hb_w18.block _ (by omega)).trans bxg
    replace inh := inh.step (Stp.of (lo := 0) (hi := 0) hb_w18) (.inl (Nat.zero_le _))
    have B_w18 : Below w.heap.size w w18 := B_w17.trans (hb_w18.mono B_w17.size)
    have hs_w18 : w17.heap.size ≤ w18.heap.size := hb_w18.size
    clear hb_w18 B_w17
    refine (eqPool_sh _ _ mr w18 (inh.rd.le (by omega)) (inw.rd.le (by omega)) hmr).mono ?_
    rintro e w19 ⟨rfl, hb_w19⟩
    replace bxa := (hb_w19.block _ (by omega)).trans bxa
    replace inw := inw.step (Stp.of (lo := 0) (hi := 0) hb_w19) (.inl (Nat.zero_le _))
    replace bxw := (hb_w19.block _ (by omega)).trans bxw
    replace ing := ing.step (Stp.of (lo := 0) (hi := 0) hb_w19) (.inl (Nat.zero_le _))
    replace bxg := (hb_w19.block _ (by omega)).trans bxg
    replace inh := inh.step (Stp.of (lo := 0) (hi := 0) hb_w19) (.inl (Nat.zero_le _))
    replace bxh := (hb_w19.block _ (by omega)).trans bxh
    have B_w19 : Below w.heap.size w w19 := B_w18.trans (hb_w19.mono B_w18.size)
    have hs_w19 : w18.heap.size ≤ w19.heap.size := hb_w19.size
    clear hb_w19 B_w18
    clear inh
    clear bxh
    have bxgc0 : w19.cell? ⟨w7.heap.size, 0, none⟩ = some (.int .i64 mr.key) := block_cell0 bxg 0 _ rfl
    have bxgc1 : w19.cell? ⟨w7.heap.size, 1, none⟩ = some (.slice og mr.l.length cg) := block_cell0 bxg 1 _ rfl
    have bxgc2 : w19.cell? ⟨w7.heap.size, 2, none⟩ = some (.slice oRg mr.ring.length cRg) := block_cell0 bxg 2 _ rfl
    have Hbxa := hide bxa
    clear bxa
    have Hinw := hide inw
    clear inw
    have Hbxw := hide bxw
    clear bxw
    have Hing := hide ing
    clear ing
    have Hbxg := hide bxg
    clear bxg
    have HB_ := hide B_w19
    clear B_w19
    go_wp2_with fail
    clear bxgc0 bxgc1 bxgc2
    have bxa := Hbxa.out
    clear Hbxa
    have inw := Hinw.out
    clear Hinw
    have bxw := Hbxw.out
    clear Hbxw
    have ing := Hing.out
    clear Hing
    have bxg := Hbxg.out
    clear Hbxg
    have B_w19 := HB_.out
    clear HB_
    refine (heldPool_sh _ mr 1 w19 (ing.rd.le (by omega)) (by omega) (by omega) hmr).mono ?_
    rintro e w20 ⟨rfl, hb_w20⟩
    replace bxa := (hb_w20.block _ (by omega)).trans bxa
    replace inw := inw.step (Stp.of (lo := 0) (hi := 0) hb_w20) (.inl (Nat.zero_le _))
    replace bxw := (hb_w20.block _ (by omega)).trans bxw
    replace ing := ing.step (Stp.of (lo := 0) (hi := 0) hb_w20) (.inl (Nat.zero_le _))
    replace bxg := (hb_w20.block _ (by omega)).trans bxg
    have B_w20 : Below w.heap.size w w20 := B_w19.trans (hb_w20.mono B_w19.size)
    have hs_w20 : w19.heap.size ≤ w20.heap.size := hb_w20.size
    clear hb_w20 B_w19
    have Hbxa := hide bxa
    clear bxa
    have Hinw := hide inw
    clear inw
    have Hbxw := hide bxw
    clear bxw
    have Hing := hide ing
    clear ing
    have Hbxg := hide bxg
    clear bxg
    have HB_ := hide B_w20
    clear B_w20
    go_wp2
    go_ret
    exact ⟨rfl, HB_.out⟩
  · skip
    obtain ⟨vla, rfl, ⟨oa, ca, rfl, _⟩⟩ := hR0
    have hb_w0 : Below w.heap.size w (w.alloc (.cells #[.int .i64 m.key, .slice oa m.l.length ca, .int .i64 m.safe] 81)) := (Below.refl _ _).alloc (Nat.le_refl _) _
    have Hb_ := hide hb_w0
    have HR := hide hR
    clear hb_w0 hR
    go_enter Try.func11, Try.ntmps11
    go_wp2_with fail
    have hb_w0 := Hb_.out
    have hR := HR.out
    generalize w.alloc (.cells #[.int .i64 m.key, .slice oa m.l.length ca, .int .i64 m.safe] 81) = w0 at *
    refine (szJournal_sh _ m w.heap.size w0 (hR.kept hb_w0 (Nat.le_refl _)) hl).mono ?_
    rintro e w1 ⟨⟨nn, rfl, hpos, hneg, hn1, hn2⟩, hb_w1⟩
    have hnn := hneg hfit
    have HB := hide (hb_w0.trans (hb_w1.mono hb_w0.size))
    clear hpos hneg hb_w0 hb_w1
    go_wp2
    go_ret
    exact ⟨rfl, HB.out⟩

theorem walkFnExactReplay (k s : Int) (o : Option Addr) (cap : Nat) (l : List Cd) (w : World) (hm : l.length ≤ maxLen) (hR : RdC w.heap.size w o l) :
    Calls Try.prog 11 #[jrn k (.slice o l.length cap) s] w fun e w' => e = .returned (.bool true) ∧ Below w.heap.size w w' :=
  lawFnExactReplay _ ⟨k, l, s⟩ w ⟨_, rfl, o, cap, rfl, hR⟩ hm

set_option maxRecDepth 100000 in
theorem fnExactReplay_lifted (os : Os) (started : os.Started) (H : Type) (enc : TypeId × Value → H) :
    ReturnsInHanded {} Try.checked os 11 .any (Rows.fnExactReplaySpec.pre6 enc Try.prog Try.f11 Rows.fnExactReplayRow.domain false) (Rows.fnExactReplaySpec.post enc Try.prog Try.f11 false true false false) := by
  refine returnsInHanded_of_change (C := Try.checked) own started (by kernel_rfl) Try.func11
    (ChangeSpec.witness6 (enc := enc) (C := Try.checked) false ⟨#[], #[.agg #[.int .i64 0, .slice none 0 0, .int .i64 0]], []⟩ 8 (by kernel_rfl) (by kernel_rfl) (by kernel_rfl) (by kernel_rfl)) ?_
  intro W base args ds gs before hval0 hW hcnd _
  have hval : ∀ (j : Nat) t v, Try.f11.params[j]? = some t → args[j]? = some v → Value.okWide Try.prog W .any base t v := hval0
  have hW' := hW
  obtain ⟨p, q, hA0, hV, rfl, hfz, hnd⟩ := hW
  have hA : DataW.TrodAll enc Try.prog W 0 (fun _ => true) true Try.f11.params.toList args.toList ds p := hA0
  rw [Try.params11] at hA hval
  obtain ⟨v0, vs0, d0, ds0, p0, q0, hargs, rfl, rfl, h0, r0⟩ := trodAll_cons hA
  obtain ⟨rfl, rfl, rfl⟩ := trodAll_nil r0
  obtain rfl : args = #[v0] := by cases args; simp_all
  obtain ⟨rfl, rfl⟩ := trodVars_none hV
  have k0 := h0
  have lt0 : ∀ x ∈ p0, x.block < W.heap.size := by obtain ⟨m, hm⟩ := k0; exact DataW.trod_lt m _ _ _ hm
  obtain ⟨ky0, sf0, o0, cap0, l0, rfl, hm0, hR0⟩ := open_journal (hval 0 81 v0 rfl rfl) h0
  clear hA0 hval0
  refine (walkFnExactReplay ky0 sf0 o0 cap0 l0 W hm0 hR0 ).mono fun e W' ⟨he, bel⟩ => ?_
  subst he
  exact ⟨_, rfl, _, _, _, [], _, [], hW', trodAll_mk1 (shut_bool Try.underlying4 _), (trodAll_cons_mk (Below.trod laidOut (by kernel_rfl) (of_decide_eq_true (by kernel_rfl)) k0 bel lt0) trodAll_mk0), rfl, bel.frame _, fun h => by cases h⟩

theorem fnExactReplay_over : Rows.fnExactReplayRow.holds Try.pinned (OpenSpec.ofChange Rows.fnExactReplaySpec) :=
  OpenClaim.holds_of_wide 11 Try.f11 rfl rfl rfl rfl rfl rfl rfl ⟨rfl, rfl, rfl, rfl, rfl⟩ rfl rfl rfl rfl rfl (by kernel_rfl) Try.func11 (by kernel_rfl)
    (of_decide_eq_true (by kernel_rfl)) (by unfold Func.isWrapper; first | (rw [if_pos (by decide +kernel)]; kernel_rfl) | (rw [if_neg (by decide +kernel)]; exact ⟨rfl, rfl⟩))
    (fun os started H enc _ => fnExactReplay_lifted os started H enc)

theorem fnExactReplay_holds : Rows.FnExactReplaySaid := fnExactReplay_over

end Go.Proofs.Ytldjaapbkihibaa
