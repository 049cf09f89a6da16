/- Two carriers that read alike are the same to the laws. -/
import Derived.BigQuiet
import Derived.Test.YtoeoiljddcjphaaDoorQCarriers31
import Derived.Test.YtoeoiljddcjphaaDoorQCarriers11
namespace Go.Proofs.YtoeoiljddcjphaaDoor
open Go.ChangeShapes Go.WideShapes Go.ChangeAt Go.RowKit Go.Joins
set_option linter.unusedVariables false
set_option linter.unusedSimpArgs false

set_option maxHeartbeats 400000 in
theorem same_eq (o1 o2 : Option Addr) (c1 c2 : Nat) (l : List Int) (w : World) (h1 : Rd w o1 l) (h2 : Rd w o2 l) :
  Calls Tryd.prog 14 #[.slice o1 l.length c1, .slice o2 l.length c2] w fun e w' => e = .returned (.bool true) ∧ w = w' := by
 have k1 := run_conv c1 h1
 have k2 := run_conv c2 h2
 generalize strOfNums l = S at *
 go_enter Tryd.func14, Tryd.ntmps14
 go_wp2
 go_ret
 exact ⟨rfl, rfl⟩

set_option maxRecDepth 100000 in
set_option maxHeartbeats 2000000 in
theorem sameCarrier_eq (v1 v2 : Value) (m : Cm) (w : World) (h1 : RdCm w.heap.size w v1 m) (h2 : RdCm w.heap.size w v2 m) (k1 : capCm v1) (k2 : capCm v2) (hf : fitCm m) :
  Calls Tryd.prog 11 #[v1, v2] w fun e w' => e = .returned (.bool true) ∧ Below w.heap.size w w' := by
 have HS := hide (fun v W h hc => specCBytes_sh v m W h hc hf)
 have hR1 := h1
 have hR2 := h2
 obtain ⟨a, b, f, s, L, g, pl, st⟩ := m
 obtain ⟨vl, vg, rfl, ⟨o, c, rfl, _⟩, ⟨og, cg, rfl, _⟩⟩ := h1
 obtain ⟨vl', vg', rfl, ⟨o', c', rfl, _⟩, ⟨og', cg', rfl, _⟩⟩ := h2
 dsimp only at *
 generalize carrL ⟨a, b, f, s, L, g, pl, st⟩ = mr at *
 generalize (Cm.ok ⟨a, b, f, s, L, g, pl, st⟩) = okb at *
 have bx : ((w.alloc (.cells #[.int .i64 a, .int .i64 b, .int .i64 f, .int .i64 s, .slice o L.length c, .slice og g.length cg, .int .i64 pl, .int .i64 st] 29)).alloc (.cells #[.int .i64 a, .int .i64 b, .int .i64 f, .int .i64 s, .slice o' L.length c', .slice og' g.length cg', .int .i64 pl, .int .i64 st] 29)).heap[w.heap.size]? = some (.cells #[.int .i64 a, .int .i64 b, .int .i64 f, .int .i64 s, .slice o L.length c, .slice og g.length cg, .int .i64 pl, .int .i64 st] 29 (0, 0)) := (Below.heap_alloc _ _ w.heap.size (by simp)).trans (World.alloc_heap_new w _)
 have by2 : ((w.alloc (.cells #[.int .i64 a, .int .i64 b, .int .i64 f, .int .i64 s, .slice o L.length c, .slice og g.length cg, .int .i64 pl, .int .i64 st] 29)).alloc (.cells #[.int .i64 a, .int .i64 b, .int .i64 f, .int .i64 s, .slice o' L.length c', .slice og' g.length cg', .int .i64 pl, .int .i64 st] 29)).heap[w.heap.size + 1]? = some (.cells #[.int .i64 a, .int .i64 b, .int .i64 f, .int .i64 s, .slice o' L.length c', .slice og' g.length cg', .int .i64 pl, .int .i64 st] 29 (0, 0)) := by
  have := World.alloc_heap_new (w.alloc (.cells #[.int .i64 a, .int .i64 b, .int .i64 f, .int .i64 s, .slice o L.length c, .slice og g.length cg, .int .i64 pl, .int .i64 st] 29)) (.cells #[.int .i64 a, .int .i64 b, .int .i64 f, .int .i64 s, .slice o' L.length c', .slice og' g.length cg', .int .i64 pl, .int .i64 st] 29)
  simpa only [World.size_alloc] using this
 have hB0 : Below w.heap.size w ((w.alloc (.cells #[.int .i64 a, .int .i64 b, .int .i64 f, .int .i64 s, .slice o L.length c, .slice og g.length cg, .int .i64 pl, .int .i64 st] 29)).alloc (.cells #[.int .i64 a, .int .i64 b, .int .i64 f, .int .i64 s, .slice o' L.length c', .slice og' g.length cg', .int .i64 pl, .int .i64 st] 29)) := ((Below.refl _ _).alloc (Nat.le_refl _) _).alloc (by simp) _
 have hsz : ((w.alloc (.cells #[.int .i64 a, .int .i64 b, .int .i64 f, .int .i64 s, .slice o L.length c, .slice og g.length cg, .int .i64 pl, .int .i64 st] 29)).alloc (.cells #[.int .i64 a, .int .i64 b, .int .i64 f, .int .i64 s, .slice o' L.length c', .slice og' g.length cg', .int .i64 pl, .int .i64 st] 29)).heap.size = w.heap.size + 2 := by simp
 have Hs := hide (And.intro bx (And.intro by2 hB0))
 have p0 : ((w.alloc (.cells #[.int .i64 a, .int .i64 b, .int .i64 f, .int .i64 s, .slice o L.length c, .slice og g.length cg, .int .i64 pl, .int .i64 st] 29)).alloc (.cells #[.int .i64 a, .int .i64 b, .int .i64 f, .int .i64 s, .slice o' L.length c', .slice og' g.length cg', .int .i64 pl, .int .i64 st] 29)).cell? ⟨w.heap.size, 0, none⟩ = some (.int .i64 a) := block_cell bx 0 _ rfl
 have p1 : ((w.alloc (.cells #[.int .i64 a, .int .i64 b, .int .i64 f, .int .i64 s, .slice o L.length c, .slice og g.length cg, .int .i64 pl, .int .i64 st] 29)).alloc (.cells #[.int .i64 a, .int .i64 b, .int .i64 f, .int .i64 s, .slice o' L.length c', .slice og' g.length cg', .int .i64 pl, .int .i64 st] 29)).cell? ⟨w.heap.size, 1, none⟩ = some (.int .i64 b) := block_cell bx 1 _ rfl
 have p2 : ((w.alloc (.cells #[.int .i64 a, .int .i64 b, .int .i64 f, .int .i64 s, .slice o L.length c, .slice og g.length cg, .int .i64 pl, .int .i64 st] 29)).alloc (.cells #[.int .i64 a, .int .i64 b, .int .i64 f, .int .i64 s, .slice o' L.length c', .slice og' g.length cg', .int .i64 pl, .int .i64 st] 29)).cell? ⟨w.heap.size, 2, none⟩ = some (.int .i64 f) := block_cell bx 2 _ rfl
 have p3 : ((w.alloc (.cells #[.int .i64 a, .int .i64 b, .int .i64 f, .int .i64 s, .slice o L.length c, .slice og g.length cg, .int .i64 pl, .int .i64 st] 29)).alloc (.cells #[.int .i64 a, .int .i64 b, .int .i64 f, .int .i64 s, .slice o' L.length c', .slice og' g.length cg', .int .i64 pl, .int .i64 st] 29)).cell? ⟨w.heap.size, 3, none⟩ = some (.int .i64 s) := block_cell bx 3 _ rfl
 have p4 : ((w.alloc (.cells #[.int .i64 a, .int .i64 b, .int .i64 f, .int .i64 s, .slice o L.length c, .slice og g.length cg, .int .i64 pl, .int .i64 st] 29)).alloc (.cells #[.int .i64 a, .int .i64 b, .int .i64 f, .int .i64 s, .slice o' L.length c', .slice og' g.length cg', .int .i64 pl, .int .i64 st] 29)).cell? ⟨w.heap.size, 4, none⟩ = some (.slice o L.length c) := block_cell bx 4 _ rfl
 have p5 : ((w.alloc (.cells #[.int .i64 a, .int .i64 b, .int .i64 f, .int .i64 s, .slice o L.length c, .slice og g.length cg, .int .i64 pl, .int .i64 st] 29)).alloc (.cells #[.int .i64 a, .int .i64 b, .int .i64 f, .int .i64 s, .slice o' L.length c', .slice og' g.length cg', .int .i64 pl, .int .i64 st] 29)).cell? ⟨w.heap.size, 5, none⟩ = some (.slice og g.length cg) := block_cell bx 5 _ rfl
 have p6 : ((w.alloc (.cells #[.int .i64 a, .int .i64 b, .int .i64 f, .int .i64 s, .slice o L.length c, .slice og g.length cg, .int .i64 pl, .int .i64 st] 29)).alloc (.cells #[.int .i64 a, .int .i64 b, .int .i64 f, .int .i64 s, .slice o' L.length c', .slice og' g.length cg', .int .i64 pl, .int .i64 st] 29)).cell? ⟨w.heap.size, 6, none⟩ = some (.int .i64 pl) := block_cell bx 6 _ rfl
 have p7 : ((w.alloc (.cells #[.int .i64 a, .int .i64 b, .int .i64 f, .int .i64 s, .slice o L.length c, .slice og g.length cg, .int .i64 pl, .int .i64 st] 29)).alloc (.cells #[.int .i64 a, .int .i64 b, .int .i64 f, .int .i64 s, .slice o' L.length c', .slice og' g.length cg', .int .i64 pl, .int .i64 st] 29)).cell? ⟨w.heap.size, 7, none⟩ = some (.int .i64 st) := block_cell bx 7 _ rfl
 clear bx by2 hB0
 go_enter Tryd.func11, Tryd.ntmps11
 go_wp2_with fail
 obtain ⟨bx, by2, hB0⟩ := Hs.out
 clear Hs p0 p1 p2 p3 p4 p5 p6 p7
 generalize ((w.alloc (.cells #[.int .i64 a, .int .i64 b, .int .i64 f, .int .i64 s, .slice o L.length c, .slice og g.length cg, .int .i64 pl, .int .i64 st] 29)).alloc (.cells #[.int .i64 a, .int .i64 b, .int .i64 f, .int .i64 s, .slice o' L.length c', .slice og' g.length cg', .int .i64 pl, .int .i64 st] 29)) = w0 at *
 refine (HS.out _ w0 ((hR1.kept hB0 (Nat.le_refl _)).le hB0.size) k1).mono ?_
 rintro e w1 ⟨x1, rfl, in1, hb1⟩
 have B1 : Below w.heap.size w w1 := hB0.trans (hb1.mono hB0.size)
 have by1 := (hb1.block _ (by omega)).trans by2
 obtain ⟨ox, cx, rfl, rx⟩ := in1.rd
 have p0 : w1.cell? ⟨w.heap.size + 1, 0, none⟩ = some (.int .i64 a) := block_cell by1 0 _ rfl
 have p1 : w1.cell? ⟨w.heap.size + 1, 1, none⟩ = some (.int .i64 b) := block_cell by1 1 _ rfl
 have p2 : w1.cell? ⟨w.heap.size + 1, 2, none⟩ = some (.int .i64 f) := block_cell by1 2 _ rfl
 have p3 : w1.cell? ⟨w.heap.size + 1, 3, none⟩ = some (.int .i64 s) := block_cell by1 3 _ rfl
 have p4 : w1.cell? ⟨w.heap.size + 1, 4, none⟩ = some (.slice o' L.length c') := block_cell by1 4 _ rfl
 have p5 : w1.cell? ⟨w.heap.size + 1, 5, none⟩ = some (.slice og' g.length cg') := block_cell by1 5 _ rfl
 have p6 : w1.cell? ⟨w.heap.size + 1, 6, none⟩ = some (.int .i64 pl) := block_cell by1 6 _ rfl
 have p7 : w1.cell? ⟨w.heap.size + 1, 7, none⟩ = some (.int .i64 st) := block_cell by1 7 _ rfl
 have HX := hide (And.intro in1 B1)
 clear in1 B1 by1 rx hb1 hB0 bx by2
 go_wp2_with fail
 obtain ⟨in1, B1⟩ := HX.out
 clear HX p0 p1 p2 p3 p4 p5 p6 p7
 refine (HS.out _ w1 ((hR2.kept B1 (Nat.le_refl _)).le B1.size) k2).mono ?_
 rintro e w2 ⟨x2, rfl, in2, hb2⟩
 have B2 := B1.trans (hb2.mono B1.size)
 have in1' : InB w0.heap.size w1.heap.size w2 (.slice ox mr.length cx) mr := in1.step (Stp.of (lo := 0) (hi := 0) hb2) (.inl (Nat.zero_le _))
 obtain ⟨oy, cy, rfl, ry⟩ := in2.rd
 obtain ⟨ox', cx', ex, rx⟩ := in1'.rd
 injection ex with ex1 _ ex3
 subst ex1 ex3
 have r1 : Rd w2 ox mr := RdB_rd.1 (rx.le hb2.size)
 have r2 : Rd w2 oy mr := RdB_rd.1 ry
 have HQ := hide (same_eq ox oy cx cy mr w2 r1 r2)
 have HB := hide B2
 clear in1 in1' in2 rx ry r1 r2 hb2 B1 B2
 cases okb <;> (go_wp2_with fail; refine HQ.out.mono ?_; rintro e w3 ⟨rfl, rfl⟩; go_wp2; go_ret; exact ⟨rfl, HB.out⟩)

end Go.Proofs.YtoeoiljddcjphaaDoor

