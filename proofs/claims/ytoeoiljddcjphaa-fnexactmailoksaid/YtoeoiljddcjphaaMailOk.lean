/- For every mail the law FnExactMailOk answers true, and the mail reads as it did: impl.MailOk answers as the model's, and writes nothing into what it is handed. No conditions. -/
import Derived.Test.YtoeoiljddcjphaaShM
import Derived.Deep.RegionHeld3
namespace Go.Proofs.Ytoeoiljddcjphaa
open Go.ChangeShapes Go.WideShapes Go.ChangeAt Go.RowKit Go.Joins
set_option linter.unusedVariables false
set_option linter.unusedSimpArgs false

set_option maxRecDepth 100000 in
set_option maxHeartbeats 8000000 in
theorem lawFnExactMailOk (v : Value) (m : Mm) (w : World) (hR : RdMm w.heap.size w v m) (hl : m.c.l.length ≤ maxLen) (hg : m.c.g.length ≤ maxLen) (hB8 : isB m.c.l) :
    Calls Try.prog 5 #[v] w fun e w' => e = .returned (.bool true) ∧ Below w.heap.size w w' := by
  have hR0 := hR
  by_cases hfit : m.c.l.length + m.c.g.length ≤ 1048576
  · have hf : fitCm m.c := ⟨hfit, hB8⟩
    have HS := hide (fun v w h (hc : True) => specMailOk_sh v m w h hf)
    have HI := hide (fun v w h (hc : True) => implMailOk_sh v m w h hf)
    generalize mailB m.k m.c.a m.c.b m.c.f m.c.s m.c.l.length m.c.g m.c.pl m.c.st m.fa m.fp m.bk = t at *
    obtain ⟨vla, vsa, rfl, ⟨oa, ca, rfl, _⟩, ⟨oga, cga, rfl, _⟩⟩ := hR0
    have bxa : (w.alloc (.cells #[.int .i64 m.k, .int .i64 m.c.a, .int .i64 m.c.b, .int .i64 m.c.f, .int .i64 m.c.s, .slice oa m.c.l.length ca, .slice oga m.c.g.length cga, .int .i64 m.c.pl, .int .i64 m.c.st, .int .i64 m.fa, .int .i64 m.fp, .int .i64 m.bk] 57)).heap[w.heap.size]? = some (.cells #[.int .i64 m.k, .int .i64 m.c.a, .int .i64 m.c.b, .int .i64 m.c.f, .int .i64 m.c.s, .slice oa m.c.l.length ca, .slice oga m.c.g.length cga, .int .i64 m.c.pl, .int .i64 m.c.st, .int .i64 m.fa, .int .i64 m.fp, .int .i64 m.bk] 57 (0, 0)) := World.alloc_heap_new w (.cells #[.int .i64 m.k, .int .i64 m.c.a, .int .i64 m.c.b, .int .i64 m.c.f, .int .i64 m.c.s, .slice oa m.c.l.length ca, .slice oga m.c.g.length cga, .int .i64 m.c.pl, .int .i64 m.c.st, .int .i64 m.fa, .int .i64 m.fp, .int .i64 m.bk] 57)
    have hb_w0 : Below w.heap.size w (w.alloc (.cells #[.int .i64 m.k, .int .i64 m.c.a, .int .i64 m.c.b, .int .i64 m.c.f, .int .i64 m.c.s, .slice oa m.c.l.length ca, .slice oga m.c.g.length cga, .int .i64 m.c.pl, .int .i64 m.c.st, .int .i64 m.fa, .int .i64 m.fp, .int .i64 m.bk] 57)) := (Below.refl _ _).alloc (Nat.le_refl _) _
    have hz_w0 : w.heap.size < (w.alloc (.cells #[.int .i64 m.k, .int .i64 m.c.a, .int .i64 m.c.b, .int .i64 m.c.f, .int .i64 m.c.s, .slice oa m.c.l.length ca, .slice oga m.c.g.length cga, .int .i64 m.c.pl, .int .i64 m.c.st, .int .i64 m.fa, .int .i64 m.fp, .int .i64 m.bk] 57)).heap.size := by simp
    have Hbxa := hide bxa
    have Hb_ := hide hb_w0
    have HR := hide hR
    clear bxa hb_w0 hR
    go_enter Try.func5, Try.ntmps5
    go_wp2_with fail
    have bxa := Hbxa.out
    have hb_w0 := Hb_.out
    have hR := HR.out
    clear Hbxa Hb_ HR
    generalize w.alloc (.cells #[.int .i64 m.k, .int .i64 m.c.a, .int .i64 m.c.b, .int .i64 m.c.f, .int .i64 m.c.s, .slice oa m.c.l.length ca, .slice oga m.c.g.length cga, .int .i64 m.c.pl, .int .i64 m.c.st, .int .i64 m.fa, .int .i64 m.fp, .int .i64 m.bk] 57) = w0 at *
    have B_w0 := hb_w0
    clear hb_w0
    refine (szMail_sh _ m w.heap.size w0 (hR.kept B_w0 (Nat.le_refl _)) hl hg).mono ?_
    rintro e w1 ⟨⟨nn, rfl, hpos, hneg, hn1, hn2⟩, hb_w1⟩
    have hnn := hpos hfit
    clear hpos hneg
    replace bxa := (hb_w1.block _ (by omega)).trans bxa
    have B_w1 : Below w.heap.size w w1 := B_w0.trans (hb_w1.mono B_w0.size)
    have hs_w1 : w0.heap.size ≤ w1.heap.size := hb_w1.size
    clear hb_w1 B_w0
    have bxac0 : w1.cell? ⟨w.heap.size, 0, none⟩ = some (.int .i64 m.k) := block_cell bxa 0 _ rfl
    have bxac1 : w1.cell? ⟨w.heap.size, 1, none⟩ = some (.int .i64 m.c.a) := block_cell bxa 1 _ rfl
    have bxac2 : w1.cell? ⟨w.heap.size, 2, none⟩ = some (.int .i64 m.c.b) := block_cell bxa 2 _ rfl
    have bxac3 : w1.cell? ⟨w.heap.size, 3, none⟩ = some (.int .i64 m.c.f) := block_cell bxa 3 _ rfl
    have bxac4 : w1.cell? ⟨w.heap.size, 4, none⟩ = some (.int .i64 m.c.s) := block_cell bxa 4 _ rfl
    have bxac5 : w1.cell? ⟨w.heap.size, 5, none⟩ = some (.slice oa m.c.l.length ca) := block_cell bxa 5 _ rfl
    have bxac6 : w1.cell? ⟨w.heap.size, 6, none⟩ = some (.slice oga m.c.g.length cga) := block_cell bxa 6 _ rfl
    have bxac7 : w1.cell? ⟨w.heap.size, 7, none⟩ = some (.int .i64 m.c.pl) := block_cell bxa 7 _ rfl
    have bxac8 : w1.cell? ⟨w.heap.size, 8, none⟩ = some (.int .i64 m.c.st) := block_cell bxa 8 _ rfl
    have bxac9 : w1.cell? ⟨w.heap.size, 9, none⟩ = some (.int .i64 m.fa) := block_cell bxa 9 _ rfl
    have bxac10 : w1.cell? ⟨w.heap.size, 10, none⟩ = some (.int .i64 m.fp) := block_cell bxa 10 _ rfl
    have bxac11 : w1.cell? ⟨w.heap.size, 11, none⟩ = some (.int .i64 m.bk) := block_cell bxa 11 _ rfl
    have Hbxa := hide bxa
    clear bxa
    have HB_ := hide B_w1
    clear B_w1
    go_wp2_with fail
    clear bxac0 bxac1 bxac2 bxac3 bxac4 bxac5 bxac6 bxac7 bxac8 bxac9 bxac10 bxac11
    have bxa := Hbxa.out
    clear Hbxa
    have B_w1 := HB_.out
    clear HB_
    refine (toMail_sh _ m w1 ((hR.kept B_w1 (Nat.le_refl _)).le B_w1.size) hf).mono ?_
    rintro e w2 ⟨v2, rfl, in2, hb_w2⟩
    replace bxa := (hb_w2.block _ (by omega)).trans bxa
    have B_w2 : Below w.heap.size w w2 := B_w1.trans (hb_w2.mono B_w1.size)
    have hs_w2 : w1.heap.size ≤ w2.heap.size := hb_w2.size
    clear hb_w2 B_w1
    have Hbxa := hide bxa
    clear bxa
    have Hin2 := hide in2
    clear in2
    have HB_ := hide B_w2
    clear B_w2
    go_wp2_with fail
    have bxa := Hbxa.out
    clear Hbxa
    have in2 := Hin2.out
    clear Hin2
    have B_w2 := HB_.out
    clear HB_
    refine (HS.out _ w2 (in2.rd.le (by omega)) in2.cap).mono ?_
    rintro e w3 ⟨rfl, hb_w3⟩
    replace bxa := (hb_w3.block _ (by omega)).trans bxa
    replace in2 := in2.step (Stp.of (lo := 0) (hi := 0) hb_w3) (.inl (Nat.zero_le _))
    have B_w3 : Below w.heap.size w w3 := B_w2.trans (hb_w3.mono B_w2.size)
    have hs_w3 : w2.heap.size ≤ w3.heap.size := hb_w3.size
    clear hb_w3 B_w2
    clear in2
    have bxac0 : w3.cell? ⟨w.heap.size, 0, none⟩ = some (.int .i64 m.k) := block_cell bxa 0 _ rfl
    have bxac1 : w3.cell? ⟨w.heap.size, 1, none⟩ = some (.int .i64 m.c.a) := block_cell bxa 1 _ rfl
    have bxac2 : w3.cell? ⟨w.heap.size, 2, none⟩ = some (.int .i64 m.c.b) := block_cell bxa 2 _ rfl
    have bxac3 : w3.cell? ⟨w.heap.size, 3, none⟩ = some (.int .i64 m.c.f) := block_cell bxa 3 _ rfl
    have bxac4 : w3.cell? ⟨w.heap.size, 4, none⟩ = some (.int .i64 m.c.s) := block_cell bxa 4 _ rfl
    have bxac5 : w3.cell? ⟨w.heap.size, 5, none⟩ = some (.slice oa m.c.l.length ca) := block_cell bxa 5 _ rfl
    have bxac6 : w3.cell? ⟨w.heap.size, 6, none⟩ = some (.slice oga m.c.g.length cga) := block_cell bxa 6 _ rfl
    have bxac7 : w3.cell? ⟨w.heap.size, 7, none⟩ = some (.int .i64 m.c.pl) := block_cell bxa 7 _ rfl
    have bxac8 : w3.cell? ⟨w.heap.size, 8, none⟩ = some (.int .i64 m.c.st) := block_cell bxa 8 _ rfl
    have bxac9 : w3.cell? ⟨w.heap.size, 9, none⟩ = some (.int .i64 m.fa) := block_cell bxa 9 _ rfl
    have bxac10 : w3.cell? ⟨w.heap.size, 10, none⟩ = some (.int .i64 m.fp) := block_cell bxa 10 _ rfl
    have bxac11 : w3.cell? ⟨w.heap.size, 11, none⟩ = some (.int .i64 m.bk) := block_cell bxa 11 _ rfl
    have Hbxa := hide bxa
    clear bxa
    have HB_ := hide B_w3
    clear B_w3
    go_wp2_with fail
    clear bxac0 bxac1 bxac2 bxac3 bxac4 bxac5 bxac6 bxac7 bxac8 bxac9 bxac10 bxac11
    have bxa := Hbxa.out
    clear Hbxa
    have B_w3 := HB_.out
    clear HB_
    refine (toMail_sh _ m w3 ((hR.kept B_w3 (Nat.le_refl _)).le B_w3.size) hf).mono ?_
    rintro e w4 ⟨vx, rfl, inx, hb_w4⟩
    replace bxa := (hb_w4.block _ (by omega)).trans bxa
    have B_w4 : Below w.heap.size w w4 := B_w3.trans (hb_w4.mono B_w3.size)
    have hs_w4 : w3.heap.size ≤ w4.heap.size := hb_w4.size
    clear hb_w4 B_w3
    obtain ⟨vlx, vsx, rfl, ⟨ox, cx, rfl, _⟩, ⟨ogx, cgx, rfl, _⟩⟩ := inx.rd
    have bxx : (w4.alloc (.cells #[.int .i64 m.k, .int .i64 m.c.a, .int .i64 m.c.b, .int .i64 m.c.f, .int .i64 m.c.s, .slice ox m.c.l.length cx, .slice ogx m.c.g.length cgx, .int .i64 m.c.pl, .int .i64 m.c.st, .int .i64 m.fa, .int .i64 m.fp, .int .i64 m.bk] 61)).heap[w4.heap.size]? = some (.cells #[.int .i64 m.k, .int .i64 m.c.a, .int .i64 m.c.b, .int .i64 m.c.f, .int .i64 m.c.s, .slice ox m.c.l.length cx, .slice ogx m.c.g.length cgx, .int .i64 m.c.pl, .int .i64 m.c.st, .int .i64 m.fa, .int .i64 m.fp, .int .i64 m.bk] 61 (0, 0)) := World.alloc_heap_new w4 (.cells #[.int .i64 m.k, .int .i64 m.c.a, .int .i64 m.c.b, .int .i64 m.c.f, .int .i64 m.c.s, .slice ox m.c.l.length cx, .slice ogx m.c.g.length cgx, .int .i64 m.c.pl, .int .i64 m.c.st, .int .i64 m.fa, .int .i64 m.fp, .int .i64 m.bk] 61)
    have hb_w5 : Below w4.heap.size w4 (w4.alloc (.cells #[.int .i64 m.k, .int .i64 m.c.a, .int .i64 m.c.b, .int .i64 m.c.f, .int .i64 m.c.s, .slice ox m.c.l.length cx, .slice ogx m.c.g.length cgx, .int .i64 m.c.pl, .int .i64 m.c.st, .int .i64 m.fa, .int .i64 m.fp, .int .i64 m.bk] 61)) := (Below.refl _ _).alloc (Nat.le_refl _) _
    have hz_w5 : w4.heap.size < (w4.alloc (.cells #[.int .i64 m.k, .int .i64 m.c.a, .int .i64 m.c.b, .int .i64 m.c.f, .int .i64 m.c.s, .slice ox m.c.l.length cx, .slice ogx m.c.g.length cgx, .int .i64 m.c.pl, .int .i64 m.c.st, .int .i64 m.fa, .int .i64 m.fp, .int .i64 m.bk] 61)).heap.size := by simp
    have bxxc0 : (w4.alloc (.cells #[.int .i64 m.k, .int .i64 m.c.a, .int .i64 m.c.b, .int .i64 m.c.f, .int .i64 m.c.s, .slice ox m.c.l.length cx, .slice ogx m.c.g.length cgx, .int .i64 m.c.pl, .int .i64 m.c.st, .int .i64 m.fa, .int .i64 m.fp, .int .i64 m.bk] 61)).cell? ⟨w4.heap.size, 0, none⟩ = some (.int .i64 m.k) := block_cell bxx 0 _ rfl
    have bxxc1 : (w4.alloc (.cells #[.int .i64 m.k, .int .i64 m.c.a, .int .i64 m.c.b, .int .i64 m.c.f, .int .i64 m.c.s, .slice ox m.c.l.length cx, .slice ogx m.c.g.length cgx, .int .i64 m.c.pl, .int .i64 m.c.st, .int .i64 m.fa, .int .i64 m.fp, .int .i64 m.bk] 61)).cell? ⟨w4.heap.size, 1, none⟩ = some (.int .i64 m.c.a) := block_cell bxx 1 _ rfl
    have bxxc2 : (w4.alloc (.cells #[.int .i64 m.k, .int .i64 m.c.a, .int .i64 m.c.b, .int .i64 m.c.f, .int .i64 m.c.s, .slice ox m.c.l.length cx, .slice ogx m.c.g.length cgx, .int .i64 m.c.pl, .int .i64 m.c.st, .int .i64 m.fa, .int .i64 m.fp, .int .i64 m.bk] 61)).cell? ⟨w4.heap.size, 2, none⟩ = some (.int .i64 m.c.b) := block_cell bxx 2 _ rfl
    have bxxc3 : (w4.alloc (.cells #[.int .i64 m.k, .int .i64 m.c.a, .int .i64 m.c.b, .int .i64 m.c.f, .int .i64 m.c.s, .slice ox m.c.l.length cx, .slice ogx m.c.g.length cgx, .int .i64 m.c.pl, .int .i64 m.c.st, .int .i64 m.fa, .int .i64 m.fp, .int .i64 m.bk] 61)).cell? ⟨w4.heap.size, 3, none⟩ = some (.int .i64 m.c.f) := block_cell bxx 3 _ rfl
    have bxxc4 : (w4.alloc (.cells #[.int .i64 m.k, .int .i64 m.c.a, .int .i64 m.c.b, .int .i64 m.c.f, .int .i64 m.c.s, .slice ox m.c.l.length cx, .slice ogx m.c.g.length cgx, .int .i64 m.c.pl, .int .i64 m.c.st, .int .i64 m.fa, .int .i64 m.fp, .int .i64 m.bk] 61)).cell? ⟨w4.heap.size, 4, none⟩ = some (.int .i64 m.c.s) := block_cell bxx 4 _ rfl
    have bxxc5 : (w4.alloc (.cells #[.int .i64 m.k, .int .i64 m.c.a, .int .i64 m.c.b, .int .i64 m.c.f, .int .i64 m.c.s, .slice ox m.c.l.length cx, .slice ogx m.c.g.length cgx, .int .i64 m.c.pl, .int .i64 m.c.st, .int .i64 m.fa, .int .i64 m.fp, .int .i64 m.bk] 61)).cell? ⟨w4.heap.size, 5, none⟩ = some (.slice ox m.c.l.length cx) := block_cell bxx 5 _ rfl
    have bxxc6 : (w4.alloc (.cells #[.int .i64 m.k, .int .i64 m.c.a, .int .i64 m.c.b, .int .i64 m.c.f, .int .i64 m.c.s, .slice ox m.c.l.length cx, .slice ogx m.c.g.length cgx, .int .i64 m.c.pl, .int .i64 m.c.st, .int .i64 m.fa, .int .i64 m.fp, .int .i64 m.bk] 61)).cell? ⟨w4.heap.size, 6, none⟩ = some (.slice ogx m.c.g.length cgx) := block_cell bxx 6 _ rfl
    have bxxc7 : (w4.alloc (.cells #[.int .i64 m.k, .int .i64 m.c.a, .int .i64 m.c.b, .int .i64 m.c.f, .int .i64 m.c.s, .slice ox m.c.l.length cx, .slice ogx m.c.g.length cgx, .int .i64 m.c.pl, .int .i64 m.c.st, .int .i64 m.fa, .int .i64 m.fp, .int .i64 m.bk] 61)).cell? ⟨w4.heap.size, 7, none⟩ = some (.int .i64 m.c.pl) := block_cell bxx 7 _ rfl
    have bxxc8 : (w4.alloc (.cells #[.int .i64 m.k, .int .i64 m.c.a, .int .i64 m.c.b, .int .i64 m.c.f, .int .i64 m.c.s, .slice ox m.c.l.length cx, .slice ogx m.c.g.length cgx, .int .i64 m.c.pl, .int .i64 m.c.st, .int .i64 m.fa, .int .i64 m.fp, .int .i64 m.bk] 61)).cell? ⟨w4.heap.size, 8, none⟩ = some (.int .i64 m.c.st) := block_cell bxx 8 _ rfl
    have bxxc9 : (w4.alloc (.cells #[.int .i64 m.k, .int .i64 m.c.a, .int .i64 m.c.b, .int .i64 m.c.f, .int .i64 m.c.s, .slice ox m.c.l.length cx, .slice ogx m.c.g.length cgx, .int .i64 m.c.pl, .int .i64 m.c.st, .int .i64 m.fa, .int .i64 m.fp, .int .i64 m.bk] 61)).cell? ⟨w4.heap.size, 9, none⟩ = some (.int .i64 m.fa) := block_cell bxx 9 _ rfl
    have bxxc10 : (w4.alloc (.cells #[.int .i64 m.k, .int .i64 m.c.a, .int .i64 m.c.b, .int .i64 m.c.f, .int .i64 m.c.s, .slice ox m.c.l.length cx, .slice ogx m.c.g.length cgx, .int .i64 m.c.pl, .int .i64 m.c.st, .int .i64 m.fa, .int .i64 m.fp, .int .i64 m.bk] 61)).cell? ⟨w4.heap.size, 10, none⟩ = some (.int .i64 m.fp) := block_cell bxx 10 _ rfl
    have bxxc11 : (w4.alloc (.cells #[.int .i64 m.k, .int .i64 m.c.a, .int .i64 m.c.b, .int .i64 m.c.f, .int .i64 m.c.s, .slice ox m.c.l.length cx, .slice ogx m.c.g.length cgx, .int .i64 m.c.pl, .int .i64 m.c.st, .int .i64 m.fa, .int .i64 m.fp, .int .i64 m.bk] 61)).cell? ⟨w4.heap.size, 11, none⟩ = some (.int .i64 m.bk) := block_cell bxx 11 _ rfl
    have Hbxx := hide bxx
    have Hb_ := hide hb_w5
    clear bxx hb_w5
    have Hbxa := hide bxa
    clear bxa
    have Hinx := hide inx
    clear inx
    have HB_ := hide B_w4
    clear B_w4
    go_wp2_with fail
    clear bxxc0 bxxc1 bxxc2 bxxc3 bxxc4 bxxc5 bxxc6 bxxc7 bxxc8 bxxc9 bxxc10 bxxc11
    have bxa := Hbxa.out
    clear Hbxa
    have inx := Hinx.out
    clear Hinx
    have B_w4 := HB_.out
    clear HB_
    have bxx := Hbxx.out
    have hb_w5 := Hb_.out
    clear Hbxx Hb_
    generalize w4.alloc (.cells #[.int .i64 m.k, .int .i64 m.c.a, .int .i64 m.c.b, .int .i64 m.c.f, .int .i64 m.c.s, .slice ox m.c.l.length cx, .slice ogx m.c.g.length cgx, .int .i64 m.c.pl, .int .i64 m.c.st, .int .i64 m.fa, .int .i64 m.fp, .int .i64 m.bk] 61) = w5 at *
    replace bxa := (hb_w5.block _ (by omega)).trans bxa
    replace inx := inx.step (Stp.of (lo := 0) (hi := 0) hb_w5) (.inl (Nat.zero_le _))
    have B_w5 : Below w.heap.size w w5 := B_w4.trans (hb_w5.mono B_w4.size)
    have hs_w5 : w4.heap.size ≤ w5.heap.size := hb_w5.size
    clear hb_w5 B_w4
    refine (HI.out _ w5 (inx.rd.le (by omega)) inx.cap).mono ?_
    rintro e w6 ⟨rfl, hb_w6⟩
    replace bxa := (hb_w6.block _ (by omega)).trans bxa
    replace inx := inx.step (Stp.of (lo := 0) (hi := 0) hb_w6) (.inl (Nat.zero_le _))
    replace bxx := (hb_w6.block _ (by omega)).trans bxx
    have B_w6 : Below w.heap.size w w6 := B_w5.trans (hb_w6.mono B_w5.size)
    have hs_w6 : w5.heap.size ≤ w6.heap.size := hb_w6.size
    clear hb_w6 B_w5
    have bxac0 : w6.cell? ⟨w.heap.size, 0, none⟩ = some (.int .i64 m.k) := block_cell bxa 0 _ rfl
    have bxac1 : w6.cell? ⟨w.heap.size, 1, none⟩ = some (.int .i64 m.c.a) := block_cell bxa 1 _ rfl
    have bxac2 : w6.cell? ⟨w.heap.size, 2, none⟩ = some (.int .i64 m.c.b) := block_cell bxa 2 _ rfl
    have bxac3 : w6.cell? ⟨w.heap.size, 3, none⟩ = some (.int .i64 m.c.f) := block_cell bxa 3 _ rfl
    have bxac4 : w6.cell? ⟨w.heap.size, 4, none⟩ = some (.int .i64 m.c.s) := block_cell bxa 4 _ rfl
    have bxac5 : w6.cell? ⟨w.heap.size, 5, none⟩ = some (.slice oa m.c.l.length ca) := block_cell bxa 5 _ rfl
    have bxac6 : w6.cell? ⟨w.heap.size, 6, none⟩ = some (.slice oga m.c.g.length cga) := block_cell bxa 6 _ rfl
    have bxac7 : w6.cell? ⟨w.heap.size, 7, none⟩ = some (.int .i64 m.c.pl) := block_cell bxa 7 _ rfl
    have bxac8 : w6.cell? ⟨w.heap.size, 8, none⟩ = some (.int .i64 m.c.st) := block_cell bxa 8 _ rfl
    have bxac9 : w6.cell? ⟨w.heap.size, 9, none⟩ = some (.int .i64 m.fa) := block_cell bxa 9 _ rfl
    have bxac10 : w6.cell? ⟨w.heap.size, 10, none⟩ = some (.int .i64 m.fp) := block_cell bxa 10 _ rfl
    have bxac11 : w6.cell? ⟨w.heap.size, 11, none⟩ = some (.int .i64 m.bk) := block_cell bxa 11 _ rfl
    have bxxc0 : w6.cell? ⟨w4.heap.size, 0, none⟩ = some (.int .i64 m.k) := block_cell bxx 0 _ rfl
    have bxxc1 : w6.cell? ⟨w4.heap.size, 1, none⟩ = some (.int .i64 m.c.a) := block_cell bxx 1 _ rfl
    have bxxc2 : w6.cell? ⟨w4.heap.size, 2, none⟩ = some (.int .i64 m.c.b) := block_cell bxx 2 _ rfl
    have bxxc3 : w6.cell? ⟨w4.heap.size, 3, none⟩ = some (.int .i64 m.c.f) := block_cell bxx 3 _ rfl
    have bxxc4 : w6.cell? ⟨w4.heap.size, 4, none⟩ = some (.int .i64 m.c.s) := block_cell bxx 4 _ rfl
    have bxxc5 : w6.cell? ⟨w4.heap.size, 5, none⟩ = some (.slice ox m.c.l.length cx) := block_cell bxx 5 _ rfl
    have bxxc6 : w6.cell? ⟨w4.heap.size, 6, none⟩ = some (.slice ogx m.c.g.length cgx) := block_cell bxx 6 _ rfl
    have bxxc7 : w6.cell? ⟨w4.heap.size, 7, none⟩ = some (.int .i64 m.c.pl) := block_cell bxx 7 _ rfl
    have bxxc8 : w6.cell? ⟨w4.heap.size, 8, none⟩ = some (.int .i64 m.c.st) := block_cell bxx 8 _ rfl
    have bxxc9 : w6.cell? ⟨w4.heap.size, 9, none⟩ = some (.int .i64 m.fa) := block_cell bxx 9 _ rfl
    have bxxc10 : w6.cell? ⟨w4.heap.size, 10, none⟩ = some (.int .i64 m.fp) := block_cell bxx 10 _ rfl
    have bxxc11 : w6.cell? ⟨w4.heap.size, 11, none⟩ = some (.int .i64 m.bk) := block_cell bxx 11 _ rfl
    have Hbxa := hide bxa
    clear bxa
    have Hinx := hide inx
    clear inx
    have Hbxx := hide bxx
    clear bxx
    have HB_ := hide B_w6
    clear B_w6
    go_wp2
    have hka : w.heap.size < w6.heap.size := by omega
    have hkx : w4.heap.size < w6.heap.size := by omega
    go_region_held3 (fun w' => w'.cell? ⟨w.heap.size, 0, none⟩ = some (.int .i64 m.k) ∧ w'.cell? ⟨w.heap.size, 1, none⟩ = some (.int .i64 m.c.a) ∧ w'.cell? ⟨w.heap.size, 2, none⟩ = some (.int .i64 m.c.b) ∧ w'.cell? ⟨w.heap.size, 3, none⟩ = some (.int .i64 m.c.f) ∧ w'.cell? ⟨w.heap.size, 4, none⟩ = some (.int .i64 m.c.s) ∧ w'.cell? ⟨w.heap.size, 5, none⟩ = some (.slice oa m.c.l.length ca) ∧ w'.cell? ⟨w.heap.size, 6, none⟩ = some (.slice oga m.c.g.length cga) ∧ w'.cell? ⟨w.heap.size, 7, none⟩ = some (.int .i64 m.c.pl) ∧ w'.cell? ⟨w.heap.size, 8, none⟩ = some (.int .i64 m.c.st) ∧ w'.cell? ⟨w.heap.size, 9, none⟩ = some (.int .i64 m.fa) ∧ w'.cell? ⟨w.heap.size, 10, none⟩ = some (.int .i64 m.fp) ∧ w'.cell? ⟨w.heap.size, 11, none⟩ = some (.int .i64 m.bk) ∧ w'.cell? ⟨w4.heap.size, 0, none⟩ = some (.int .i64 m.k) ∧ w'.cell? ⟨w4.heap.size, 1, none⟩ = some (.int .i64 m.c.a) ∧ w'.cell? ⟨w4.heap.size, 2, none⟩ = some (.int .i64 m.c.b) ∧ w'.cell? ⟨w4.heap.size, 3, none⟩ = some (.int .i64 m.c.f) ∧ w'.cell? ⟨w4.heap.size, 4, none⟩ = some (.int .i64 m.c.s) ∧ w'.cell? ⟨w4.heap.size, 5, none⟩ = some (.slice ox m.c.l.length cx) ∧ w'.cell? ⟨w4.heap.size, 6, none⟩ = some (.slice ogx m.c.g.length cgx) ∧ w'.cell? ⟨w4.heap.size, 7, none⟩ = some (.int .i64 m.c.pl) ∧ w'.cell? ⟨w4.heap.size, 8, none⟩ = some (.int .i64 m.c.st) ∧ w'.cell? ⟨w4.heap.size, 9, none⟩ = some (.int .i64 m.fa) ∧ w'.cell? ⟨w4.heap.size, 10, none⟩ = some (.int .i64 m.fp) ∧ w'.cell? ⟨w4.heap.size, 11, none⟩ = some (.int .i64 m.bk)) (first | exact ⟨q0, q1, q2, q3, q4, q5, q6, q7, q8, q9, q10, q11, q12, q13, q14, q15, q16, q17, q18, q19, q20, q21, q22, q23⟩ | exact ⟨p0, p1, p2, p3, p4, p5, p6, p7, p8, p9, p10, p11, p12, p13, p14, p15, p16, p17, p18, p19, p20, p21, p22, p23⟩ | exact ⟨bxac0, bxac1, bxac2, bxac3, bxac4, bxac5, bxac6, bxac7, bxac8, bxac9, bxac10, bxac11, bxxc0, bxxc1, bxxc2, bxxc3, bxxc4, bxxc5, bxxc6, bxxc7, bxxc8, bxxc9, bxxc10, bxxc11⟩) (first | (go_at_call 25; refine (toMail_sh _ m w6.drew ((hR.kept (Below.drew HB_.out) (Nat.le_refl _)).le HB_.out.size) hf).mono ?_; rintro e w7 ⟨va, rfl, ina, hba⟩; replace hba : Below w6.heap.size w6 w7 := (Below.drew (Below.refl _ _)).trans hba; have p0 := (hba.cell (p := ⟨w.heap.size, 0, none⟩) hka).trans bxac0; have p1 := (hba.cell (p := ⟨w.heap.size, 1, none⟩) hka).trans bxac1; have p2 := (hba.cell (p := ⟨w.heap.size, 2, none⟩) hka).trans bxac2; have p3 := (hba.cell (p := ⟨w.heap.size, 3, none⟩) hka).trans bxac3; have p4 := (hba.cell (p := ⟨w.heap.size, 4, none⟩) hka).trans bxac4; have p5 := (hba.cell (p := ⟨w.heap.size, 5, none⟩) hka).trans bxac5; have p6 := (hba.cell (p := ⟨w.heap.size, 6, none⟩) hka).trans bxac6; have p7 := (hba.cell (p := ⟨w.heap.size, 7, none⟩) hka).trans bxac7; have p8 := (hba.cell (p := ⟨w.heap.size, 8, none⟩) hka).trans bxac8; have p9 := (hba.cell (p := ⟨w.heap.size, 9, none⟩) hka).trans bxac9; have p10 := (hba.cell (p := ⟨w.heap.size, 10, none⟩) hka).trans bxac10; have p11 := (hba.cell (p := ⟨w.heap.size, 11, none⟩) hka).trans bxac11; have p12 := (hba.cell (p := ⟨w4.heap.size, 0, none⟩) hkx).trans bxxc0; have p13 := (hba.cell (p := ⟨w4.heap.size, 1, none⟩) hkx).trans bxxc1; have p14 := (hba.cell (p := ⟨w4.heap.size, 2, none⟩) hkx).trans bxxc2; have p15 := (hba.cell (p := ⟨w4.heap.size, 3, none⟩) hkx).trans bxxc3; have p16 := (hba.cell (p := ⟨w4.heap.size, 4, none⟩) hkx).trans bxxc4; have p17 := (hba.cell (p := ⟨w4.heap.size, 5, none⟩) hkx).trans bxxc5; have p18 := (hba.cell (p := ⟨w4.heap.size, 6, none⟩) hkx).trans bxxc6; have p19 := (hba.cell (p := ⟨w4.heap.size, 7, none⟩) hkx).trans bxxc7; have p20 := (hba.cell (p := ⟨w4.heap.size, 8, none⟩) hkx).trans bxxc8; have p21 := (hba.cell (p := ⟨w4.heap.size, 9, none⟩) hkx).trans bxxc9; have p22 := (hba.cell (p := ⟨w4.heap.size, 10, none⟩) hkx).trans bxxc10; have p23 := (hba.cell (p := ⟨w4.heap.size, 11, none⟩) hkx).trans bxxc11) | (go_at_call 27; refine (eqMail_sh _ _ m w7 ((Hinx.out.rd.kept hba (by omega)).le (by have := hba.size; omega)) (ina.rd.le (Nat.le_refl _)) (by omega) (by omega)).mono ?_; rintro e w8 ⟨rfl, hbb⟩; replace hbb : Below w6.heap.size w6 w8 := hba.trans (hbb.mono hba.size); have q0 := (hbb.cell (p := ⟨w.heap.size, 0, none⟩) hka).trans bxac0; have q1 := (hbb.cell (p := ⟨w.heap.size, 1, none⟩) hka).trans bxac1; have q2 := (hbb.cell (p := ⟨w.heap.size, 2, none⟩) hka).trans bxac2; have q3 := (hbb.cell (p := ⟨w.heap.size, 3, none⟩) hka).trans bxac3; have q4 := (hbb.cell (p := ⟨w.heap.size, 4, none⟩) hka).trans bxac4; have q5 := (hbb.cell (p := ⟨w.heap.size, 5, none⟩) hka).trans bxac5; have q6 := (hbb.cell (p := ⟨w.heap.size, 6, none⟩) hka).trans bxac6; have q7 := (hbb.cell (p := ⟨w.heap.size, 7, none⟩) hka).trans bxac7; have q8 := (hbb.cell (p := ⟨w.heap.size, 8, none⟩) hka).trans bxac8; have q9 := (hbb.cell (p := ⟨w.heap.size, 9, none⟩) hka).trans bxac9; have q10 := (hbb.cell (p := ⟨w.heap.size, 10, none⟩) hka).trans bxac10; have q11 := (hbb.cell (p := ⟨w.heap.size, 11, none⟩) hka).trans bxac11; have q12 := (hbb.cell (p := ⟨w4.heap.size, 0, none⟩) hkx).trans bxxc0; have q13 := (hbb.cell (p := ⟨w4.heap.size, 1, none⟩) hkx).trans bxxc1; have q14 := (hbb.cell (p := ⟨w4.heap.size, 2, none⟩) hkx).trans bxxc2; have q15 := (hbb.cell (p := ⟨w4.heap.size, 3, none⟩) hkx).trans bxxc3; have q16 := (hbb.cell (p := ⟨w4.heap.size, 4, none⟩) hkx).trans bxxc4; have q17 := (hbb.cell (p := ⟨w4.heap.size, 5, none⟩) hkx).trans bxxc5; have q18 := (hbb.cell (p := ⟨w4.heap.size, 6, none⟩) hkx).trans bxxc6; have q19 := (hbb.cell (p := ⟨w4.heap.size, 7, none⟩) hkx).trans bxxc7; have q20 := (hbb.cell (p := ⟨w4.heap.size, 8, none⟩) hkx).trans bxxc8; have q21 := (hbb.cell (p := ⟨w4.heap.size, 9, none⟩) hkx).trans bxxc9; have q22 := (hbb.cell (p := ⟨w4.heap.size, 10, none⟩) hkx).trans bxxc10; have q23 := (hbb.cell (p := ⟨w4.heap.size, 11, none⟩) hkx).trans bxxc11))
    clear p0 q0 p1 q1 p2 q2 p3 q3 p4 q4 p5 q5 p6 q6 p7 q7 p8 q8 p9 q9 p10 q10 p11 q11 p12 q12 p13 q13 p14 q14 p15 q15 p16 q16 p17 q17 p18 q18 p19 q19 p20 q20 p21 q21 p22 q22 p23 q23 hka hkx ina hba
    clear bxac0 bxac1 bxac2 bxac3 bxac4 bxac5 bxac6 bxac7 bxac8 bxac9 bxac10 bxac11
    clear bxxc0 bxxc1 bxxc2 bxxc3 bxxc4 bxxc5 bxxc6 bxxc7 bxxc8 bxxc9 bxxc10 bxxc11
    have bxa := Hbxa.out
    clear Hbxa
    have inx := Hinx.out
    clear Hinx
    have bxx := Hbxx.out
    clear Hbxx
    have B_w6 := HB_.out
    clear HB_
    replace bxa := (hbb.block _ (by omega)).trans bxa
    replace inx := inx.step (Stp.of (lo := 0) (hi := 0) hbb) (.inl (Nat.zero_le _))
    replace bxx := (hbb.block _ (by omega)).trans bxx
    have B_w8 : Below w.heap.size w w8 := B_w6.trans (hbb.mono B_w6.size)
    have hs_w8 : w6.heap.size ≤ w8.heap.size := hbb.size
    clear hbb B_w6
    have Hbxa := hide bxa
    clear bxa
    have Hinx := hide inx
    clear inx
    have Hbxx := hide bxx
    clear bxx
    have HB_ := hide B_w8
    clear B_w8
    go_wp2
    go_ret
    exact ⟨rfl, HB_.out⟩
  · skip
    obtain ⟨vla, vsa, rfl, ⟨oa, ca, rfl, _⟩, ⟨oga, cga, rfl, _⟩⟩ := hR0
    have hb_w0 : Below w.heap.size w (w.alloc (.cells #[.int .i64 m.k, .int .i64 m.c.a, .int .i64 m.c.b, .int .i64 m.c.f, .int .i64 m.c.s, .slice oa m.c.l.length ca, .slice oga m.c.g.length cga, .int .i64 m.c.pl, .int .i64 m.c.st, .int .i64 m.fa, .int .i64 m.fp, .int .i64 m.bk] 57)) := (Below.refl _ _).alloc (Nat.le_refl _) _
    have Hb_ := hide hb_w0
    have HR := hide hR
    clear hb_w0 hR
    go_enter Try.func5, Try.ntmps5
    go_wp2_with fail
    have hb_w0 := Hb_.out
    have hR := HR.out
    generalize w.alloc (.cells #[.int .i64 m.k, .int .i64 m.c.a, .int .i64 m.c.b, .int .i64 m.c.f, .int .i64 m.c.s, .slice oa m.c.l.length ca, .slice oga m.c.g.length cga, .int .i64 m.c.pl, .int .i64 m.c.st, .int .i64 m.fa, .int .i64 m.fp, .int .i64 m.bk] 57) = w0 at *
    refine (szMail_sh _ m w.heap.size w0 (hR.kept hb_w0 (Nat.le_refl _)) hl hg).mono ?_
    rintro e w1 ⟨⟨nn, rfl, hpos, hneg, hn1, hn2⟩, hb_w1⟩
    have hnn := hneg hfit
    have HB := hide (hb_w0.trans (hb_w1.mono hb_w0.size))
    clear hpos hneg hb_w0 hb_w1
    go_wp2
    go_ret
    exact ⟨rfl, HB.out⟩

theorem walkFnExactMailOk (k a b f s : Int) (o : Option Addr) (cap : Nat) (l : List Int) (og : Option Addr) (cg : Nat) (g : List (Int × Int)) (pl st fa fp bk : Int) (w : World) (hm : l.length ≤ maxLen) (hR : Rd w o l) (hB8 : isB l) (hmg : g.length ≤ maxLen) (hG : RdG w og g) :
    Calls Try.prog 5 #[mlv k a b f s (.slice o l.length cap) (.slice og g.length cg) pl st fa fp bk] w fun e w' => e = .returned (.bool true) ∧ Below w.heap.size w w' := by
  exact lawFnExactMailOk _ ⟨k, ⟨a, b, f, s, l, g, pl, st⟩, fa, fp, bk⟩ w ⟨_, _, rfl, ⟨o, cap, rfl, RdB_rd.2 hR⟩, ⟨og, cg, rfl, RdG_rd.2 hG⟩⟩ hm hmg hB8

set_option maxRecDepth 100000 in
theorem fnExactMailOk_lifted (os : Os) (started : os.Started) (H : Type) (enc : TypeId × Value → H) :
    ReturnsInHanded {} Try.checked os 5 .any (Rows.fnExactMailOkSpec.pre6 enc Try.prog Try.f5 Rows.fnExactMailOkRow.domain false) (Rows.fnExactMailOkSpec.post enc Try.prog Try.f5 false true false false) := by
  refine returnsInHanded_of_change (C := Try.checked) own started (by kernel_rfl) Try.func5
    (ChangeSpec.witness6 (enc := enc) (C := Try.checked) false ⟨#[], #[.agg #[.int .i64 0, .int .i64 0, .int .i64 0, .int .i64 0, .int .i64 0, .slice none 0 0, .slice none 0 0, .int .i64 0, .int .i64 0, .int .i64 0, .int .i64 0, .int .i64 0]], []⟩ 8 (by kernel_rfl) (by kernel_rfl) (by kernel_rfl) (by kernel_rfl)) ?_
  intro W base args ds gs before hval0 hW hcnd _
  have hval : ∀ (j : Nat) t v, Try.f5.params[j]? = some t → args[j]? = some v → Value.okWide Try.prog W .any base t v := hval0
  have hW' := hW
  obtain ⟨p, q, hA0, hV, rfl, hfz, hnd⟩ := hW
  have hA : DataW.TrodAll enc Try.prog W 0 (fun _ => true) true Try.f5.params.toList args.toList ds p := hA0
  rw [Try.params5] at hA hval
  obtain ⟨v0, vs0, d0, ds0, p0, q0, hargs, rfl, rfl, h0, r0⟩ := trodAll_cons hA
  obtain ⟨rfl, rfl, rfl⟩ := trodAll_nil r0
  obtain rfl : args = #[v0] := by cases args; simp_all
  obtain ⟨rfl, rfl⟩ := trodVars_none hV
  have k0 := h0
  have lt0 : ∀ x ∈ p0, x.block < W.heap.size := by obtain ⟨m, hm⟩ := k0; exact DataW.trod_lt m _ _ _ hm
  obtain ⟨kd0, a0, b0, f0, s0, o0, cap0, l0, og0, cg0, g0, pl0, st0, fa0, fp0, bk0, rfl, hm0, hR0, hB80, hmg0, hG0⟩ := open_mail (hval 0 57 v0 rfl rfl) h0
  clear hA0 hval0
  refine (walkFnExactMailOk kd0 a0 b0 f0 s0 o0 cap0 l0 og0 cg0 g0 pl0 st0 fa0 fp0 bk0 W hm0 hR0 hB80 hmg0 hG0 ).mono fun e W' ⟨he, bel⟩ => ?_
  subst he
  exact ⟨_, rfl, _, _, _, [], _, [], hW', trodAll_mk1 (shut_bool Try.underlying4 _), (trodAll_cons_mk (Below.trod laidOut (by kernel_rfl) (of_decide_eq_true (by kernel_rfl)) k0 bel lt0) trodAll_mk0), rfl, bel.frame _, fun h => by cases h⟩

theorem fnExactMailOk_over : Rows.fnExactMailOkRow.holds Try.pinned (OpenSpec.ofChange Rows.fnExactMailOkSpec) :=
  OpenClaim.holds_of_wide 5 Try.f5 rfl rfl rfl rfl rfl rfl rfl ⟨rfl, rfl, rfl, rfl, rfl⟩ rfl rfl rfl rfl rfl (by kernel_rfl) Try.func5 (by kernel_rfl)
    (of_decide_eq_true (by kernel_rfl)) (by unfold Func.isWrapper; first | (rw [if_pos (by decide +kernel)]; kernel_rfl) | (rw [if_neg (by decide +kernel)]; exact ⟨rfl, rfl⟩))
    (fun os started H enc _ => fnExactMailOk_lifted os started H enc)

theorem fnExactMailOk_holds : Rows.FnExactMailOkSaid := fnExactMailOk_over

end Go.Proofs.Ytoeoiljddcjphaa
