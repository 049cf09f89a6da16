/- For every carrier the law FnExactHere answers true, and the carrier reads as it did: impl.Here answers as the model's, and writes nothing into what it is handed. No conditions. -/
import Derived.Test.YtdbfenioblelnaaSHere
import Derived.Deep.RegionWith
import Derived.Deep.RegionHeld3
namespace Go.Proofs.Ytdbfenioblelnaa
open Go.ChangeShapes Go.WideShapes Go.ChangeAt Go.RowKit Go.Joins
set_option linter.unusedVariables false
set_option linter.unusedSimpArgs false

theorem RdG.old2 {w w' : World} {o : Option Addr} {l : List (Int × Int)} (h : RdG w o l) (hb : Below w.heap.size w w') : RdG w' o l := h.kept hb
theorem Rd.old2 {w w' : World} {o : Option Addr} {l : List Int} (h : Rd w o l) (hb : Below w.heap.size w w') : Rd w' o l := h.kept hb

set_option maxRecDepth 100000 in
set_option maxHeartbeats 2000000 in
theorem lawHere (a b f s : Int) (o : Option Addr) (cap : Nat) (l : List Int) (og : Option Addr) (cg : Nat) (g : List (Int × Int)) (pl st : Int) (w : World) (hm : l.length ≤ maxLen) (hR : Rd w o l) (hB8 : isB l) (hmg : g.length ≤ maxLen) (hG : RdG w og g) :
    Calls Try.prog 7 #[crr a b f s (.slice o l.length cap) (.slice og g.length cg) pl st] w fun e w' => e = .returned (.bool true) ∧ Below w.heap.size w w' := by
  have hsz := fun w => szCarrier_any a b f s o og l.length cap g.length cg pl st 1048576 w hm hmg (by decide) (by decide)
  have bx := boxC_new w a b f s (.slice o l.length cap) (.slice og g.length cg) pl st 52
  have hz : w.heap.size < (w.alloc (.cells #[.int .i64 a, .int .i64 b, .int .i64 f, .int .i64 s, .slice o l.length cap, .slice og g.length cg, .int .i64 pl, .int .i64 st] 52)).heap.size := by simp
  have hb0 : Below w.heap.size w (w.alloc (.cells #[.int .i64 a, .int .i64 b, .int .i64 f, .int .i64 s, .slice o l.length cap, .slice og g.length cg, .int .i64 pl, .int .i64 st] 52)) := (Below.refl _ _).alloc (Nat.le_refl _) _
  by_cases hfit : (1048576 : Int) - l.length - g.length < 0
  · rw [if_pos hfit] at hsz
    go_enter Try.func7, Try.ntmps7
    go_wp2_with fail
    generalize (w.alloc (.cells #[.int .i64 a, .int .i64 b, .int .i64 f, .int .i64 s, .slice o l.length cap, .slice og g.length cg, .int .i64 pl, .int .i64 st] 52)) = w0 at *
    refine (hsz _).mono ?_
    rintro e w1 ⟨rfl, hb1⟩
    have HB1 := hide (hb0.trans (hb1.mono (Nat.le_of_lt hz)))
    go_wp2
    go_ret
    exact ⟨rfl, HB1.out⟩
  · rw [if_neg hfit] at hsz
    have hlen : l.length ≤ 1048576 := by omega
    have hgl : g.length ≤ 1048576 := by omega
    go_enter Try.func7, Try.ntmps7
    go_wp2_with fail
    generalize (w.alloc (.cells #[.int .i64 a, .int .i64 b, .int .i64 f, .int .i64 s, .slice o l.length cap, .slice og g.length cg, .int .i64 pl, .int .i64 st] 52)) = w0 at *
    refine (hsz _).mono ?_
    rintro e w1 ⟨rfl, hb1⟩
    generalize (1048576 : Int) - l.length - g.length = left at *
    replace bx := bx.kept hb1 hz
    have B1 := hb0.trans (hb1.mono (Nat.le_of_lt hz))
    have hz1 : w.heap.size < w1.heap.size := Nat.lt_of_lt_of_le hz hb1.size
    clear hb0 hb1 hz hsz
    have bx2 := bx
    obtain ⟨x0, x1, x2, x3, x4, x5, x6, x7⟩ := bx2
    go_wp2_with fail
    refine (toCarrier_any a b f s o og cap cg l g pl st w1 (hR.kept B1) hB8 hlen (hG.kept B1) hgl).mono ?_
    rintro e w2 ⟨k2, kg2, rfl, own2, own2g, _, hb2⟩
    clear x0 x1 x2 x3 x4 x5 x6 x7
    replace bx := bx.kept hb2 hz1
    have B2 := B1.trans (hb2.mono B1.size)
    have hz2 : w.heap.size < w2.heap.size := Nat.lt_of_lt_of_le hz1 hb2.size
    have r2 := own2g.rd
    clear hb2 B1 hz1 own2 own2g
    have bx2 := bx
    obtain ⟨x0, x1, x2, x3, x4, x5, x6, x7⟩ := bx2
    go_wp2_with fail
    refine (specHere_any a b f s _ _ _ _ _ g pl st w2 hm hmg r2).mono ?_
    rintro e w3 ⟨rfl, hb3⟩
    have HI := fun o' og' cap' cg' w' r' => implHere_any a b f s o' og' l.length cap' cg' g pl st w' hm hmg r'
    generalize carrierOkB a b f s l.length g pl st = ok at *
    generalize hereI ok g pl = xy at *
    obtain ⟨hx, hy⟩ := xy
    dsimp only at HI
    clear x0 x1 x2 x3 x4 x5 x6 x7
    replace bx := bx.kept hb3 hz2
    have B3 := B2.trans (hb3.mono B2.size)
    have hz3 : w.heap.size < w3.heap.size := Nat.lt_of_lt_of_le hz2 hb3.size
    clear hb3 B2 hz2 r2
    have sb := World.alloc_heap_new w3 (.cells #[.int .i64 hx, .int .i64 hy] 39)
    have bA : Below w3.heap.size w3 (w3.alloc (.cells #[.int .i64 hx, .int .i64 hy] 39)) := (Below.refl _ _).alloc (Nat.le_refl _) _
    have bx2 := bx
    obtain ⟨x0, x1, x2, x3, x4, x5, x6, x7⟩ := bx2
    go_wp2_with fail
    clear x0 x1 x2 x3 x4 x5 x6 x7
    replace bx := bx.kept bA hz3
    have hzb : w.heap.size < (w3.alloc (.cells #[.int .i64 hx, .int .i64 hy] 39)).heap.size := Nat.lt_of_lt_of_le hz3 bA.size
    have Bb := B3.trans (bA.mono B3.size)
    have hsb : w3.heap.size < (w3.alloc (.cells #[.int .i64 hx, .int .i64 hy] 39)).heap.size := by simp
    generalize (w3.alloc (.cells #[.int .i64 hx, .int .i64 hy] 39)) = wb at *
    generalize w3.heap.size = n3 at *
    refine (toCarrier_any a b f s o og cap cg l g pl st wb (hR.kept Bb) hB8 hlen (hG.kept Bb) hgl).mono ?_
    rintro e w4 ⟨k4, kg4, rfl, own4, own4g, _, hb4⟩
    replace bx := bx.kept hb4 hzb
    replace sb := (hb4.block _ hsb).trans sb
    have B4 := Bb.trans (hb4.mono Bb.size)
    have hz4 : w.heap.size < w4.heap.size := Nat.lt_of_lt_of_le hzb hb4.size
    have hs4 : n3 < w4.heap.size := Nat.lt_of_lt_of_le hsb hb4.size
    have r4 := own4.rd
    have r4g := own4g.rd
    clear hb4 B3 hz3 own4 own4g Bb hzb hsb bA
    have cx := boxC_new w4 a b f s (.slice (some ⟨k4, 0, none⟩) l.length l.length) (.slice (some ⟨kg4, 0, none⟩) g.length g.length) pl st 33
    have bA : Below w4.heap.size w4 (w4.alloc (.cells #[.int .i64 a, .int .i64 b, .int .i64 f, .int .i64 s, .slice (some ⟨k4, 0, none⟩) l.length l.length, .slice (some ⟨kg4, 0, none⟩) g.length g.length, .int .i64 pl, .int .i64 st] 33)) := (Below.refl _ _).alloc (Nat.le_refl _) _
    have hzA : w4.heap.size < (w4.alloc (.cells #[.int .i64 a, .int .i64 b, .int .i64 f, .int .i64 s, .slice (some ⟨k4, 0, none⟩) l.length l.length, .slice (some ⟨kg4, 0, none⟩) g.length g.length, .int .i64 pl, .int .i64 st] 33)).heap.size := by simp
    go_wp2_with fail
    generalize (w4.alloc (.cells #[.int .i64 a, .int .i64 b, .int .i64 f, .int .i64 s, .slice (some ⟨k4, 0, none⟩) l.length l.length, .slice (some ⟨kg4, 0, none⟩) g.length g.length, .int .i64 pl, .int .i64 st] 33)) = w5 at *
    replace bx := bx.kept bA hz4
    replace sb := (bA.block _ hs4).trans sb
    have B5 := B4.trans (bA.mono B4.size)
    have hz5 : w.heap.size < w5.heap.size := Nat.lt_of_lt_of_le hz4 bA.size
    have hs5 : n3 < w5.heap.size := Nat.lt_of_lt_of_le hs4 bA.size
    replace r4 := r4.kept bA
    replace r4g := r4g.kept bA
    generalize w4.heap.size = k5 at *
    refine (HI _ _ _ _ w5 r4g).mono ?_
    rintro e w6 ⟨rfl, hb6⟩
    replace bx := bx.kept hb6 hz5
    replace cx := cx.kept hb6 hzA
    replace sb := (hb6.block _ hs5).trans sb
    have B6 := B5.trans (hb6.mono B5.size)
    have hz6 : w.heap.size < w6.heap.size := Nat.lt_of_lt_of_le hz5 hb6.size
    have hy6 : k5 < w6.heap.size := Nat.lt_of_lt_of_le hzA hb6.size
    have hs6 : n3 < w6.heap.size := Nat.lt_of_lt_of_le hs5 hb6.size
    replace r4 := r4.kept hb6
    replace r4g := r4g.kept hb6
    clear hb6 B4 B5 bA hzA hz4 hz5 hs4 hs5
    have tb := World.alloc_heap_new w6 (.cells #[.int .i64 hx, .int .i64 hy] 39)
    have bA : Below w6.heap.size w6 (w6.alloc (.cells #[.int .i64 hx, .int .i64 hy] 39)) := (Below.refl _ _).alloc (Nat.le_refl _) _
    have hsb : w6.heap.size < (w6.alloc (.cells #[.int .i64 hx, .int .i64 hy] 39)).heap.size := by simp
    replace sb := (bA.block _ hs6).trans sb
    have s0 := block_cell sb 0 _ rfl
    have s1 := block_cell sb 1 _ rfl
    have t0 := block_cell tb 0 _ rfl
    have t1 := block_cell tb 1 _ rfl
    go_wp2_with fail
    generalize (w6.alloc (.cells #[.int .i64 hx, .int .i64 hy] 39)) = w7 at *
    replace bx := bx.kept bA hz6
    replace cx := cx.kept bA hy6
    have B7 := B6.trans (bA.mono B6.size)
    have hz7 : w.heap.size < w7.heap.size := Nat.lt_of_lt_of_le hz6 bA.size
    have hy7 : k5 < w7.heap.size := Nat.lt_of_lt_of_le hy6 bA.size
    replace r4 := r4.kept bA
    replace r4g := r4g.kept bA
    clear bA B6 hz6 hy6 hs6 HI s0 s1 t0 t1 sb tb hsb
    refine (eqSeg_same hx hy w7).mono ?_
    rintro e w8 ⟨rfl, hb8⟩
    replace bx := bx.kept hb8 hz7
    replace cx := cx.kept hb8 hy7
    have B8 := B7.trans (hb8.mono B7.size)
    have hz8 : w.heap.size < w8.heap.size := Nat.lt_of_lt_of_le hz7 hb8.size
    have hy8 : k5 < w8.heap.size := Nat.lt_of_lt_of_le hy7 hb8.size
    replace r4 := r4.kept hb8
    replace r4g := r4g.kept hb8
    clear hb8 B7 hz7 hy7
    obtain ⟨x0, x1, x2, x3, x4, x5, x6, x7⟩ := bx
    obtain ⟨y0, y1, y2, y3, y4, y5, y6, y7⟩ := cx
    go_wp2
    have hto := hide (fun W (hb : Below w.heap.size w W) => toCarrier_any a b f s o og cap cg l g pl st W (hR.kept hb) hB8 hlen (hG.kept hb) hgl)
    have HB8 := hide B8
    clear B8
    go_region_held3 (fun w' => w'.cell? ⟨w.heap.size, 0, none⟩ = some (.int .i64 a) ∧ w'.cell? ⟨w.heap.size, 1, none⟩ = some (.int .i64 b) ∧ w'.cell? ⟨w.heap.size, 2, none⟩ = some (.int .i64 f) ∧ w'.cell? ⟨w.heap.size, 3, none⟩ = some (.int .i64 s) ∧ w'.cell? ⟨w.heap.size, 4, none⟩ = some (.slice o l.length cap) ∧ w'.cell? ⟨w.heap.size, 5, none⟩ = some (.slice og g.length cg) ∧ w'.cell? ⟨w.heap.size, 6, none⟩ = some (.int .i64 pl) ∧ w'.cell? ⟨w.heap.size, 7, none⟩ = some (.int .i64 st) ∧ w'.cell? ⟨k5, 0, none⟩ = some (.int .i64 a) ∧ w'.cell? ⟨k5, 1, none⟩ = some (.int .i64 b) ∧ w'.cell? ⟨k5, 2, none⟩ = some (.int .i64 f) ∧ w'.cell? ⟨k5, 3, none⟩ = some (.int .i64 s) ∧ w'.cell? ⟨k5, 4, none⟩ = some (.slice (some ⟨k4, 0, none⟩) l.length l.length) ∧ w'.cell? ⟨k5, 5, none⟩ = some (.slice (some ⟨kg4, 0, none⟩) g.length g.length) ∧ w'.cell? ⟨k5, 6, none⟩ = some (.int .i64 pl) ∧ w'.cell? ⟨k5, 7, none⟩ = some (.int .i64 st)) (first | exact ⟨q0, q1, q2, q3, q4, q5, q6, q7, q8, q9, q10, q11, q12, q13, q14, q15⟩ | exact ⟨p0, p1, p2, p3, p4, p5, p6, p7, p8, p9, p10, p11, p12, p13, p14, p15⟩ | exact ⟨x0, x1, x2, x3, x4, x5, x6, x7, y0, y1, y2, y3, y4, y5, y6, y7⟩) (first | (go_at_call 23; refine (hto.out w8.drew (Below.drew HB8.out)).mono ?_; rintro e wa ⟨ka, kga, rfl, owna, ownag, _, hba⟩; replace hba : Below w8.heap.size w8 wa := (Below.drew (Below.refl _ _)).trans hba; have p0 := (hba.cell (p := ⟨w.heap.size, 0, none⟩) hz8).trans x0; have p1 := (hba.cell (p := ⟨w.heap.size, 1, none⟩) hz8).trans x1; have p2 := (hba.cell (p := ⟨w.heap.size, 2, none⟩) hz8).trans x2; have p3 := (hba.cell (p := ⟨w.heap.size, 3, none⟩) hz8).trans x3; have p4 := (hba.cell (p := ⟨w.heap.size, 4, none⟩) hz8).trans x4; have p5 := (hba.cell (p := ⟨w.heap.size, 5, none⟩) hz8).trans x5; have p6 := (hba.cell (p := ⟨w.heap.size, 6, none⟩) hz8).trans x6; have p7 := (hba.cell (p := ⟨w.heap.size, 7, none⟩) hz8).trans x7; have p8 := (hba.cell (p := ⟨k5, 0, none⟩) hy8).trans y0; have p9 := (hba.cell (p := ⟨k5, 1, none⟩) hy8).trans y1; have p10 := (hba.cell (p := ⟨k5, 2, none⟩) hy8).trans y2; have p11 := (hba.cell (p := ⟨k5, 3, none⟩) hy8).trans y3; have p12 := (hba.cell (p := ⟨k5, 4, none⟩) hy8).trans y4; have p13 := (hba.cell (p := ⟨k5, 5, none⟩) hy8).trans y5; have p14 := (hba.cell (p := ⟨k5, 6, none⟩) hy8).trans y6; have p15 := (hba.cell (p := ⟨k5, 7, none⟩) hy8).trans y7) | (go_at_call 25; refine (eqCarrier_same a b f s _ _ _ _ _ _ _ _ l g pl st wa (r4.kept hba) owna.rd hlen (r4g.kept hba) ownag.rd hgl).mono ?_; rintro e wb ⟨rfl, hbb⟩; replace hbb : Below w8.heap.size w8 wb := hba.trans (hbb.mono hba.size); have q0 := (hbb.cell (p := ⟨w.heap.size, 0, none⟩) hz8).trans x0; have q1 := (hbb.cell (p := ⟨w.heap.size, 1, none⟩) hz8).trans x1; have q2 := (hbb.cell (p := ⟨w.heap.size, 2, none⟩) hz8).trans x2; have q3 := (hbb.cell (p := ⟨w.heap.size, 3, none⟩) hz8).trans x3; have q4 := (hbb.cell (p := ⟨w.heap.size, 4, none⟩) hz8).trans x4; have q5 := (hbb.cell (p := ⟨w.heap.size, 5, none⟩) hz8).trans x5; have q6 := (hbb.cell (p := ⟨w.heap.size, 6, none⟩) hz8).trans x6; have q7 := (hbb.cell (p := ⟨w.heap.size, 7, none⟩) hz8).trans x7; have q8 := (hbb.cell (p := ⟨k5, 0, none⟩) hy8).trans y0; have q9 := (hbb.cell (p := ⟨k5, 1, none⟩) hy8).trans y1; have q10 := (hbb.cell (p := ⟨k5, 2, none⟩) hy8).trans y2; have q11 := (hbb.cell (p := ⟨k5, 3, none⟩) hy8).trans y3; have q12 := (hbb.cell (p := ⟨k5, 4, none⟩) hy8).trans y4; have q13 := (hbb.cell (p := ⟨k5, 5, none⟩) hy8).trans y5; have q14 := (hbb.cell (p := ⟨k5, 6, none⟩) hy8).trans y6; have q15 := (hbb.cell (p := ⟨k5, 7, none⟩) hy8).trans y7))
    go_wp2
    go_ret
    exact ⟨rfl, HB8.out.trans (hbb.mono HB8.out.size)⟩

set_option maxRecDepth 100000 in
theorem fnExactHere_lifted (os : Os) (started : os.Started) (H : Type) (enc : TypeId × Value → H) :
    ReturnsInHanded {} Try.checked os 7 .any (Rows.fnExactHereSpec.pre6 enc Try.prog Try.f7 Rows.fnExactHereRow.domain false) (Rows.fnExactHereSpec.post enc Try.prog Try.f7 false true false false) := by
  refine returnsInHanded_of_change (C := Try.checked) own started (by kernel_rfl) Try.func7
    (ChangeSpec.witness6 (enc := enc) (C := Try.checked) false ⟨#[], #[.agg #[.int .i64 0, .int .i64 0, .int .i64 0, .int .i64 0, .slice none 0 0, .slice none 0 0, .int .i64 0, .int .i64 0]], []⟩ 8 (by kernel_rfl) (by kernel_rfl) (by kernel_rfl) (by kernel_rfl)) ?_
  intro W base args ds gs before hval0 hW hcnd _
  have hval : ∀ (j : Nat) t v, Try.f7.params[j]? = some t → args[j]? = some v → Value.okWide Try.prog W .any base t v := hval0
  have hW' := hW
  obtain ⟨p, q, hA0, hV, rfl, hfz, hnd⟩ := hW
  have hA : DataW.TrodAll enc Try.prog W 0 (fun _ => true) true Try.f7.params.toList args.toList ds p := hA0
  rw [Try.params7] at hA hval
  obtain ⟨v0, vs0, d0, ds0, p0, q0, hargs, rfl, rfl, h0, r0⟩ := trodAll_cons hA
  obtain ⟨rfl, rfl, rfl⟩ := trodAll_nil r0
  obtain rfl : args = #[v0] := by cases args; simp_all
  obtain ⟨rfl, rfl⟩ := trodVars_none hV
  have k0 := h0
  have lt0 : ∀ x ∈ p0, x.block < W.heap.size := by obtain ⟨m, hm⟩ := k0; exact DataW.trod_lt m _ _ _ hm
  obtain ⟨a0, b0, f0, s0, o0, cap0, l0, og0, cg0, g0, pl0, st0, rfl, hm0, hR0, hB80, hmg0, hG0⟩ := open_carrier (hval 0 52 v0 rfl rfl) h0
  clear hA0 hval0
  refine (lawHere a0 b0 f0 s0 o0 cap0 l0 og0 cg0 g0 pl0 st0 W hm0 hR0 hB80 hmg0 hG0 ).mono fun e W' ⟨he, bel⟩ => ?_
  subst he
  exact ⟨_, rfl, _, _, _, [], _, [], hW', trodAll_mk1 (shut_bool Try.underlying4 _), (trodAll_cons_mk (Below.trod laidOut (by kernel_rfl) (of_decide_eq_true (by kernel_rfl)) k0 bel lt0) trodAll_mk0), rfl, bel.frame _, fun h => by cases h⟩

theorem fnExactHere_over : Rows.fnExactHereRow.holds Try.pinned (OpenSpec.ofChange Rows.fnExactHereSpec) :=
  OpenClaim.holds_of_wide 7 Try.f7 rfl rfl rfl rfl rfl rfl rfl ⟨rfl, rfl, rfl, rfl, rfl⟩ rfl rfl rfl rfl rfl (by kernel_rfl) Try.func7 (by kernel_rfl)
    (of_decide_eq_true (by kernel_rfl)) (by unfold Func.isWrapper; first | (rw [if_pos (by decide +kernel)]; kernel_rfl) | (rw [if_neg (by decide +kernel)]; exact ⟨rfl, rfl⟩))
    (fun os started H enc _ => fnExactHere_lifted os started H enc)

theorem fnExactHere_holds : Rows.FnExactHereSaid := fnExactHere_over

end Go.Proofs.Ytdbfenioblelnaa
