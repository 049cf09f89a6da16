/- For every pool the law FnExactPoolOk answers true, and the pool reads as it did: impl.PoolOk answers as the model's, and writes nothing into what it is handed. No conditions. -/
import Derived.Test.YtldjaapbkihibaaGrSPok3
import Derived.Deep.RegionHeld3
namespace Go.Proofs.Ytldjaapbkihibaa
open Go.ChangeShapes Go.WideShapes Go.ChangeAt Go.RowKit Go.Joins
set_option linter.unusedVariables false
set_option linter.unusedSimpArgs false

theorem block_cellO {W : World} {B : Nat} {c : Array Value} {t : TypeId} (h : W.heap[B]? = some (.cells c t (0, 0))) (j : Nat) (u : Value) (hj : c[j]? = some u) : W.cell? ⟨B, j, none⟩ = some u := bx_cell h j u hj
set_option maxRecDepth 100000 in
set_option maxHeartbeats 8000000 in
theorem lawFnExactPoolOk (v : Value) (m : Pm) (w : World) (hR : RdPm w.heap.size w v m) (hl : lenPm m) :
    Calls Try.prog 7 #[v] w fun e w' => e = .returned (.bool true) ∧ Below w.heap.size w w' := by
  obtain ⟨oa, ca, oRa, cRa, eva⟩ := hR.opn
  subst eva
  have bxa : (w.alloc (.cells #[.int .i64 m.key, .slice oa m.l.length ca, .slice oRa m.ring.length cRa] 66)).heap[w.heap.size]? = some (.cells #[.int .i64 m.key, .slice oa m.l.length ca, .slice oRa m.ring.length cRa] 66 (0, 0)) := World.alloc_heap_new w (.cells #[.int .i64 m.key, .slice oa m.l.length ca, .slice oRa m.ring.length cRa] 66)
  have hb_w0 : Below w.heap.size w (w.alloc (.cells #[.int .i64 m.key, .slice oa m.l.length ca, .slice oRa m.ring.length cRa] 66)) := (Below.refl _ _).alloc (Nat.le_refl _) _
  have hz_w0 : w.heap.size < (w.alloc (.cells #[.int .i64 m.key, .slice oa m.l.length ca, .slice oRa m.ring.length cRa] 66)).heap.size := by simp
  have Hbxa := hide bxa
  have Hb_ := hide hb_w0
  have HR := hide hR
  clear bxa hb_w0 hR
  go_enter Try.func7, Try.ntmps7
  go_wp2_with fail
  have bxa := Hbxa.out
  have hb_w0 := Hb_.out
  have hR := HR.out
  clear Hbxa Hb_ HR
  generalize w.alloc (.cells #[.int .i64 m.key, .slice oa m.l.length ca, .slice oRa m.ring.length cRa] 66) = w0 at *
  have B_w0 := hb_w0
  clear hb_w0
  refine (szPool_sh _ m w0 ((hR.kept B_w0 (Nat.le_refl _)).le B_w0.size) hl).mono ?_
  rintro e w1 ⟨⟨zz, rfl, hz⟩, hb_w1⟩
  replace bxa := (hb_w1.block _ (by omega)).trans bxa
  have B_w1 : Below w.heap.size w w1 := B_w0.trans (hb_w1.mono B_w0.size)
  have hs_w1 : w0.heap.size ≤ w1.heap.size := hb_w1.size
  clear hb_w1 B_w0
  rcases hz with ⟨hz1, hz2⟩ | ⟨hz1, hz2, hf⟩
  · have Hbxa := hide bxa
    clear bxa
    have HB_ := hide B_w1
    clear B_w1
    go_wp2
    go_ret
    exact ⟨rfl, HB_.out⟩
  · have HS := hide (fun v w h => specPoolOk_sh v m w h hf)
    have HI := hide (fun v w h => implPoolOk_sh v m w h hf)
    generalize poolB m = t at *
    have bxac0 : w1.cell? ⟨w.heap.size, 0, none⟩ = some (.int .i64 m.key) := block_cellO bxa 0 _ rfl
    have bxac1 : w1.cell? ⟨w.heap.size, 1, none⟩ = some (.slice oa m.l.length ca) := block_cellO bxa 1 _ rfl
    have bxac2 : w1.cell? ⟨w.heap.size, 2, none⟩ = some (.slice oRa m.ring.length cRa) := block_cellO bxa 2 _ rfl
    have Hbxa := hide bxa
    clear bxa
    have HB_ := hide B_w1
    clear B_w1
    go_wp2_with fail
    clear bxac0 bxac1 bxac2
    have bxa := Hbxa.out
    clear Hbxa
    have B_w1 := HB_.out
    clear HB_
    refine (toPool_sh _ m w1 ((hR.kept B_w1 (Nat.le_refl _)).le B_w1.size) hf).mono ?_
    rintro e w2 ⟨v2, rfl, in2, hb_w2⟩
    replace bxa := (hb_w2.block _ (by omega)).trans bxa
    have B_w2 : Below w.heap.size w w2 := B_w1.trans (hb_w2.mono B_w1.size)
    have hs_w2 : w1.heap.size ≤ w2.heap.size := hb_w2.size
    clear hb_w2 B_w1
    have Hbxa := hide bxa
    clear bxa
    have Hin2 := hide in2
    clear in2
    have HB_ := hide B_w2
    clear B_w2
    go_wp2_with fail
    have bxa := Hbxa.out
    clear Hbxa
    have in2 := Hin2.out
    clear Hin2
    have B_w2 := HB_.out
    clear HB_
    refine (HS.out _ w2 (in2.rd.le (by omega))).mono ?_
    rintro e w3 ⟨rfl, hb_w3⟩
    replace bxa := (hb_w3.block _ (by omega)).trans bxa
    replace in2 := in2.step (Stp.of (lo := 0) (hi := 0) hb_w3) (.inl (Nat.zero_le _))
    have B_w3 : Below w.heap.size w w3 := B_w2.trans (hb_w3.mono B_w2.size)
    have hs_w3 : w2.heap.size ≤ w3.heap.size := hb_w3.size
    clear hb_w3 B_w2
    clear in2
    have bxac0 : w3.cell? ⟨w.heap.size, 0, none⟩ = some (.int .i64 m.key) := block_cellO bxa 0 _ rfl
    have bxac1 : w3.cell? ⟨w.heap.size, 1, none⟩ = some (.slice oa m.l.length ca) := block_cellO bxa 1 _ rfl
    have bxac2 : w3.cell? ⟨w.heap.size, 2, none⟩ = some (.slice oRa m.ring.length cRa) := block_cellO bxa 2 _ rfl
    have Hbxa := hide bxa
    clear bxa
    have HB_ := hide B_w3
    clear B_w3
    go_wp2_with fail
    clear bxac0 bxac1 bxac2
    have bxa := Hbxa.out
    clear Hbxa
    have B_w3 := HB_.out
    clear HB_
    refine (toPool_sh _ m w3 ((hR.kept B_w3 (Nat.le_refl _)).le B_w3.size) hf).mono ?_
    rintro e w4 ⟨vx, rfl, inx, hb_w4⟩
    replace bxa := (hb_w4.block _ (by omega)).trans bxa
    have B_w4 : Below w.heap.size w w4 := B_w3.trans (hb_w4.mono B_w3.size)
    have hs_w4 : w3.heap.size ≤ w4.heap.size := hb_w4.size
    clear hb_w4 B_w3
    obtain ⟨ox, cx, oRx, cRx, evx⟩ := inx.rd.opn
    subst evx
    have bxx : (w4.alloc (.cells #[.int .i64 m.key, .slice ox m.l.length cx, .slice oRx m.ring.length cRx] 26)).heap[w4.heap.size]? = some (.cells #[.int .i64 m.key, .slice ox m.l.length cx, .slice oRx m.ring.length cRx] 26 (0, 0)) := World.alloc_heap_new w4 (.cells #[.int .i64 m.key, .slice ox m.l.length cx, .slice oRx m.ring.length cRx] 26)
    have hb_w5 : Below w4.heap.size w4 (w4.alloc (.cells #[.int .i64 m.key, .slice ox m.l.length cx, .slice oRx m.ring.length cRx] 26)) := (Below.refl _ _).alloc (Nat.le_refl _) _
    have hz_w5 : w4.heap.size < (w4.alloc (.cells #[.int .i64 m.key, .slice ox m.l.length cx, .slice oRx m.ring.length cRx] 26)).heap.size := by simp
    have bxxc0 : (w4.alloc (.cells #[.int .i64 m.key, .slice ox m.l.length cx, .slice oRx m.ring.length cRx] 26)).cell? ⟨w4.heap.size, 0, none⟩ = some (.int .i64 m.key) := block_cellO bxx 0 _ rfl
    have bxxc1 : (w4.alloc (.cells #[.int .i64 m.key, .slice ox m.l.length cx, .slice oRx m.ring.length cRx] 26)).cell? ⟨w4.heap.size, 1, none⟩ = some (.slice ox m.l.length cx) := block_cellO bxx 1 _ rfl
    have bxxc2 : (w4.alloc (.cells #[.int .i64 m.key, .slice ox m.l.length cx, .slice oRx m.ring.length cRx] 26)).cell? ⟨w4.heap.size, 2, none⟩ = some (.slice oRx m.ring.length cRx) := block_cellO bxx 2 _ rfl
    have Hbxx := hide bxx
    have Hb_ := hide hb_w5
    clear bxx hb_w5
    have Hbxa := hide bxa
    clear bxa
    have Hinx := hide inx
    clear inx
    have HB_ := hide B_w4
    clear B_w4
    go_wp2_with fail
    clear bxxc0 bxxc1 bxxc2
    have bxa := Hbxa.out
    clear Hbxa
    have inx := Hinx.out
    clear Hinx
    have B_w4 := HB_.out
    clear HB_
    have bxx := Hbxx.out
    have hb_w5 := Hb_.out
    clear Hbxx Hb_
    generalize w4.alloc (.cells #[.int .i64 m.key, .slice ox m.l.length cx, .slice oRx m.ring.length cRx] 26) = w5 at *
    replace bxa := (hb_w5.block _ (by omega)).trans bxa
    replace inx := inx.step (Stp.of (lo := 0) (hi := 0) hb_w5) (.inl (Nat.zero_le _))
    have B_w5 : Below w.heap.size w w5 := B_w4.trans (hb_w5.mono B_w4.size)
    have hs_w5 : w4.heap.size ≤ w5.heap.size := hb_w5.size
    clear hb_w5 B_w4
    refine (HI.out _ w5 (inx.rd.le (by omega))).mono ?_
    rintro e w6 ⟨rfl, hb_w6⟩
    replace bxa := (hb_w6.block _ (by omega)).trans bxa
    replace inx := inx.step (Stp.of (lo := 0) (hi := 0) hb_w6) (.inl (Nat.zero_le _))
    replace bxx := (hb_w6.block _ (by omega)).trans bxx
    have B_w6 : Below w.heap.size w w6 := B_w5.trans (hb_w6.mono B_w5.size)
    have hs_w6 : w5.heap.size ≤ w6.heap.size := hb_w6.size
    clear hb_w6 B_w5
    have bxac0 : w6.cell? ⟨w.heap.size, 0, none⟩ = some (.int .i64 m.key) := block_cellO bxa 0 _ rfl
    have bxac1 : w6.cell? ⟨w.heap.size, 1, none⟩ = some (.slice oa m.l.length ca) := block_cellO bxa 1 _ rfl
    have bxac2 : w6.cell? ⟨w.heap.size, 2, none⟩ = some (.slice oRa m.ring.length cRa) := block_cellO bxa 2 _ rfl
    have bxxc0 : w6.cell? ⟨w4.heap.size, 0, none⟩ = some (.int .i64 m.key) := block_cellO bxx 0 _ rfl
    have bxxc1 : w6.cell? ⟨w4.heap.size, 1, none⟩ = some (.slice ox m.l.length cx) := block_cellO bxx 1 _ rfl
    have bxxc2 : w6.cell? ⟨w4.heap.size, 2, none⟩ = some (.slice oRx m.ring.length cRx) := block_cellO bxx 2 _ rfl
    have Hbxa := hide bxa
    clear bxa
    have Hinx := hide inx
    clear inx
    have Hbxx := hide bxx
    clear bxx
    have HB_ := hide B_w6
    clear B_w6
    go_wp2
    have hka : w.heap.size < w6.heap.size := by omega
    have hkx : w4.heap.size < w6.heap.size := by omega
    go_region_held3 (fun w' => w'.cell? ⟨w.heap.size, 0, none⟩ = some (.int .i64 m.key) ∧ w'.cell? ⟨w.heap.size, 1, none⟩ = some (.slice oa m.l.length ca) ∧ w'.cell? ⟨w.heap.size, 2, none⟩ = some (.slice oRa m.ring.length cRa) ∧ w'.cell? ⟨w4.heap.size, 0, none⟩ = some (.int .i64 m.key) ∧ w'.cell? ⟨w4.heap.size, 1, none⟩ = some (.slice ox m.l.length cx) ∧ w'.cell? ⟨w4.heap.size, 2, none⟩ = some (.slice oRx m.ring.length cRx)) (first | exact ⟨q0, q1, q2, q3, q4, q5⟩ | exact ⟨p0, p1, p2, p3, p4, p5⟩ | exact ⟨bxac0, bxac1, bxac2, bxxc0, bxxc1, bxxc2⟩) (first | (go_at_call 35; refine (toPool_sh _ m w6.drew ((hR.kept (Below.drew HB_.out) (Nat.le_refl _)).le HB_.out.size) hf).mono ?_; rintro e w7 ⟨va, rfl, ina, hba⟩; replace hba : Below w6.heap.size w6 w7 := (Below.drew (Below.refl _ _)).trans hba; have p0 := (hba.cell (p := ⟨w.heap.size, 0, none⟩) hka).trans bxac0; have p1 := (hba.cell (p := ⟨w.heap.size, 1, none⟩) hka).trans bxac1; have p2 := (hba.cell (p := ⟨w.heap.size, 2, none⟩) hka).trans bxac2; have p3 := (hba.cell (p := ⟨w4.heap.size, 0, none⟩) hkx).trans bxxc0; have p4 := (hba.cell (p := ⟨w4.heap.size, 1, none⟩) hkx).trans bxxc1; have p5 := (hba.cell (p := ⟨w4.heap.size, 2, none⟩) hkx).trans bxxc2) | (go_at_call 36; refine (eqPool_sh _ _ m w7 ((Hinx.out.rd.kept hba (by omega)).le (by have := hba.size; omega)) (ina.rd.le (Nat.le_refl _)) hf).mono ?_; rintro e w8 ⟨rfl, hbb⟩; replace hbb : Below w6.heap.size w6 w8 := hba.trans (hbb.mono hba.size); have q0 := (hbb.cell (p := ⟨w.heap.size, 0, none⟩) hka).trans bxac0; have q1 := (hbb.cell (p := ⟨w.heap.size, 1, none⟩) hka).trans bxac1; have q2 := (hbb.cell (p := ⟨w.heap.size, 2, none⟩) hka).trans bxac2; have q3 := (hbb.cell (p := ⟨w4.heap.size, 0, none⟩) hkx).trans bxxc0; have q4 := (hbb.cell (p := ⟨w4.heap.size, 1, none⟩) hkx).trans bxxc1; have q5 := (hbb.cell (p := ⟨w4.heap.size, 2, none⟩) hkx).trans bxxc2))
    clear p0 q0 p1 q1 p2 q2 p3 q3 p4 q4 p5 q5 hka hkx ina hba
    clear bxac0 bxac1 bxac2
    clear bxxc0 bxxc1 bxxc2
    have bxa := Hbxa.out
    clear Hbxa
    have inx := Hinx.out
    clear Hinx
    have bxx := Hbxx.out
    clear Hbxx
    have B_w6 := HB_.out
    clear HB_
    replace bxa := (hbb.block _ (by omega)).trans bxa
    replace inx := inx.step (Stp.of (lo := 0) (hi := 0) hbb) (.inl (Nat.zero_le _))
    replace bxx := (hbb.block _ (by omega)).trans bxx
    have B_w8 : Below w.heap.size w w8 := B_w6.trans (hbb.mono B_w6.size)
    have hs_w8 : w6.heap.size ≤ w8.heap.size := hbb.size
    clear hbb B_w6
    have Hbxa := hide bxa
    clear bxa
    have Hinx := hide inx
    clear inx
    have Hbxx := hide bxx
    clear bxx
    have HB_ := hide B_w8
    clear B_w8
    go_wp2
    go_ret
    exact ⟨rfl, HB_.out⟩

theorem walkFnExactPoolOk (m : Pm) (o : Option Addr) (cap : Nat) (oR : Option Addr) (cR : Nat) (w : World) (hl : lenPm m) (hR : RdPm w.heap.size w (plv m.key (.slice o m.l.length cap) (.slice oR m.ring.length cR)) m) :
    Calls Try.prog 7 #[plv m.key (.slice o m.l.length cap) (.slice oR m.ring.length cR)] w fun e w' => e = .returned (.bool true) ∧ Below w.heap.size w w' := lawFnExactPoolOk _ m w hR hl

set_option maxRecDepth 100000 in
theorem fnExactPoolOk_lifted (os : Os) (started : os.Started) (H : Type) (enc : TypeId × Value → H) :
    ReturnsInHanded {} Try.checked os 7 .any (Rows.fnExactPoolOkSpec.pre6 enc Try.prog Try.f7 Rows.fnExactPoolOkRow.domain false) (Rows.fnExactPoolOkSpec.post enc Try.prog Try.f7 false true false false) := by
  refine returnsInHanded_of_change (C := Try.checked) own started (by kernel_rfl) Try.func7
    (ChangeSpec.witness6 (enc := enc) (C := Try.checked) false ⟨#[], #[.agg #[.int .i64 0, .slice none 0 0, .slice none 0 0]], []⟩ 8 (by kernel_rfl) (by kernel_rfl) (by kernel_rfl) (by kernel_rfl)) ?_
  intro W base args ds gs before hval0 hW hcnd _
  have hval : ∀ (j : Nat) t v, Try.f7.params[j]? = some t → args[j]? = some v → Value.okWide Try.prog W .any base t v := hval0
  have hW' := hW
  obtain ⟨p, q, hA0, hV, rfl, hfz, hnd⟩ := hW
  have hA : DataW.TrodAll enc Try.prog W 0 (fun _ => true) true Try.f7.params.toList args.toList ds p := hA0
  rw [Try.params7] at hA hval
  obtain ⟨v0, vs0, d0, ds0, p0, q0, hargs, rfl, rfl, h0, r0⟩ := trodAll_cons hA
  obtain ⟨rfl, rfl, rfl⟩ := trodAll_nil r0
  obtain rfl : args = #[v0] := by cases args; simp_all
  obtain ⟨rfl, rfl⟩ := trodVars_none hV
  have k0 := h0
  have lt0 : ∀ x ∈ p0, x.block < W.heap.size := by obtain ⟨m, hm⟩ := k0; exact DataW.trod_lt m _ _ _ hm
  obtain ⟨m0, o0, cap0, oR0, cR0, rfl, hm0, hR0⟩ := open_pool (hval 0 66 v0 rfl rfl) h0
  clear hA0 hval0
  refine (walkFnExactPoolOk m0 o0 cap0 oR0 cR0 W hm0 hR0 ).mono fun e W' ⟨he, bel⟩ => ?_
  subst he
  exact ⟨_, rfl, _, _, _, [], _, [], hW', trodAll_mk1 (shut_bool Try.underlying4 _), (trodAll_cons_mk (Below.trod laidOut (by kernel_rfl) (of_decide_eq_true (by kernel_rfl)) k0 bel lt0) trodAll_mk0), rfl, bel.frame _, fun h => by cases h⟩

theorem fnExactPoolOk_over : Rows.fnExactPoolOkRow.holds Try.pinned (OpenSpec.ofChange Rows.fnExactPoolOkSpec) :=
  OpenClaim.holds_of_wide 7 Try.f7 rfl rfl rfl rfl rfl rfl rfl ⟨rfl, rfl, rfl, rfl, rfl⟩ rfl rfl rfl rfl rfl (by kernel_rfl) Try.func7 (by kernel_rfl)
    (of_decide_eq_true (by kernel_rfl)) (by unfold Func.isWrapper; first | (rw [if_pos (by decide +kernel)]; kernel_rfl) | (rw [if_neg (by decide +kernel)]; exact ⟨rfl, rfl⟩))
    (fun os started H enc _ => fnExactPoolOk_lifted os started H enc)

theorem fnExactPoolOk_holds : Rows.FnExactPoolOkSaid := fnExactPoolOk_over

end Go.Proofs.Ytldjaapbkihibaa
