/- For all bytes the law FnFlows answers true, and the bytes read as they did: two drawn flows are in order, one way, and a drawn packet opens just if it begins and answers nothing. No conditions. -/
import Derived.Test.YtbjdijbmhjmiaaaSDraw7
import Derived.Test.YtbjdijbmhjmiaaaWires
import Derived.Test.YtbjdijbmhjmiaaaSRank
import Derived.Test.YtbjdijbmhjmiaaaSOpens
import Derived.Deep.RegionWith
namespace Go.Proofs.Ytbjdijbmhjmiaaa
open Go.ChangeShapes Go.WideShapes Go.ChangeAt Go.RowKit Go.Joins
set_option linter.unusedVariables false
set_option linter.unusedSimpArgs false

/-- The cells of a flow's box. -/
def box2 (k : Nat) (a b : Int) (w : World) : Prop := w.cell? ⟨k, 0, none⟩ = some (.int .i64 a) ∧ w.cell? ⟨k, 1, none⟩ = some (.int .i64 b)
theorem box2.kept {k : Nat} {a b : Int} {w w' : World} {B : Nat} (h : box2 k a b w) (hb : Below B w w') (hk : k < B) : box2 k a b w' :=
  ⟨(hb.cell (p := ⟨k, 0, none⟩) hk).trans h.1, (hb.cell (p := ⟨k, 1, none⟩) hk).trans h.2⟩
theorem neg_cmp (a b c d : Int) : flowCmpI c d a b = - flowCmpI a b c d := by
  unfold flowCmpI
  rw [Bool.and_comm]
  split
  · unfold cmpI
    by_cases h : a = c
    · subst h; simp only [if_true]
      repeat' split
      all_goals omega
    · rw [if_neg h, if_neg (fun e => h e.symm)]
      repeat' split
      all_goals omega
  · rfl

set_option maxHeartbeats 2000000 in
theorem lawFlows (o : Option Addr) (cap : Nat) (l : List Int) (w : World) (hm : l.length ≤ maxLen) (hR : Rd w o l) (hB8 : isB l) :
    Calls Try.prog 4 #[.slice o l.length cap] w fun e w' => e = .returned (.bool true) ∧ Below w.heap.size w w' := by
  go_enter Try.func4, Try.ntmps4
  go_wp2_with fail
  refine (drawFlowCmp_any o cap l w hR hB8 hm).mono ?_
  rintro e wa ⟨a, b, c, d, rfl, hBa⟩
  go_wp2_with fail
  have xa : box2 wa.heap.size a b ((wa.alloc (.cells #[.int .i64 a, .int .i64 b] 28)).alloc (.cells #[.int .i64 c, .int .i64 d] 28)) := by constructor <;> simp
  have xc : box2 (wa.heap.size + 1) c d ((wa.alloc (.cells #[.int .i64 a, .int .i64 b] 28)).alloc (.cells #[.int .i64 c, .int .i64 d] 28)) := by constructor <;> simp
  have hb0 : Below wa.heap.size wa ((wa.alloc (.cells #[.int .i64 a, .int .i64 b] 28)).alloc (.cells #[.int .i64 c, .int .i64 d] 28)) := ((Below.refl _ _).alloc (Nat.le_refl _) _).alloc (by simp) _
  have hs0 : wa.heap.size + 1 < ((wa.alloc (.cells #[.int .i64 a, .int .i64 b] 28)).alloc (.cells #[.int .i64 c, .int .i64 d] 28)).heap.size := by simp
  generalize ((wa.alloc (.cells #[.int .i64 a, .int .i64 b] 28)).alloc (.cells #[.int .i64 c, .int .i64 d] 28)) = w0 at *
  have hB0 : Below w.heap.size w w0 := hBa.trans (hb0.mono hBa.size)
  refine (drawOpens_any o cap l w0 (hR.kept hB0) hB8 hm).mono ?_
  rintro e wb ⟨pa, pb, pf, ps, v, L, rfl, hvo, hL, hLn, hbb⟩
  obtain ⟨ov, cv, rfl, _⟩ := hvo.open
  replace xa := xa.kept hbb (by omega)
  replace xc := xc.kept hbb hs0
  have hBb : Below w.heap.size w wb := hB0.trans (hbb.mono hB0.size)
  have hsb : wa.heap.size + 1 < wb.heap.size := Nat.lt_of_lt_of_le hs0 hbb.size
  clear hb0 hbb hB0 hs0 hvo
  have xa2 := xa
  have xc2 := xc
  obtain ⟨y0, y1⟩ := xa2
  obtain ⟨z0, z1⟩ := xc2
  have hsb0 : wa.heap.size < wb.heap.size := Nat.lt_of_succ_lt hsb
  go_wp2_with fail
  have xp := boxed_new wb pa pb pf ps (.slice ov L.length cv) 32
  have hbe : Below wb.heap.size wb (wb.alloc (.cells #[.int .i64 pa, .int .i64 pb, .int .i64 pf, .int .i64 ps, .slice ov L.length cv] 32)) := (Below.refl _ _).alloc (Nat.le_refl _) _
  have hxe : wb.heap.size < (wb.alloc (.cells #[.int .i64 pa, .int .i64 pb, .int .i64 pf, .int .i64 ps, .slice ov L.length cv] 32)).heap.size := by simp
  generalize (wb.alloc (.cells #[.int .i64 pa, .int .i64 pb, .int .i64 pf, .int .i64 ps, .slice ov L.length cv] 32)) = we at *
  have hBe : Below w.heap.size w we := hBb.trans (hbe.mono hBb.size)
  replace xa := xa.kept hbe hsb0
  replace xc := xc.kept hbe hsb
  clear y0 y1 z0 z1 hBb hbe hBa
  refine (implFlowCmp_any a b c d we).mono ?_
  rintro e wf ⟨rfl, hbf⟩
  have hBf : Below w.heap.size w wf := hBe.trans (hbf.mono hBe.size)
  have hsf : wa.heap.size + 1 < wf.heap.size := by have := hbf.size; omega
  have hsf0 : wa.heap.size < wf.heap.size := by omega
  have hxf : wb.heap.size < wf.heap.size := Nat.lt_of_lt_of_le hxe hbf.size
  replace xa := xa.kept hbf (by omega)
  replace xc := xc.kept hbf (by omega)
  replace xp := xp.kept hbf hxe
  clear hBe hbf
  have hml : L.length ≤ maxLen := by unfold maxLen; omega
  have ho := fun w => implOpens_any pa pb pf ps ov L.length cv w hml
  have hp := fun w => specPacketOk_any pa pb pf ps ov L.length cv w hml
  by_cases hok : packetOkB pa pb pf ps L.length = true
  · have hoe : opensB pa pb pf ps L.length = (bits .and .i64 pf 3 == 1) := (opensB_yes hok).symm
    rw [hoe] at ho
    rw [hok] at hp
    have xp2 := xp
    obtain ⟨p0, p1, p2, p3, p4⟩ := xp2
    go_wp2
    go_region_held3 (fun w' => w'.cell? ⟨wb.heap.size, 0, none⟩ = some (.int .i64 pa) ∧ w'.cell? ⟨wb.heap.size, 1, none⟩ = some (.int .i64 pb) ∧ w'.cell? ⟨wb.heap.size, 2, none⟩ = some (.int .i64 pf) ∧ w'.cell? ⟨wb.heap.size, 3, none⟩ = some (.int .i64 ps) ∧ w'.cell? ⟨wb.heap.size, 4, none⟩ = some (.slice ov L.length cv)) (first | exact ⟨p0, p1, p2, p3, p4⟩) (first | (go_at_call 14; refine (ho _).mono ?_; rintro e wg ⟨rfl, hbg⟩; replace hbg : Below wf.heap.size wf wg := (Below.drew (Below.refl _ _)).trans hbg; have xp3 := xp.kept hbg hxf; obtain ⟨p0, p1, p2, p3, p4⟩ := xp3) | (go_at_call 15; refine (hp _).mono ?_; rintro e wh ⟨rfl, hbh⟩; replace hbh : Below wf.heap.size wf wh := hbg.trans (hbh.mono hbg.size); have xp3 := xp.kept hbh hxf; obtain ⟨p0, p1, p2, p3, p4⟩ := xp3))
    have hBh : Below w.heap.size w wh := hBf.trans (hbh.mono hBf.size)
    replace xa := xa.kept hbh hsf0
    replace xc := xc.kept hbh hsf
    have hsh : wa.heap.size + 1 < wh.heap.size := by have := hbh.size; omega
    have hsh0 : wa.heap.size < wh.heap.size := by omega
    clear xp p0 p1 p2 p3 p4 hbg hbh hxf hsf hsf0 ho hp hBf
    have k1 := fun w => specFlowOk_any a b w
    have k2 := fun w => specFlowOk_any c d w
    have hz := fun w => implFlowOk_any 0 0 w
    rw [show flowOkB 0 0 = true from rfl] at hz
    by_cases h1 : flowOkB a b = true
    · rw [h1] at k1
      by_cases h2 : flowOkB c d = true
      · rw [h2] at k2
        rcases Int.lt_trichotomy a c with q | q | q
        · have n1 : (a == c) = false := by simp; omega
          have n2 : (a = c) = False := eq_false (by omega)
          have hx : flowCmpI a b c d = -1 := by unfold flowCmpI; rw [h1, h2]; simp only [Bool.and_self, if_true]; rw [if_neg (by omega), cmpI_lt q]
          have hc2 := fun w => implFlowCmp_any c d a b w
          rw [neg_cmp, hx] at hc2
          rw [hx]
          obtain ⟨y0, y1⟩ := xa
          obtain ⟨z0, z1⟩ := xc
          go_wp2_with fail
          refine (k1 _).mono ?_
          rintro e wi ⟨rfl, hbi⟩
          have xa : box2 wa.heap.size a b wi := box2.kept ⟨y0, y1⟩ hbi hsh0
          have xc : box2 (wa.heap.size + 1) c d wi := box2.kept ⟨z0, z1⟩ hbi hsh
          have hBi : Below w.heap.size w wi := hBh.trans (hbi.mono hBh.size)
          have hsi : wa.heap.size + 1 < wi.heap.size := by have := hbi.size; omega
          have hsi0 : wa.heap.size < wi.heap.size := by omega
          clear y0 y1 z0 z1
          obtain ⟨y0, y1⟩ := xa
          obtain ⟨z0, z1⟩ := xc
          go_wp2_with fail
          refine (k2 _).mono ?_
          rintro e wj ⟨rfl, hbj⟩
          have xa : box2 wa.heap.size a b wj := box2.kept ⟨y0, y1⟩ hbj hsi0
          have xc : box2 (wa.heap.size + 1) c d wj := box2.kept ⟨z0, z1⟩ hbj hsi
          have hBj : Below w.heap.size w wj := hBi.trans (hbj.mono hBi.size)
          have hsj : wa.heap.size + 1 < wj.heap.size := by have := hbj.size; omega
          have hsj0 : wa.heap.size < wj.heap.size := by omega
          clear y0 y1 z0 z1
          obtain ⟨y0, y1⟩ := xa
          obtain ⟨z0, z1⟩ := xc
          go_wp2_with fail
          refine (hc2 _).mono ?_
          rintro e wk ⟨rfl, hbk⟩
          have xa : box2 wa.heap.size a b wk := box2.kept ⟨y0, y1⟩ hbk hsj0
          have xc : box2 (wa.heap.size + 1) c d wk := box2.kept ⟨z0, z1⟩ hbk hsj
          have hBk : Below w.heap.size w wk := hBj.trans (hbk.mono hBj.size)
          have hsk : wa.heap.size + 1 < wk.heap.size := by have := hbk.size; omega
          have hsk0 : wa.heap.size < wk.heap.size := by omega
          clear y0 y1 z0 z1
          obtain ⟨y0, y1⟩ := xa
          obtain ⟨z0, z1⟩ := xc
          go_wp2_with fail
          refine (wires_any _).mono ?_
          rintro e wm ⟨rfl, hbm⟩
          have xa : box2 wa.heap.size a b wm := box2.kept ⟨y0, y1⟩ hbm hsk0
          have xc : box2 (wa.heap.size + 1) c d wm := box2.kept ⟨z0, z1⟩ hbm hsk
          have hBm : Below w.heap.size w wm := hBk.trans (hbm.mono hBk.size)
          have hsm : wa.heap.size + 1 < wm.heap.size := by have := hbm.size; omega
          have hsm0 : wa.heap.size < wm.heap.size := by omega
          clear y0 y1 z0 z1
          obtain ⟨y0, y1⟩ := xa
          obtain ⟨z0, z1⟩ := xc
          go_wp2
          go_ret
          exact ⟨rfl, hBm⟩
        · subst q
          rcases Int.lt_trichotomy b d with r | r | r
          · have n1 : (b == d) = false := by simp; omega
            have n2 : (b = d) = False := eq_false (by omega)
            have hx : flowCmpI a b a d = -1 := by unfold flowCmpI; rw [h1, h2]; simp only [Bool.and_self, if_true]; rw [cmpI_lt r]
            have hc2 := fun w => implFlowCmp_any a d a b w
            rw [neg_cmp, hx] at hc2
            rw [hx]
            obtain ⟨y0, y1⟩ := xa
            obtain ⟨z0, z1⟩ := xc
            go_wp2_with fail
            refine (k1 _).mono ?_
            rintro e wi ⟨rfl, hbi⟩
            have xa : box2 wa.heap.size a b wi := box2.kept ⟨y0, y1⟩ hbi hsh0
            have xc : box2 (wa.heap.size + 1) a d wi := box2.kept ⟨z0, z1⟩ hbi hsh
            have hBi : Below w.heap.size w wi := hBh.trans (hbi.mono hBh.size)
            have hsi : wa.heap.size + 1 < wi.heap.size := by have := hbi.size; omega
            have hsi0 : wa.heap.size < wi.heap.size := by omega
            clear y0 y1 z0 z1
            obtain ⟨y0, y1⟩ := xa
            obtain ⟨z0, z1⟩ := xc
            go_wp2_with fail
            refine (k2 _).mono ?_
            rintro e wj ⟨rfl, hbj⟩
            have xa : box2 wa.heap.size a b wj := box2.kept ⟨y0, y1⟩ hbj hsi0
            have xc : box2 (wa.heap.size + 1) a d wj := box2.kept ⟨z0, z1⟩ hbj hsi
            have hBj : Below w.heap.size w wj := hBi.trans (hbj.mono hBi.size)
            have hsj : wa.heap.size + 1 < wj.heap.size := by have := hbj.size; omega
            have hsj0 : wa.heap.size < wj.heap.size := by omega
            clear y0 y1 z0 z1
            obtain ⟨y0, y1⟩ := xa
            obtain ⟨z0, z1⟩ := xc
            go_wp2_with fail
            refine (hc2 _).mono ?_
            rintro e wk ⟨rfl, hbk⟩
            have xa : box2 wa.heap.size a b wk := box2.kept ⟨y0, y1⟩ hbk hsj0
            have xc : box2 (wa.heap.size + 1) a d wk := box2.kept ⟨z0, z1⟩ hbk hsj
            have hBk : Below w.heap.size w wk := hBj.trans (hbk.mono hBj.size)
            have hsk : wa.heap.size + 1 < wk.heap.size := by have := hbk.size; omega
            have hsk0 : wa.heap.size < wk.heap.size := by omega
            clear y0 y1 z0 z1
            obtain ⟨y0, y1⟩ := xa
            obtain ⟨z0, z1⟩ := xc
            go_wp2_with fail
            refine (wires_any _).mono ?_
            rintro e wm ⟨rfl, hbm⟩
            have xa : box2 wa.heap.size a b wm := box2.kept ⟨y0, y1⟩ hbm hsk0
            have xc : box2 (wa.heap.size + 1) a d wm := box2.kept ⟨z0, z1⟩ hbm hsk
            have hBm : Below w.heap.size w wm := hBk.trans (hbm.mono hBk.size)
            have hsm : wa.heap.size + 1 < wm.heap.size := by have := hbm.size; omega
            have hsm0 : wa.heap.size < wm.heap.size := by omega
            clear y0 y1 z0 z1
            obtain ⟨y0, y1⟩ := xa
            obtain ⟨z0, z1⟩ := xc
            go_wp2
            go_ret
            exact ⟨rfl, hBm⟩
          · subst r
            have hx : flowCmpI a b a b = 0 := by simp [flowCmpI, h1, cmpI_eq]
            have hc2 := fun w => implFlowCmp_any a b a b w
            rw [neg_cmp, hx] at hc2
            rw [hx]
            obtain ⟨y0, y1⟩ := xa
            obtain ⟨z0, z1⟩ := xc
            go_wp2_with fail
            refine (k1 _).mono ?_
            rintro e wi ⟨rfl, hbi⟩
            have xa : box2 wa.heap.size a b wi := box2.kept ⟨y0, y1⟩ hbi hsh0
            have xc : box2 (wa.heap.size + 1) a b wi := box2.kept ⟨z0, z1⟩ hbi hsh
            have hBi : Below w.heap.size w wi := hBh.trans (hbi.mono hBh.size)
            have hsi : wa.heap.size + 1 < wi.heap.size := by have := hbi.size; omega
            have hsi0 : wa.heap.size < wi.heap.size := by omega
            clear y0 y1 z0 z1
            obtain ⟨y0, y1⟩ := xa
            obtain ⟨z0, z1⟩ := xc
            go_wp2_with fail
            refine (k2 _).mono ?_
            rintro e wj ⟨rfl, hbj⟩
            have xa : box2 wa.heap.size a b wj := box2.kept ⟨y0, y1⟩ hbj hsi0
            have xc : box2 (wa.heap.size + 1) a b wj := box2.kept ⟨z0, z1⟩ hbj hsi
            have hBj : Below w.heap.size w wj := hBi.trans (hbj.mono hBi.size)
            have hsj : wa.heap.size + 1 < wj.heap.size := by have := hbj.size; omega
            have hsj0 : wa.heap.size < wj.heap.size := by omega
            clear y0 y1 z0 z1
            obtain ⟨y0, y1⟩ := xa
            obtain ⟨z0, z1⟩ := xc
            go_wp2_with fail
            refine (hc2 _).mono ?_
            rintro e wk ⟨rfl, hbk⟩
            have xa : box2 wa.heap.size a b wk := box2.kept ⟨y0, y1⟩ hbk hsj0
            have xc : box2 (wa.heap.size + 1) a b wk := box2.kept ⟨z0, z1⟩ hbk hsj
            have hBk : Below w.heap.size w wk := hBj.trans (hbk.mono hBj.size)
            have hsk : wa.heap.size + 1 < wk.heap.size := by have := hbk.size; omega
            have hsk0 : wa.heap.size < wk.heap.size := by omega
            clear y0 y1 z0 z1
            obtain ⟨y0, y1⟩ := xa
            obtain ⟨z0, z1⟩ := xc
            go_wp2_with fail
            refine (wires_any _).mono ?_
            rintro e wm ⟨rfl, hbm⟩
            have xa : box2 wa.heap.size a b wm := box2.kept ⟨y0, y1⟩ hbm hsk0
            have xc : box2 (wa.heap.size + 1) a b wm := box2.kept ⟨z0, z1⟩ hbm hsk
            have hBm : Below w.heap.size w wm := hBk.trans (hbm.mono hBk.size)
            have hsm : wa.heap.size + 1 < wm.heap.size := by have := hbm.size; omega
            have hsm0 : wa.heap.size < wm.heap.size := by omega
            clear y0 y1 z0 z1
            obtain ⟨y0, y1⟩ := xa
            obtain ⟨z0, z1⟩ := xc
            go_wp2
            go_ret
            exact ⟨rfl, hBm⟩
          · have n1 : (b == d) = false := by simp; omega
            have n2 : (b = d) = False := eq_false (by omega)
            have hx : flowCmpI a b a d = 1 := by unfold flowCmpI; rw [h1, h2]; simp only [Bool.and_self, if_true]; rw [cmpI_gt r]
            have hc2 := fun w => implFlowCmp_any a d a b w
            rw [neg_cmp, hx] at hc2
            rw [hx]
            obtain ⟨y0, y1⟩ := xa
            obtain ⟨z0, z1⟩ := xc
            go_wp2_with fail
            refine (k1 _).mono ?_
            rintro e wi ⟨rfl, hbi⟩
            have xa : box2 wa.heap.size a b wi := box2.kept ⟨y0, y1⟩ hbi hsh0
            have xc : box2 (wa.heap.size + 1) a d wi := box2.kept ⟨z0, z1⟩ hbi hsh
            have hBi : Below w.heap.size w wi := hBh.trans (hbi.mono hBh.size)
            have hsi : wa.heap.size + 1 < wi.heap.size := by have := hbi.size; omega
            have hsi0 : wa.heap.size < wi.heap.size := by omega
            clear y0 y1 z0 z1
            obtain ⟨y0, y1⟩ := xa
            obtain ⟨z0, z1⟩ := xc
            go_wp2_with fail
            refine (k2 _).mono ?_
            rintro e wj ⟨rfl, hbj⟩
            have xa : box2 wa.heap.size a b wj := box2.kept ⟨y0, y1⟩ hbj hsi0
            have xc : box2 (wa.heap.size + 1) a d wj := box2.kept ⟨z0, z1⟩ hbj hsi
            have hBj : Below w.heap.size w wj := hBi.trans (hbj.mono hBi.size)
            have hsj : wa.heap.size + 1 < wj.heap.size := by have := hbj.size; omega
            have hsj0 : wa.heap.size < wj.heap.size := by omega
            clear y0 y1 z0 z1
            obtain ⟨y0, y1⟩ := xa
            obtain ⟨z0, z1⟩ := xc
            go_wp2_with fail
            refine (hc2 _).mono ?_
            rintro e wk ⟨rfl, hbk⟩
            have xa : box2 wa.heap.size a b wk := box2.kept ⟨y0, y1⟩ hbk hsj0
            have xc : box2 (wa.heap.size + 1) a d wk := box2.kept ⟨z0, z1⟩ hbk hsj
            have hBk : Below w.heap.size w wk := hBj.trans (hbk.mono hBj.size)
            have hsk : wa.heap.size + 1 < wk.heap.size := by have := hbk.size; omega
            have hsk0 : wa.heap.size < wk.heap.size := by omega
            clear y0 y1 z0 z1
            obtain ⟨y0, y1⟩ := xa
            obtain ⟨z0, z1⟩ := xc
            go_wp2_with fail
            refine (wires_any _).mono ?_
            rintro e wm ⟨rfl, hbm⟩
            have xa : box2 wa.heap.size a b wm := box2.kept ⟨y0, y1⟩ hbm hsk0
            have xc : box2 (wa.heap.size + 1) a d wm := box2.kept ⟨z0, z1⟩ hbm hsk
            have hBm : Below w.heap.size w wm := hBk.trans (hbm.mono hBk.size)
            have hsm : wa.heap.size + 1 < wm.heap.size := by have := hbm.size; omega
            have hsm0 : wa.heap.size < wm.heap.size := by omega
            clear y0 y1 z0 z1
            obtain ⟨y0, y1⟩ := xa
            obtain ⟨z0, z1⟩ := xc
            go_wp2
            go_ret
            exact ⟨rfl, hBm⟩
        · have n1 : (a == c) = false := by simp; omega
          have n2 : (a = c) = False := eq_false (by omega)
          have hx : flowCmpI a b c d = 1 := by unfold flowCmpI; rw [h1, h2]; simp only [Bool.and_self, if_true]; rw [if_neg (by omega), cmpI_gt q]
          have hc2 := fun w => implFlowCmp_any c d a b w
          rw [neg_cmp, hx] at hc2
          rw [hx]
          obtain ⟨y0, y1⟩ := xa
          obtain ⟨z0, z1⟩ := xc
          go_wp2_with fail
          refine (k1 _).mono ?_
          rintro e wi ⟨rfl, hbi⟩
          have xa : box2 wa.heap.size a b wi := box2.kept ⟨y0, y1⟩ hbi hsh0
          have xc : box2 (wa.heap.size + 1) c d wi := box2.kept ⟨z0, z1⟩ hbi hsh
          have hBi : Below w.heap.size w wi := hBh.trans (hbi.mono hBh.size)
          have hsi : wa.heap.size + 1 < wi.heap.size := by have := hbi.size; omega
          have hsi0 : wa.heap.size < wi.heap.size := by omega
          clear y0 y1 z0 z1
          obtain ⟨y0, y1⟩ := xa
          obtain ⟨z0, z1⟩ := xc
          go_wp2_with fail
          refine (k2 _).mono ?_
          rintro e wj ⟨rfl, hbj⟩
          have xa : box2 wa.heap.size a b wj := box2.kept ⟨y0, y1⟩ hbj hsi0
          have xc : box2 (wa.heap.size + 1) c d wj := box2.kept ⟨z0, z1⟩ hbj hsi
          have hBj : Below w.heap.size w wj := hBi.trans (hbj.mono hBi.size)
          have hsj : wa.heap.size + 1 < wj.heap.size := by have := hbj.size; omega
          have hsj0 : wa.heap.size < wj.heap.size := by omega
          clear y0 y1 z0 z1
          obtain ⟨y0, y1⟩ := xa
          obtain ⟨z0, z1⟩ := xc
          go_wp2_with fail
          refine (hc2 _).mono ?_
          rintro e wk ⟨rfl, hbk⟩
          have xa : box2 wa.heap.size a b wk := box2.kept ⟨y0, y1⟩ hbk hsj0
          have xc : box2 (wa.heap.size + 1) c d wk := box2.kept ⟨z0, z1⟩ hbk hsj
          have hBk : Below w.heap.size w wk := hBj.trans (hbk.mono hBj.size)
          have hsk : wa.heap.size + 1 < wk.heap.size := by have := hbk.size; omega
          have hsk0 : wa.heap.size < wk.heap.size := by omega
          clear y0 y1 z0 z1
          obtain ⟨y0, y1⟩ := xa
          obtain ⟨z0, z1⟩ := xc
          go_wp2_with fail
          refine (wires_any _).mono ?_
          rintro e wm ⟨rfl, hbm⟩
          have xa : box2 wa.heap.size a b wm := box2.kept ⟨y0, y1⟩ hbm hsk0
          have xc : box2 (wa.heap.size + 1) c d wm := box2.kept ⟨z0, z1⟩ hbm hsk
          have hBm : Below w.heap.size w wm := hBk.trans (hbm.mono hBk.size)
          have hsm : wa.heap.size + 1 < wm.heap.size := by have := hbm.size; omega
          have hsm0 : wa.heap.size < wm.heap.size := by omega
          clear y0 y1 z0 z1
          obtain ⟨y0, y1⟩ := xa
          obtain ⟨z0, z1⟩ := xc
          go_wp2
          go_ret
          exact ⟨rfl, hBm⟩
      · rw [Bool.eq_false_iff.2 h2] at k2
        have hx : flowCmpI a b c d = 0 := by simp [flowCmpI, h2]
        rw [hx]
        obtain ⟨y0, y1⟩ := xa
        obtain ⟨z0, z1⟩ := xc
        go_wp2_with fail
        refine (k1 _).mono ?_
        rintro e wi ⟨rfl, hbi⟩
        have xa : box2 wa.heap.size a b wi := box2.kept ⟨y0, y1⟩ hbi hsh0
        have xc : box2 (wa.heap.size + 1) c d wi := box2.kept ⟨z0, z1⟩ hbi hsh
        have hBi : Below w.heap.size w wi := hBh.trans (hbi.mono hBh.size)
        have hsi : wa.heap.size + 1 < wi.heap.size := by have := hbi.size; omega
        have hsi0 : wa.heap.size < wi.heap.size := by omega
        clear y0 y1 z0 z1
        obtain ⟨y0, y1⟩ := xa
        obtain ⟨z0, z1⟩ := xc
        go_wp2_with fail
        refine (k2 _).mono ?_
        rintro e wj ⟨rfl, hbj⟩
        have xa : box2 wa.heap.size a b wj := box2.kept ⟨y0, y1⟩ hbj hsi0
        have xc : box2 (wa.heap.size + 1) c d wj := box2.kept ⟨z0, z1⟩ hbj hsi
        have hBj : Below w.heap.size w wj := hBi.trans (hbj.mono hBi.size)
        have hsj : wa.heap.size + 1 < wj.heap.size := by have := hbj.size; omega
        have hsj0 : wa.heap.size < wj.heap.size := by omega
        clear y0 y1 z0 z1
        obtain ⟨y0, y1⟩ := xa
        obtain ⟨z0, z1⟩ := xc
        go_wp2_with fail
        refine (wires_any _).mono ?_
        rintro e wm ⟨rfl, hbm⟩
        have xa : box2 wa.heap.size a b wm := box2.kept ⟨y0, y1⟩ hbm hsj0
        have xc : box2 (wa.heap.size + 1) c d wm := box2.kept ⟨z0, z1⟩ hbm hsj
        have hBm : Below w.heap.size w wm := hBj.trans (hbm.mono hBj.size)
        have hsm : wa.heap.size + 1 < wm.heap.size := by have := hbm.size; omega
        have hsm0 : wa.heap.size < wm.heap.size := by omega
        clear y0 y1 z0 z1
        obtain ⟨y0, y1⟩ := xa
        obtain ⟨z0, z1⟩ := xc
        go_wp2_with fail
        refine (hz _).mono ?_
        rintro e wn ⟨rfl, hbn⟩
        have xa : box2 wa.heap.size a b wn := box2.kept ⟨y0, y1⟩ hbn hsm0
        have xc : box2 (wa.heap.size + 1) c d wn := box2.kept ⟨z0, z1⟩ hbn hsm
        have hBn : Below w.heap.size w wn := hBm.trans (hbn.mono hBm.size)
        have hsn : wa.heap.size + 1 < wn.heap.size := by have := hbn.size; omega
        have hsn0 : wa.heap.size < wn.heap.size := by omega
        clear y0 y1 z0 z1
        go_wp2
        go_ret
        exact ⟨rfl, hBn⟩
    · rw [Bool.eq_false_iff.2 h1] at k1
      have hx : flowCmpI a b c d = 0 := by simp [flowCmpI, h1]
      rw [hx]
      obtain ⟨y0, y1⟩ := xa
      obtain ⟨z0, z1⟩ := xc
      go_wp2_with fail
      refine (k1 _).mono ?_
      rintro e wi ⟨rfl, hbi⟩
      have xa : box2 wa.heap.size a b wi := box2.kept ⟨y0, y1⟩ hbi hsh0
      have xc : box2 (wa.heap.size + 1) c d wi := box2.kept ⟨z0, z1⟩ hbi hsh
      have hBi : Below w.heap.size w wi := hBh.trans (hbi.mono hBh.size)
      have hsi : wa.heap.size + 1 < wi.heap.size := by have := hbi.size; omega
      have hsi0 : wa.heap.size < wi.heap.size := by omega
      clear y0 y1 z0 z1
      obtain ⟨y0, y1⟩ := xa
      obtain ⟨z0, z1⟩ := xc
      go_wp2_with fail
      refine (wires_any _).mono ?_
      rintro e wm ⟨rfl, hbm⟩
      have xa : box2 wa.heap.size a b wm := box2.kept ⟨y0, y1⟩ hbm hsi0
      have xc : box2 (wa.heap.size + 1) c d wm := box2.kept ⟨z0, z1⟩ hbm hsi
      have hBm : Below w.heap.size w wm := hBi.trans (hbm.mono hBi.size)
      have hsm : wa.heap.size + 1 < wm.heap.size := by have := hbm.size; omega
      have hsm0 : wa.heap.size < wm.heap.size := by omega
      clear y0 y1 z0 z1
      obtain ⟨y0, y1⟩ := xa
      obtain ⟨z0, z1⟩ := xc
      go_wp2_with fail
      refine (hz _).mono ?_
      rintro e wn ⟨rfl, hbn⟩
      have xa : box2 wa.heap.size a b wn := box2.kept ⟨y0, y1⟩ hbn hsm0
      have xc : box2 (wa.heap.size + 1) c d wn := box2.kept ⟨z0, z1⟩ hbn hsm
      have hBn : Below w.heap.size w wn := hBm.trans (hbn.mono hBm.size)
      have hsn : wa.heap.size + 1 < wn.heap.size := by have := hbn.size; omega
      have hsn0 : wa.heap.size < wn.heap.size := by omega
      clear y0 y1 z0 z1
      go_wp2
      go_ret
      exact ⟨rfl, hBn⟩
  · have hoe : opensB pa pb pf ps L.length = false := (opensB_no hok).symm
    rw [hoe] at ho
    rw [Bool.eq_false_iff.2 hok] at hp
    have xp2 := xp
    obtain ⟨p0, p1, p2, p3, p4⟩ := xp2
    go_wp2
    first | (go_region_with (first | (go_at_call 14; refine (ho _).mono ?_; rintro e wg ⟨rfl, hbg⟩; replace hbg : Below wf.heap.size wf wg := (Below.drew (Below.refl _ _)).trans hbg; have xp3 := xp.kept hbg hxf; obtain ⟨p0, p1, p2, p3, p4⟩ := xp3) | (go_at_call 15; refine (hp _).mono ?_; rintro e wh ⟨rfl, hbh⟩; replace hbh : Below wf.heap.size wf wh := hbg.trans (hbh.mono hbg.size); have xp3 := xp.kept hbh hxf; obtain ⟨p0, p1, p2, p3, p4⟩ := xp3))) | fail
    all_goals
      have hBh : Below w.heap.size w wh := hBf.trans (hbh.mono hBf.size)
      replace xa := xa.kept hbh hsf0
      replace xc := xc.kept hbh hsf
      have hsh : wa.heap.size + 1 < wh.heap.size := by have := hbh.size; omega
      have hsh0 : wa.heap.size < wh.heap.size := by omega
      clear xp p0 p1 p2 p3 p4 hbg hbh hxf hsf hsf0 ho hp hBf
      have k1 := fun w => specFlowOk_any a b w
      have k2 := fun w => specFlowOk_any c d w
      have hz := fun w => implFlowOk_any 0 0 w
      rw [show flowOkB 0 0 = true from rfl] at hz
      by_cases h1 : flowOkB a b = true
      · rw [h1] at k1
        by_cases h2 : flowOkB c d = true
        · rw [h2] at k2
          rcases Int.lt_trichotomy a c with q | q | q
          · have n1 : (a == c) = false := by simp; omega
            have n2 : (a = c) = False := eq_false (by omega)
            have hx : flowCmpI a b c d = -1 := by unfold flowCmpI; rw [h1, h2]; simp only [Bool.and_self, if_true]; rw [if_neg (by omega), cmpI_lt q]
            have hc2 := fun w => implFlowCmp_any c d a b w
            rw [neg_cmp, hx] at hc2
            rw [hx]
            obtain ⟨y0, y1⟩ := xa
            obtain ⟨z0, z1⟩ := xc
            go_wp2_with fail
            refine (k1 _).mono ?_
            rintro e wi ⟨rfl, hbi⟩
            have xa : box2 wa.heap.size a b wi := box2.kept ⟨y0, y1⟩ hbi hsh0
            have xc : box2 (wa.heap.size + 1) c d wi := box2.kept ⟨z0, z1⟩ hbi hsh
            have hBi : Below w.heap.size w wi := hBh.trans (hbi.mono hBh.size)
            have hsi : wa.heap.size + 1 < wi.heap.size := by have := hbi.size; omega
            have hsi0 : wa.heap.size < wi.heap.size := by omega
            clear y0 y1 z0 z1
            obtain ⟨y0, y1⟩ := xa
            obtain ⟨z0, z1⟩ := xc
            go_wp2_with fail
            refine (k2 _).mono ?_
            rintro e wj ⟨rfl, hbj⟩
            have xa : box2 wa.heap.size a b wj := box2.kept ⟨y0, y1⟩ hbj hsi0
            have xc : box2 (wa.heap.size + 1) c d wj := box2.kept ⟨z0, z1⟩ hbj hsi
            have hBj : Below w.heap.size w wj := hBi.trans (hbj.mono hBi.size)
            have hsj : wa.heap.size + 1 < wj.heap.size := by have := hbj.size; omega
            have hsj0 : wa.heap.size < wj.heap.size := by omega
            clear y0 y1 z0 z1
            obtain ⟨y0, y1⟩ := xa
            obtain ⟨z0, z1⟩ := xc
            go_wp2_with fail
            refine (hc2 _).mono ?_
            rintro e wk ⟨rfl, hbk⟩
            have xa : box2 wa.heap.size a b wk := box2.kept ⟨y0, y1⟩ hbk hsj0
            have xc : box2 (wa.heap.size + 1) c d wk := box2.kept ⟨z0, z1⟩ hbk hsj
            have hBk : Below w.heap.size w wk := hBj.trans (hbk.mono hBj.size)
            have hsk : wa.heap.size + 1 < wk.heap.size := by have := hbk.size; omega
            have hsk0 : wa.heap.size < wk.heap.size := by omega
            clear y0 y1 z0 z1
            obtain ⟨y0, y1⟩ := xa
            obtain ⟨z0, z1⟩ := xc
            go_wp2_with fail
            refine (wires_any _).mono ?_
            rintro e wm ⟨rfl, hbm⟩
            have xa : box2 wa.heap.size a b wm := box2.kept ⟨y0, y1⟩ hbm hsk0
            have xc : box2 (wa.heap.size + 1) c d wm := box2.kept ⟨z0, z1⟩ hbm hsk
            have hBm : Below w.heap.size w wm := hBk.trans (hbm.mono hBk.size)
            have hsm : wa.heap.size + 1 < wm.heap.size := by have := hbm.size; omega
            have hsm0 : wa.heap.size < wm.heap.size := by omega
            clear y0 y1 z0 z1
            obtain ⟨y0, y1⟩ := xa
            obtain ⟨z0, z1⟩ := xc
            go_wp2
            go_ret
            exact ⟨rfl, hBm⟩
          · subst q
            rcases Int.lt_trichotomy b d with r | r | r
            · have n1 : (b == d) = false := by simp; omega
              have n2 : (b = d) = False := eq_false (by omega)
              have hx : flowCmpI a b a d = -1 := by unfold flowCmpI; rw [h1, h2]; simp only [Bool.and_self, if_true]; rw [cmpI_lt r]
              have hc2 := fun w => implFlowCmp_any a d a b w
              rw [neg_cmp, hx] at hc2
              rw [hx]
              obtain ⟨y0, y1⟩ := xa
              obtain ⟨z0, z1⟩ := xc
              go_wp2_with fail
              refine (k1 _).mono ?_
              rintro e wi ⟨rfl, hbi⟩
              have xa : box2 wa.heap.size a b wi := box2.kept ⟨y0, y1⟩ hbi hsh0
              have xc : box2 (wa.heap.size + 1) a d wi := box2.kept ⟨z0, z1⟩ hbi hsh
              have hBi : Below w.heap.size w wi := hBh.trans (hbi.mono hBh.size)
              have hsi : wa.heap.size + 1 < wi.heap.size := by have := hbi.size; omega
              have hsi0 : wa.heap.size < wi.heap.size := by omega
              clear y0 y1 z0 z1
              obtain ⟨y0, y1⟩ := xa
              obtain ⟨z0, z1⟩ := xc
              go_wp2_with fail
              refine (k2 _).mono ?_
              rintro e wj ⟨rfl, hbj⟩
              have xa : box2 wa.heap.size a b wj := box2.kept ⟨y0, y1⟩ hbj hsi0
              have xc : box2 (wa.heap.size + 1) a d wj := box2.kept ⟨z0, z1⟩ hbj hsi
              have hBj : Below w.heap.size w wj := hBi.trans (hbj.mono hBi.size)
              have hsj : wa.heap.size + 1 < wj.heap.size := by have := hbj.size; omega
              have hsj0 : wa.heap.size < wj.heap.size := by omega
              clear y0 y1 z0 z1
              obtain ⟨y0, y1⟩ := xa
              obtain ⟨z0, z1⟩ := xc
              go_wp2_with fail
              refine (hc2 _).mono ?_
              rintro e wk ⟨rfl, hbk⟩
              have xa : box2 wa.heap.size a b wk := box2.kept ⟨y0, y1⟩ hbk hsj0
              have xc : box2 (wa.heap.size + 1) a d wk := box2.kept ⟨z0, z1⟩ hbk hsj
              have hBk : Below w.heap.size w wk := hBj.trans (hbk.mono hBj.size)
              have hsk : wa.heap.size + 1 < wk.heap.size := by have := hbk.size; omega
              have hsk0 : wa.heap.size < wk.heap.size := by omega
              clear y0 y1 z0 z1
              obtain ⟨y0, y1⟩ := xa
              obtain ⟨z0, z1⟩ := xc
              go_wp2_with fail
              refine (wires_any _).mono ?_
              rintro e wm ⟨rfl, hbm⟩
              have xa : box2 wa.heap.size a b wm := box2.kept ⟨y0, y1⟩ hbm hsk0
              have xc : box2 (wa.heap.size + 1) a d wm := box2.kept ⟨z0, z1⟩ hbm hsk
              have hBm : Below w.heap.size w wm := hBk.trans (hbm.mono hBk.size)
              have hsm : wa.heap.size + 1 < wm.heap.size := by have := hbm.size; omega
              have hsm0 : wa.heap.size < wm.heap.size := by omega
              clear y0 y1 z0 z1
              obtain ⟨y0, y1⟩ := xa
              obtain ⟨z0, z1⟩ := xc
              go_wp2
              go_ret
              exact ⟨rfl, hBm⟩
            · subst r
              have hx : flowCmpI a b a b = 0 := by simp [flowCmpI, h1, cmpI_eq]
              have hc2 := fun w => implFlowCmp_any a b a b w
              rw [neg_cmp, hx] at hc2
              rw [hx]
              obtain ⟨y0, y1⟩ := xa
              obtain ⟨z0, z1⟩ := xc
              go_wp2_with fail
              refine (k1 _).mono ?_
              rintro e wi ⟨rfl, hbi⟩
              have xa : box2 wa.heap.size a b wi := box2.kept ⟨y0, y1⟩ hbi hsh0
              have xc : box2 (wa.heap.size + 1) a b wi := box2.kept ⟨z0, z1⟩ hbi hsh
              have hBi : Below w.heap.size w wi := hBh.trans (hbi.mono hBh.size)
              have hsi : wa.heap.size + 1 < wi.heap.size := by have := hbi.size; omega
              have hsi0 : wa.heap.size < wi.heap.size := by omega
              clear y0 y1 z0 z1
              obtain ⟨y0, y1⟩ := xa
              obtain ⟨z0, z1⟩ := xc
              go_wp2_with fail
              refine (k2 _).mono ?_
              rintro e wj ⟨rfl, hbj⟩
              have xa : box2 wa.heap.size a b wj := box2.kept ⟨y0, y1⟩ hbj hsi0
              have xc : box2 (wa.heap.size + 1) a b wj := box2.kept ⟨z0, z1⟩ hbj hsi
              have hBj : Below w.heap.size w wj := hBi.trans (hbj.mono hBi.size)
              have hsj : wa.heap.size + 1 < wj.heap.size := by have := hbj.size; omega
              have hsj0 : wa.heap.size < wj.heap.size := by omega
              clear y0 y1 z0 z1
              obtain ⟨y0, y1⟩ := xa
              obtain ⟨z0, z1⟩ := xc
              go_wp2_with fail
              refine (hc2 _).mono ?_
              rintro e wk ⟨rfl, hbk⟩
              have xa : box2 wa.heap.size a b wk := box2.kept ⟨y0, y1⟩ hbk hsj0
              have xc : box2 (wa.heap.size + 1) a b wk := box2.kept ⟨z0, z1⟩ hbk hsj
              have hBk : Below w.heap.size w wk := hBj.trans (hbk.mono hBj.size)
              have hsk : wa.heap.size + 1 < wk.heap.size := by have := hbk.size; omega
              have hsk0 : wa.heap.size < wk.heap.size := by omega
              clear y0 y1 z0 z1
              obtain ⟨y0, y1⟩ := xa
              obtain ⟨z0, z1⟩ := xc
              go_wp2_with fail
              refine (wires_any _).mono ?_
              rintro e wm ⟨rfl, hbm⟩
              have xa : box2 wa.heap.size a b wm := box2.kept ⟨y0, y1⟩ hbm hsk0
              have xc : box2 (wa.heap.size + 1) a b wm := box2.kept ⟨z0, z1⟩ hbm hsk
              have hBm : Below w.heap.size w wm := hBk.trans (hbm.mono hBk.size)
              have hsm : wa.heap.size + 1 < wm.heap.size := by have := hbm.size; omega
              have hsm0 : wa.heap.size < wm.heap.size := by omega
              clear y0 y1 z0 z1
              obtain ⟨y0, y1⟩ := xa
              obtain ⟨z0, z1⟩ := xc
              go_wp2
              go_ret
              exact ⟨rfl, hBm⟩
            · have n1 : (b == d) = false := by simp; omega
              have n2 : (b = d) = False := eq_false (by omega)
              have hx : flowCmpI a b a d = 1 := by unfold flowCmpI; rw [h1, h2]; simp only [Bool.and_self, if_true]; rw [cmpI_gt r]
              have hc2 := fun w => implFlowCmp_any a d a b w
              rw [neg_cmp, hx] at hc2
              rw [hx]
              obtain ⟨y0, y1⟩ := xa
              obtain ⟨z0, z1⟩ := xc
              go_wp2_with fail
              refine (k1 _).mono ?_
              rintro e wi ⟨rfl, hbi⟩
              have xa : box2 wa.heap.size a b wi := box2.kept ⟨y0, y1⟩ hbi hsh0
              have xc : box2 (wa.heap.size + 1) a d wi := box2.kept ⟨z0, z1⟩ hbi hsh
              have hBi : Below w.heap.size w wi := hBh.trans (hbi.mono hBh.size)
              have hsi : wa.heap.size + 1 < wi.heap.size := by have := hbi.size; omega
              have hsi0 : wa.heap.size < wi.heap.size := by omega
              clear y0 y1 z0 z1
              obtain ⟨y0, y1⟩ := xa
              obtain ⟨z0, z1⟩ := xc
              go_wp2_with fail
              refine (k2 _).mono ?_
              rintro e wj ⟨rfl, hbj⟩
              have xa : box2 wa.heap.size a b wj := box2.kept ⟨y0, y1⟩ hbj hsi0
              have xc : box2 (wa.heap.size + 1) a d wj := box2.kept ⟨z0, z1⟩ hbj hsi
              have hBj : Below w.heap.size w wj := hBi.trans (hbj.mono hBi.size)
              have hsj : wa.heap.size + 1 < wj.heap.size := by have := hbj.size; omega
              have hsj0 : wa.heap.size < wj.heap.size := by omega
              clear y0 y1 z0 z1
              obtain ⟨y0, y1⟩ := xa
              obtain ⟨z0, z1⟩ := xc
              go_wp2_with fail
              refine (hc2 _).mono ?_
              rintro e wk ⟨rfl, hbk⟩
              have xa : box2 wa.heap.size a b wk := box2.kept ⟨y0, y1⟩ hbk hsj0
              have xc : box2 (wa.heap.size + 1) a d wk := box2.kept ⟨z0, z1⟩ hbk hsj
              have hBk : Below w.heap.size w wk := hBj.trans (hbk.mono hBj.size)
              have hsk : wa.heap.size + 1 < wk.heap.size := by have := hbk.size; omega
              have hsk0 : wa.heap.size < wk.heap.size := by omega
              clear y0 y1 z0 z1
              obtain ⟨y0, y1⟩ := xa
              obtain ⟨z0, z1⟩ := xc
              go_wp2_with fail
              refine (wires_any _).mono ?_
              rintro e wm ⟨rfl, hbm⟩
              have xa : box2 wa.heap.size a b wm := box2.kept ⟨y0, y1⟩ hbm hsk0
              have xc : box2 (wa.heap.size + 1) a d wm := box2.kept ⟨z0, z1⟩ hbm hsk
              have hBm : Below w.heap.size w wm := hBk.trans (hbm.mono hBk.size)
              have hsm : wa.heap.size + 1 < wm.heap.size := by have := hbm.size; omega
              have hsm0 : wa.heap.size < wm.heap.size := by omega
              clear y0 y1 z0 z1
              obtain ⟨y0, y1⟩ := xa
              obtain ⟨z0, z1⟩ := xc
              go_wp2
              go_ret
              exact ⟨rfl, hBm⟩
          · have n1 : (a == c) = false := by simp; omega
            have n2 : (a = c) = False := eq_false (by omega)
            have hx : flowCmpI a b c d = 1 := by unfold flowCmpI; rw [h1, h2]; simp only [Bool.and_self, if_true]; rw [if_neg (by omega), cmpI_gt q]
            have hc2 := fun w => implFlowCmp_any c d a b w
            rw [neg_cmp, hx] at hc2
            rw [hx]
            obtain ⟨y0, y1⟩ := xa
            obtain ⟨z0, z1⟩ := xc
            go_wp2_with fail
            refine (k1 _).mono ?_
            rintro e wi ⟨rfl, hbi⟩
            have xa : box2 wa.heap.size a b wi := box2.kept ⟨y0, y1⟩ hbi hsh0
            have xc : box2 (wa.heap.size + 1) c d wi := box2.kept ⟨z0, z1⟩ hbi hsh
            have hBi : Below w.heap.size w wi := hBh.trans (hbi.mono hBh.size)
            have hsi : wa.heap.size + 1 < wi.heap.size := by have := hbi.size; omega
            have hsi0 : wa.heap.size < wi.heap.size := by omega
            clear y0 y1 z0 z1
            obtain ⟨y0, y1⟩ := xa
            obtain ⟨z0, z1⟩ := xc
            go_wp2_with fail
            refine (k2 _).mono ?_
            rintro e wj ⟨rfl, hbj⟩
            have xa : box2 wa.heap.size a b wj := box2.kept ⟨y0, y1⟩ hbj hsi0
            have xc : box2 (wa.heap.size + 1) c d wj := box2.kept ⟨z0, z1⟩ hbj hsi
            have hBj : Below w.heap.size w wj := hBi.trans (hbj.mono hBi.size)
            have hsj : wa.heap.size + 1 < wj.heap.size := by have := hbj.size; omega
            have hsj0 : wa.heap.size < wj.heap.size := by omega
            clear y0 y1 z0 z1
            obtain ⟨y0, y1⟩ := xa
            obtain ⟨z0, z1⟩ := xc
            go_wp2_with fail
            refine (hc2 _).mono ?_
            rintro e wk ⟨rfl, hbk⟩
            have xa : box2 wa.heap.size a b wk := box2.kept ⟨y0, y1⟩ hbk hsj0
            have xc : box2 (wa.heap.size + 1) c d wk := box2.kept ⟨z0, z1⟩ hbk hsj
            have hBk : Below w.heap.size w wk := hBj.trans (hbk.mono hBj.size)
            have hsk : wa.heap.size + 1 < wk.heap.size := by have := hbk.size; omega
            have hsk0 : wa.heap.size < wk.heap.size := by omega
            clear y0 y1 z0 z1
            obtain ⟨y0, y1⟩ := xa
            obtain ⟨z0, z1⟩ := xc
            go_wp2_with fail
            refine (wires_any _).mono ?_
            rintro e wm ⟨rfl, hbm⟩
            have xa : box2 wa.heap.size a b wm := box2.kept ⟨y0, y1⟩ hbm hsk0
            have xc : box2 (wa.heap.size + 1) c d wm := box2.kept ⟨z0, z1⟩ hbm hsk
            have hBm : Below w.heap.size w wm := hBk.trans (hbm.mono hBk.size)
            have hsm : wa.heap.size + 1 < wm.heap.size := by have := hbm.size; omega
            have hsm0 : wa.heap.size < wm.heap.size := by omega
            clear y0 y1 z0 z1
            obtain ⟨y0, y1⟩ := xa
            obtain ⟨z0, z1⟩ := xc
            go_wp2
            go_ret
            exact ⟨rfl, hBm⟩
        · rw [Bool.eq_false_iff.2 h2] at k2
          have hx : flowCmpI a b c d = 0 := by simp [flowCmpI, h2]
          rw [hx]
          obtain ⟨y0, y1⟩ := xa
          obtain ⟨z0, z1⟩ := xc
          go_wp2_with fail
          refine (k1 _).mono ?_
          rintro e wi ⟨rfl, hbi⟩
          have xa : box2 wa.heap.size a b wi := box2.kept ⟨y0, y1⟩ hbi hsh0
          have xc : box2 (wa.heap.size + 1) c d wi := box2.kept ⟨z0, z1⟩ hbi hsh
          have hBi : Below w.heap.size w wi := hBh.trans (hbi.mono hBh.size)
          have hsi : wa.heap.size + 1 < wi.heap.size := by have := hbi.size; omega
          have hsi0 : wa.heap.size < wi.heap.size := by omega
          clear y0 y1 z0 z1
          obtain ⟨y0, y1⟩ := xa
          obtain ⟨z0, z1⟩ := xc
          go_wp2_with fail
          refine (k2 _).mono ?_
          rintro e wj ⟨rfl, hbj⟩
          have xa : box2 wa.heap.size a b wj := box2.kept ⟨y0, y1⟩ hbj hsi0
          have xc : box2 (wa.heap.size + 1) c d wj := box2.kept ⟨z0, z1⟩ hbj hsi
          have hBj : Below w.heap.size w wj := hBi.trans (hbj.mono hBi.size)
          have hsj : wa.heap.size + 1 < wj.heap.size := by have := hbj.size; omega
          have hsj0 : wa.heap.size < wj.heap.size := by omega
          clear y0 y1 z0 z1
          obtain ⟨y0, y1⟩ := xa
          obtain ⟨z0, z1⟩ := xc
          go_wp2_with fail
          refine (wires_any _).mono ?_
          rintro e wm ⟨rfl, hbm⟩
          have xa : box2 wa.heap.size a b wm := box2.kept ⟨y0, y1⟩ hbm hsj0
          have xc : box2 (wa.heap.size + 1) c d wm := box2.kept ⟨z0, z1⟩ hbm hsj
          have hBm : Below w.heap.size w wm := hBj.trans (hbm.mono hBj.size)
          have hsm : wa.heap.size + 1 < wm.heap.size := by have := hbm.size; omega
          have hsm0 : wa.heap.size < wm.heap.size := by omega
          clear y0 y1 z0 z1
          obtain ⟨y0, y1⟩ := xa
          obtain ⟨z0, z1⟩ := xc
          go_wp2_with fail
          refine (hz _).mono ?_
          rintro e wn ⟨rfl, hbn⟩
          have xa : box2 wa.heap.size a b wn := box2.kept ⟨y0, y1⟩ hbn hsm0
          have xc : box2 (wa.heap.size + 1) c d wn := box2.kept ⟨z0, z1⟩ hbn hsm
          have hBn : Below w.heap.size w wn := hBm.trans (hbn.mono hBm.size)
          have hsn : wa.heap.size + 1 < wn.heap.size := by have := hbn.size; omega
          have hsn0 : wa.heap.size < wn.heap.size := by omega
          clear y0 y1 z0 z1
          go_wp2
          go_ret
          exact ⟨rfl, hBn⟩
      · rw [Bool.eq_false_iff.2 h1] at k1
        have hx : flowCmpI a b c d = 0 := by simp [flowCmpI, h1]
        rw [hx]
        obtain ⟨y0, y1⟩ := xa
        obtain ⟨z0, z1⟩ := xc
        go_wp2_with fail
        refine (k1 _).mono ?_
        rintro e wi ⟨rfl, hbi⟩
        have xa : box2 wa.heap.size a b wi := box2.kept ⟨y0, y1⟩ hbi hsh0
        have xc : box2 (wa.heap.size + 1) c d wi := box2.kept ⟨z0, z1⟩ hbi hsh
        have hBi : Below w.heap.size w wi := hBh.trans (hbi.mono hBh.size)
        have hsi : wa.heap.size + 1 < wi.heap.size := by have := hbi.size; omega
        have hsi0 : wa.heap.size < wi.heap.size := by omega
        clear y0 y1 z0 z1
        obtain ⟨y0, y1⟩ := xa
        obtain ⟨z0, z1⟩ := xc
        go_wp2_with fail
        refine (wires_any _).mono ?_
        rintro e wm ⟨rfl, hbm⟩
        have xa : box2 wa.heap.size a b wm := box2.kept ⟨y0, y1⟩ hbm hsi0
        have xc : box2 (wa.heap.size + 1) c d wm := box2.kept ⟨z0, z1⟩ hbm hsi
        have hBm : Below w.heap.size w wm := hBi.trans (hbm.mono hBi.size)
        have hsm : wa.heap.size + 1 < wm.heap.size := by have := hbm.size; omega
        have hsm0 : wa.heap.size < wm.heap.size := by omega
        clear y0 y1 z0 z1
        obtain ⟨y0, y1⟩ := xa
        obtain ⟨z0, z1⟩ := xc
        go_wp2_with fail
        refine (hz _).mono ?_
        rintro e wn ⟨rfl, hbn⟩
        have xa : box2 wa.heap.size a b wn := box2.kept ⟨y0, y1⟩ hbn hsm0
        have xc : box2 (wa.heap.size + 1) c d wn := box2.kept ⟨z0, z1⟩ hbn hsm
        have hBn : Below w.heap.size w wn := hBm.trans (hbn.mono hBm.size)
        have hsn : wa.heap.size + 1 < wn.heap.size := by have := hbn.size; omega
        have hsn0 : wa.heap.size < wn.heap.size := by omega
        clear y0 y1 z0 z1
        go_wp2
        go_ret
        exact ⟨rfl, hBn⟩

set_option maxRecDepth 100000 in
theorem fnFlows_lifted (os : Os) (started : os.Started) (H : Type) (enc : TypeId × Value → H) :
    ReturnsInHanded {} Try.checked os 4 .any (Rows.fnFlowsSpec.pre6 enc Try.prog Try.f4 Rows.fnFlowsRow.domain false) (Rows.fnFlowsSpec.post enc Try.prog Try.f4 false true false false) := by
  refine returnsInHanded_of_change (C := Try.checked) own started (by kernel_rfl) Try.func4
    (ChangeSpec.witness6 (enc := enc) (C := Try.checked) false ⟨#[], #[.slice none 0 0], []⟩ 8 (by kernel_rfl) (by kernel_rfl) (by kernel_rfl) (by kernel_rfl)) ?_
  intro W base args ds gs before hval0 hW hcnd _
  have hval : ∀ (j : Nat) t v, Try.f4.params[j]? = some t → args[j]? = some v → Value.okWide Try.prog W .any base t v := hval0
  have hW' := hW
  obtain ⟨p, q, hA0, hV, rfl, hfz, hnd⟩ := hW
  have hA : DataW.TrodAll enc Try.prog W 0 (fun _ => true) true Try.f4.params.toList args.toList ds p := hA0
  rw [Try.params4] at hA hval
  obtain ⟨v0, vs0, d0, ds0, p0, q0, hargs, rfl, rfl, h0, r0⟩ := trodAll_cons hA
  obtain ⟨rfl, rfl, rfl⟩ := trodAll_nil r0
  obtain rfl : args = #[v0] := by cases args; simp_all
  obtain ⟨rfl, rfl⟩ := trodVars_none hV
  have k0 := h0
  have lt0 : ∀ x ∈ p0, x.block < W.heap.size := by obtain ⟨m, hm⟩ := k0; exact DataW.trod_lt m _ _ _ hm
  obtain ⟨o0, cap0, l0, rfl, hm0, hR0, hB80⟩ := open_bytes (hval 0 22 v0 rfl rfl) h0
  clear hA0 hval0
  refine (lawFlows o0 cap0 l0 W hm0 hR0 hB80 ).mono fun e W' ⟨he, bel⟩ => ?_
  subst he
  exact ⟨_, rfl, _, _, _, [], _, [], hW', trodAll_mk1 (shut_bool Try.underlying4 _), (trodAll_cons_mk (Below.trod laidOut (by kernel_rfl) (of_decide_eq_true (by kernel_rfl)) k0 bel lt0) trodAll_mk0), rfl, bel.frame _, fun h => by cases h⟩

theorem fnFlows_over : Rows.fnFlowsRow.holds Try.pinned (OpenSpec.ofChange Rows.fnFlowsSpec) :=
  OpenClaim.holds_of_wide 4 Try.f4 rfl rfl rfl rfl rfl rfl rfl ⟨rfl, rfl, rfl, rfl, rfl⟩ rfl rfl rfl rfl rfl (by kernel_rfl) Try.func4 (by kernel_rfl)
    (of_decide_eq_true (by kernel_rfl)) (by unfold Func.isWrapper; first | (rw [if_pos (by decide +kernel)]; kernel_rfl) | (rw [if_neg (by decide +kernel)]; exact ⟨rfl, rfl⟩))
    (fun os started H enc _ => fnFlows_lifted os started H enc)

theorem fnFlows_holds : Rows.FnFlowsSaid := fnFlows_over

end Go.Proofs.Ytbjdijbmhjmiaaa
