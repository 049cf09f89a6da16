/- Several texts in one: SHdS3, SAg5, SHdI, SHdI2. -/
import Derived.Test.YtmkgbmmibjgeaaaGreatGrSHdS2
import Derived.Test.YtmkgbmmibjgeaaaGreatGrDropMath
import Derived.Test.YtmkgbmmibjgeaaaGreatGrLSeg
import Derived.Test.YtmkgbmmibjgeaaaGreatGrSTabI3
import Derived.Test.YtmkgbmmibjgeaaaGreatGrSOpens
/- The model's way with what is carried to an agent. -/
namespace Go.Proofs.YtmkgbmmibjgeaaaGreat
open Go.ChangeShapes Go.WideShapes Go.ChangeAt Go.RowKit Go.Joins
set_option linter.unusedVariables false
set_option linter.unusedSimpArgs false

abbrev crrV (a b f s : Int) (v g : Value) (p t : Int) : Value := .agg #[.int .i64 a, .int .i64 b, .int .i64 f, .int .i64 s, v, g, .int .i64 p, .int .i64 t]
def lastB (k gl : Nat) : Bool := decide ((k : Int) = (gl : Int) - 1)
/-- What l6handle tells, and what it leaves of the two tables. -/
def hdV (m : Am) (now a p f sb sf : Int) (k gl : Nat) (st : Int) : Int :=
  if sb = m.id then (if (bits .and .i64 f 3 == 1) = true ∧ 10 < now - st then 4 else if (endL m.c a p).2 = true then 0 else if sf = 1 then huntV m a p (lastB k gl) else if lastB k gl = true then 3 else 2) else 6
def hdC (m : Am) (now a p f s sb sf : Int) (k gl : Nat) (st : Int) : List Sl :=
  if sb = m.id then (if (bits .and .i64 f 3 == 1) = true ∧ 10 < now - st then m.c else if (endL m.c a p).2 = true then takeC m.c now a p f s else if sf = 1 then huntC m now a p s (lastB k gl) else m.c) else m.c
def hdT (m : Am) (now a p f sb sf : Int) (k gl : Nat) (st : Int) : List Sl :=
  if sb = m.id then (if (bits .and .i64 f 3 == 1) = true ∧ 10 < now - st then m.t else if (endL m.c a p).2 = true then takeT m.t now a p f else if sf = 1 then huntT m now a p (lastB k gl) else m.t) else m.t
set_option maxHeartbeats 1000000 in
theorem l1opensH_any (a b f s : Int) (o : Option Addr) (n cp : Nat) (w : World) : Calls Tryz.prog 43 #[.agg #[.int .i64 a, .int .i64 b, .int .i64 f, .int .i64 s, .slice o n cp]] w fun e w' => e = .returned (.bool (bits .and .i64 f 3 == 1)) ∧ Below w.heap.size w w' := by
  have hB : Below w.heap.size w w := Below.refl _ _
  go_enter Tryz.func43, Tryz.ntmps43
  go_wp2
  all_goals go_ret
  all_goals exact ⟨rfl, by (repeat (first | with_reducible exact hB | with_reducible exact Below.refl _ _ | with_reducible refine Below.drew ?_ | with_reducible refine below_drewN ?_ _ | with_reducible refine Below.alloc ?_ ?_ _ | with_reducible refine Below.setCell ?_ ?_ _ | (focus (simp; done)) | (focus (simp; omega)) | omega))⟩

set_option maxRecDepth 20000 in
set_option maxHeartbeats 16000000 in
theorem l6handle_any (m : Am) (bc fc cc bt ft ct : Nat) (now a p f s : Int) (o : Option Addr) (n cp : Nat) (bg fg gl cg k : Nat) (sb sf st : Int) (w : World) (hn0 : 0 ≤ now) (hn1 : now ≤ 100000) (hfl : flowOkB a p = true) (hc0 : 0 < m.c.length) (hc16 : m.c.length ≤ 16) (ht0 : 0 < m.t.length) (ht16 : m.t.length ≤ 16) (zc : bc < w.heap.size) (zt : bt < w.heap.size) (hC : Row w bc fc m.c) (hT : Row w bt ft m.t) (hok : flowsOk m.c) (hk : k < gl) (hgl : gl ≤ 1048576) (zg : bg < w.heap.size)
    (hs0 : w.cell? ⟨bg, fg + k * 2, none⟩ = some (.int .i64 sb)) (hs1 : w.cell? ⟨bg, fg + k * 2 + 1, none⟩ = some (.int .i64 sf)) (hst0 : 0 ≤ st) (hst1 : st ≤ 100000) :
    Calls Tryz.prog 21 #[agt m.id m.lim m.dr (.slice (some ⟨bc, fc, none⟩) m.c.length cc) (.slice (some ⟨bt, ft, none⟩) m.t.length ct), .int .i64 now, crrV a p f s (.slice o n cp) (.slice (some ⟨bg, fg, none⟩) gl cg) (k : Int) st] w fun e w' => ∃ bc' fc' cc' bt' ft' ct', e = .returned (.tuple #[agt m.id m.lim m.dr (.slice (some ⟨bc', fc', none⟩) m.c.length cc') (.slice (some ⟨bt', ft', none⟩) m.t.length ct'), .int .i64 (hdV m now a p f sb sf k gl st)]) ∧ bc' < w'.heap.size ∧ bt' < w'.heap.size ∧ Row w' bc' fc' (hdC m now a p f s sb sf k gl st) ∧ Row w' bt' ft' (hdT m now a p f sb sf k gl st) ∧ Below w.heap.size w w' ∧ (bc' = bc ∨ w.heap.size ≤ bc') ∧ (bt' = bt ∨ w.heap.size ≤ bt') := by
  have HC := hide hC
  have HT := hide hT
  clear hC hT
  have hw1 : IntKind.i64.wrap (now - st) = now - st := by rw [IntKind.wrap_i64]; omega
  have hw2 : IntKind.i64.wrap ((gl : Int) - 1) = (gl : Int) - 1 := by rw [IntKind.wrap_i64]; omega
  have hki : (k : Int) < (gl : Int) := by omega
  have hk0 : (0 : Int) ≤ (k : Int) := by omega
  have HV := hide (show hdV m now a p f sb sf k gl st = if sb = m.id then (if (bits .and .i64 f 3 == 1) = true ∧ 10 < now - st then 4 else if (endL m.c a p).2 = true then 0 else if sf = 1 then huntV m a p (lastB k gl) else if lastB k gl = true then 3 else 2) else 6 from rfl)
  have HHC := hide (show hdC m now a p f s sb sf k gl st = if sb = m.id then (if (bits .and .i64 f 3 == 1) = true ∧ 10 < now - st then m.c else if (endL m.c a p).2 = true then takeC m.c now a p f s else if sf = 1 then huntC m now a p s (lastB k gl) else m.c) else m.c from rfl)
  have HHT := hide (show hdT m now a p f sb sf k gl st = if sb = m.id then (if (bits .and .i64 f 3 == 1) = true ∧ 10 < now - st then m.t else if (endL m.c a p).2 = true then takeT m.t now a p f else if sf = 1 then huntT m now a p (lastB k gl) else m.t) else m.t from rfl)
  obtain ⟨W0, hW0⟩ : ∃ W, (((w.alloc (.cells #[.int .i64 m.id, .int .i64 m.lim, .bool m.dr, .slice (some ⟨bc, fc, none⟩) m.c.length cc, .slice (some ⟨bt, ft, none⟩) m.t.length ct] 41)).alloc (.cells #[.int .i64 a, .int .i64 p, .int .i64 f, .int .i64 s, .slice o n cp, .slice (some ⟨bg, fg, none⟩) gl cg, .int .i64 (k : Int), .int .i64 st] 50)).alloc (.cells #[.int .i64 0, .int .i64 0, .bool false, .slice none 0 0, .slice none 0 0] 41)) = W := ⟨_, rfl⟩
  have hb_W0 : Below w.heap.size w W0 := by rw [← hW0]; exact ((((Below.refl _ _).alloc (Nat.le_refl _) _).alloc (by simp <;> omega) _).alloc (by simp <;> omega) _)
  have HB := hide hb_W0
  clear hb_W0
  have zz : w.heap.size < W0.heap.size := by rw [← hW0]; simp <;> omega
  have z0 : W0.cell? ⟨w.heap.size, 0, none⟩ = some (.int .i64 m.id) := by rw [← hW0]; simp [go_sem]
  have z1 : W0.cell? ⟨w.heap.size, 1, none⟩ = some (.int .i64 m.lim) := by rw [← hW0]; simp [go_sem]
  have z2 : W0.cell? ⟨w.heap.size, 2, none⟩ = some (.bool m.dr) := by rw [← hW0]; simp [go_sem]
  have z3 : W0.cell? ⟨w.heap.size, 3, none⟩ = some (.slice (some ⟨bc, fc, none⟩) m.c.length cc) := by rw [← hW0]; simp [go_sem]
  have z4 : W0.cell? ⟨w.heap.size, 4, none⟩ = some (.slice (some ⟨bt, ft, none⟩) m.t.length ct) := by rw [← hW0]; simp [go_sem]
  have fz0 : W0.frozen? ⟨w.heap.size, 0, none⟩ = false := by rw [← hW0]; simp [go_sem]
  have fz1 : W0.frozen? ⟨w.heap.size, 1, none⟩ = false := by rw [← hW0]; simp [go_sem]
  have fz2 : W0.frozen? ⟨w.heap.size, 2, none⟩ = false := by rw [← hW0]; simp [go_sem]
  have fz3 : W0.frozen? ⟨w.heap.size, 3, none⟩ = false := by rw [← hW0]; simp [go_sem]
  have fz4 : W0.frozen? ⟨w.heap.size, 4, none⟩ = false := by rw [← hW0]; simp [go_sem]
  have zu : w.heap.size + 1 < W0.heap.size := by rw [← hW0]; simp <;> omega
  have u0 : W0.cell? ⟨w.heap.size + 1, 0, none⟩ = some (.int .i64 a) := by rw [← hW0]; simp [go_sem]
  have u1 : W0.cell? ⟨w.heap.size + 1, 1, none⟩ = some (.int .i64 p) := by rw [← hW0]; simp [go_sem]
  have u2 : W0.cell? ⟨w.heap.size + 1, 2, none⟩ = some (.int .i64 f) := by rw [← hW0]; simp [go_sem]
  have u3 : W0.cell? ⟨w.heap.size + 1, 3, none⟩ = some (.int .i64 s) := by rw [← hW0]; simp [go_sem]
  have u4 : W0.cell? ⟨w.heap.size + 1, 4, none⟩ = some (.slice o n cp) := by rw [← hW0]; simp [go_sem]
  have u5 : W0.cell? ⟨w.heap.size + 1, 5, none⟩ = some (.slice (some ⟨bg, fg, none⟩) gl cg) := by rw [← hW0]; simp [go_sem]
  have u6 : W0.cell? ⟨w.heap.size + 1, 6, none⟩ = some (.int .i64 (k : Int)) := by rw [← hW0]; simp [go_sem]
  have u7 : W0.cell? ⟨w.heap.size + 1, 7, none⟩ = some (.int .i64 st) := by rw [← hW0]; simp [go_sem]
  have zr : w.heap.size + 1 + 1 < W0.heap.size := by rw [← hW0]; simp
  have r0 : W0.cell? ⟨w.heap.size + 1 + 1, 0, none⟩ = some (.int .i64 0) := by rw [← hW0]; simp [go_sem]
  have r1 : W0.cell? ⟨w.heap.size + 1 + 1, 1, none⟩ = some (.int .i64 0) := by rw [← hW0]; simp [go_sem]
  have r2 : W0.cell? ⟨w.heap.size + 1 + 1, 2, none⟩ = some (.bool false) := by rw [← hW0]; simp [go_sem]
  have r3 : W0.cell? ⟨w.heap.size + 1 + 1, 3, none⟩ = some (.slice none 0 0) := by rw [← hW0]; simp [go_sem]
  have r4 : W0.cell? ⟨w.heap.size + 1 + 1, 4, none⟩ = some (.slice none 0 0) := by rw [← hW0]; simp [go_sem]
  have fr0 : W0.frozen? ⟨w.heap.size + 1 + 1, 0, none⟩ = false := by rw [← hW0]; simp [go_sem]
  have fr1 : W0.frozen? ⟨w.heap.size + 1 + 1, 1, none⟩ = false := by rw [← hW0]; simp [go_sem]
  have fr2 : W0.frozen? ⟨w.heap.size + 1 + 1, 2, none⟩ = false := by rw [← hW0]; simp [go_sem]
  have fr3 : W0.frozen? ⟨w.heap.size + 1 + 1, 3, none⟩ = false := by rw [← hW0]; simp [go_sem]
  have fr4 : W0.frozen? ⟨w.heap.size + 1 + 1, 4, none⟩ = false := by rw [← hW0]; simp [go_sem]
  have hz0 := zr
  have g0 := (HB.out.cell (p := ⟨bg, fg + k * 2, none⟩) zg).trans hs0
  have g1 := (HB.out.cell (p := ⟨bg, fg + k * 2 + 1, none⟩) zg).trans hs1
  clear hs0 hs1
  have H0 := hide (fun W => l1opensH_any a p f s o n cp W)
  obtain ⟨op, hop⟩ : ∃ q, (bits .and .i64 f 3 == 1) = q := ⟨_, rfl⟩
  rw [hop] at H0 HV HHC HHT
  clear hop
  obtain ⟨has, hhas⟩ : ∃ q, (endL m.c a p).2 = q := ⟨_, rfl⟩
  rw [hhas] at HV HHC HHT
  have H1 := hide (fun W (hb : Below w.heap.size w W) => l5get_any bc fc cc m.c a p W hc0 (by omega) hfl (Nat.lt_of_lt_of_le zc hb.size) (HC.out.kept hb zc))
  rw [hhas] at H1
  obtain ⟨q, hq⟩ : ∃ q, getL m.c a p = q := ⟨_, rfl⟩
  rw [hq] at H1
  clear hq hhas
  obtain ⟨lb, hlb⟩ : ∃ q, lastB k gl = q := ⟨_, rfl⟩
  rw [hlb] at HV HHC HHT
  by_cases h1 : sb = m.id
  · skip
    subst h1
    cases op with
    | false =>
      have HV2 := hide (HV.out.trans ((if_pos rfl).trans (if_neg (by rintro ⟨h, _⟩; cases h))))
      have HC2 := hide (HHC.out.trans ((if_pos rfl).trans (if_neg (by rintro ⟨h, _⟩; cases h))))
      have HT2 := hide (HHT.out.trans ((if_pos rfl).trans (if_neg (by rintro ⟨h, _⟩; cases h))))
      clear HV HHC HHT
      cases has with
      | true =>
        have HVl := hide (HV2.out.trans (if_pos rfl))
        have HCl := hide (HC2.out.trans (if_pos rfl))
        have HTl := hide (HT2.out.trans (if_pos rfl))
        clear HV2 HC2 HT2
        go_enter Tryz.func21, Tryz.ntmps21
        have u5w := u5
        have u6w := u6
        obtain ⟨Ws, hWs⟩ : ∃ W, (W0.alloc (.cells #[.int .i64 m.id, .int .i64 sf] 93)) = W := ⟨_, rfl⟩
        have hb_Ws : Below W0.heap.size W0 Ws := by rw [← hWs]; exact ((Below.refl _ _).alloc (Nat.le_refl _) _)
        replace z0 := bC hb_Ws z0 zz
        replace z1 := bC hb_Ws z1 zz
        replace z2 := bC hb_Ws z2 zz
        replace z3 := bC hb_Ws z3 zz
        replace z4 := bC hb_Ws z4 zz
        replace fz0 := bF hb_Ws fz0 zz
        replace fz1 := bF hb_Ws fz1 zz
        replace fz2 := bF hb_Ws fz2 zz
        replace fz3 := bF hb_Ws fz3 zz
        replace fz4 := bF hb_Ws fz4 zz
        replace zz := Nat.lt_of_lt_of_le zz hb_Ws.size
        replace u0 := bC hb_Ws u0 zu
        replace u1 := bC hb_Ws u1 zu
        replace u2 := bC hb_Ws u2 zu
        replace u3 := bC hb_Ws u3 zu
        replace u4 := bC hb_Ws u4 zu
        replace u5 := bC hb_Ws u5 zu
        replace u6 := bC hb_Ws u6 zu
        replace u7 := bC hb_Ws u7 zu
        replace zu := Nat.lt_of_lt_of_le zu hb_Ws.size
        replace r0 := bC hb_Ws r0 zr
        replace r1 := bC hb_Ws r1 zr
        replace r2 := bC hb_Ws r2 zr
        replace r3 := bC hb_Ws r3 zr
        replace r4 := bC hb_Ws r4 zr
        replace fr0 := bF hb_Ws fr0 zr
        replace fr1 := bF hb_Ws fr1 zr
        replace fr2 := bF hb_Ws fr2 zr
        replace fr3 := bF hb_Ws fr3 zr
        replace fr4 := bF hb_Ws fr4 zr
        replace zr := Nat.lt_of_lt_of_le zr hb_Ws.size
        replace HB := hide (HB.out.trans (hb_Ws.mono HB.out.size))
        clear hb_Ws
        have zs : W0.heap.size < Ws.heap.size := by rw [← hWs]; simp
        have s0 : Ws.cell? ⟨W0.heap.size, 0, none⟩ = some (.int .i64 m.id) := by rw [← hWs]; simp [go_sem]
        have s1 : Ws.cell? ⟨W0.heap.size, 1, none⟩ = some (.int .i64 sf) := by rw [← hWs]; simp [go_sem]
        go_wp2_with fail
        refine (H0.out _).mono ?_
        rintro e v1 ⟨rfl, hb⟩
        clear H0
        replace z0 := bC hb z0 zz
        replace z1 := bC hb z1 zz
        replace z2 := bC hb z2 zz
        replace z3 := bC hb z3 zz
        replace z4 := bC hb z4 zz
        replace fz0 := bF hb fz0 zz
        replace fz1 := bF hb fz1 zz
        replace fz2 := bF hb fz2 zz
        replace fz3 := bF hb fz3 zz
        replace fz4 := bF hb fz4 zz
        replace zz := Nat.lt_of_lt_of_le zz hb.size
        replace u0 := bC hb u0 zu
        replace u1 := bC hb u1 zu
        replace u2 := bC hb u2 zu
        replace u3 := bC hb u3 zu
        replace u4 := bC hb u4 zu
        replace u5 := bC hb u5 zu
        replace u6 := bC hb u6 zu
        replace u7 := bC hb u7 zu
        replace zu := Nat.lt_of_lt_of_le zu hb.size
        replace r0 := bC hb r0 zr
        replace r1 := bC hb r1 zr
        replace r2 := bC hb r2 zr
        replace r3 := bC hb r3 zr
        replace r4 := bC hb r4 zr
        replace fr0 := bF hb fr0 zr
        replace fr1 := bF hb fr1 zr
        replace fr2 := bF hb fr2 zr
        replace fr3 := bF hb fr3 zr
        replace fr4 := bF hb fr4 zr
        replace zr := Nat.lt_of_lt_of_le zr hb.size
        replace s0 := bC hb s0 zs
        replace s1 := bC hb s1 zs
        replace zs := Nat.lt_of_lt_of_le zs hb.size
        replace HB := hide (HB.out.trans (hb.mono HB.out.size))
        clear hb
        go_wp2_with fail
        refine (H1.out v1 HB.out).mono ?_
        rintro e v2 ⟨rfl, hb⟩
        clear H1
        replace z0 := bC hb z0 zz
        replace z1 := bC hb z1 zz
        replace z2 := bC hb z2 zz
        replace z3 := bC hb z3 zz
        replace z4 := bC hb z4 zz
        replace fz0 := bF hb fz0 zz
        replace fz1 := bF hb fz1 zz
        replace fz2 := bF hb fz2 zz
        replace fz3 := bF hb fz3 zz
        replace fz4 := bF hb fz4 zz
        replace zz := Nat.lt_of_lt_of_le zz hb.size
        replace u0 := bC hb u0 zu
        replace u1 := bC hb u1 zu
        replace u2 := bC hb u2 zu
        replace u3 := bC hb u3 zu
        replace u4 := bC hb u4 zu
        replace u5 := bC hb u5 zu
        replace u6 := bC hb u6 zu
        replace u7 := bC hb u7 zu
        replace zu := Nat.lt_of_lt_of_le zu hb.size
        replace r0 := bC hb r0 zr
        replace r1 := bC hb r1 zr
        replace r2 := bC hb r2 zr
        replace r3 := bC hb r3 zr
        replace r4 := bC hb r4 zr
        replace fr0 := bF hb fr0 zr
        replace fr1 := bF hb fr1 zr
        replace fr2 := bF hb fr2 zr
        replace fr3 := bF hb fr3 zr
        replace fr4 := bF hb fr4 zr
        replace zr := Nat.lt_of_lt_of_le zr hb.size
        replace s0 := bC hb s0 zs
        replace s1 := bC hb s1 zs
        replace zs := Nat.lt_of_lt_of_le zs hb.size
        replace HB := hide (HB.out.trans (hb.mono HB.out.size))
        clear hb
        obtain ⟨W4, hW4⟩ : ∃ W, (v2.alloc (.cells #[.bool q.u, .int .i64 q.a, .int .i64 q.p, .int .i64 q.v, .int .i64 q.t] 95)) = W := ⟨_, rfl⟩
        have hb_W4 : Below v2.heap.size v2 W4 := by rw [← hW4]; exact ((Below.refl _ _).alloc (Nat.le_refl _) _)
        replace z0 := bC hb_W4 z0 zz
        replace z1 := bC hb_W4 z1 zz
        replace z2 := bC hb_W4 z2 zz
        replace z3 := bC hb_W4 z3 zz
        replace z4 := bC hb_W4 z4 zz
        replace fz0 := bF hb_W4 fz0 zz
        replace fz1 := bF hb_W4 fz1 zz
        replace fz2 := bF hb_W4 fz2 zz
        replace fz3 := bF hb_W4 fz3 zz
        replace fz4 := bF hb_W4 fz4 zz
        replace zz := Nat.lt_of_lt_of_le zz hb_W4.size
        replace u0 := bC hb_W4 u0 zu
        replace u1 := bC hb_W4 u1 zu
        replace u2 := bC hb_W4 u2 zu
        replace u3 := bC hb_W4 u3 zu
        replace u4 := bC hb_W4 u4 zu
        replace u5 := bC hb_W4 u5 zu
        replace u6 := bC hb_W4 u6 zu
        replace u7 := bC hb_W4 u7 zu
        replace zu := Nat.lt_of_lt_of_le zu hb_W4.size
        replace r0 := bC hb_W4 r0 zr
        replace r1 := bC hb_W4 r1 zr
        replace r2 := bC hb_W4 r2 zr
        replace r3 := bC hb_W4 r3 zr
        replace r4 := bC hb_W4 r4 zr
        replace fr0 := bF hb_W4 fr0 zr
        replace fr1 := bF hb_W4 fr1 zr
        replace fr2 := bF hb_W4 fr2 zr
        replace fr3 := bF hb_W4 fr3 zr
        replace fr4 := bF hb_W4 fr4 zr
        replace zr := Nat.lt_of_lt_of_le zr hb_W4.size
        replace s0 := bC hb_W4 s0 zs
        replace s1 := bC hb_W4 s1 zs
        replace zs := Nat.lt_of_lt_of_le zs hb_W4.size
        replace HB := hide (HB.out.trans (hb_W4.mono HB.out.size))
        clear hb_W4
        have zy : v2.heap.size < W4.heap.size := by rw [← hW4]; simp
        have y0 : W4.cell? ⟨v2.heap.size, 0, none⟩ = some (.bool q.u) := by rw [← hW4]; simp [go_sem]
        have y1 : W4.cell? ⟨v2.heap.size, 1, none⟩ = some (.int .i64 q.a) := by rw [← hW4]; simp [go_sem]
        have y2 : W4.cell? ⟨v2.heap.size, 2, none⟩ = some (.int .i64 q.p) := by rw [← hW4]; simp [go_sem]
        have y3 : W4.cell? ⟨v2.heap.size, 3, none⟩ = some (.int .i64 q.v) := by rw [← hW4]; simp [go_sem]
        have y4 : W4.cell? ⟨v2.heap.size, 4, none⟩ = some (.int .i64 q.t) := by rw [← hW4]; simp [go_sem]
        have hrz := zr
        have hsc := HB.out.size
        have H3 := hide (l6take_any m bc fc cc bt ft ct now a p f s o n cp W4 hn0 hn1 hfl hc0 hc16 ht0 ht16 (by omega) (by omega) (HC.out.kept HB.out zc) (HT.out.kept HB.out zt) hok)
        go_wp2_with fail
        refine (H3.out).mono ?_
        rintro e v3 ⟨b2, f2, c2, b3, f3, c3, rfl, hz2, hz3, hrc, hrt, hb, hq2, hq3⟩
        have HRc := hide hrc
        have HRt := hide hrt
        have hs3 := hb.size
        clear hrc hrt H3
        replace z0 := bC hb z0 zz
        replace z1 := bC hb z1 zz
        replace z2 := bC hb z2 zz
        replace z3 := bC hb z3 zz
        replace z4 := bC hb z4 zz
        replace fz0 := bF hb fz0 zz
        replace fz1 := bF hb fz1 zz
        replace fz2 := bF hb fz2 zz
        replace fz3 := bF hb fz3 zz
        replace fz4 := bF hb fz4 zz
        replace zz := Nat.lt_of_lt_of_le zz hb.size
        replace u0 := bC hb u0 zu
        replace u1 := bC hb u1 zu
        replace u2 := bC hb u2 zu
        replace u3 := bC hb u3 zu
        replace u4 := bC hb u4 zu
        replace u5 := bC hb u5 zu
        replace u6 := bC hb u6 zu
        replace u7 := bC hb u7 zu
        replace zu := Nat.lt_of_lt_of_le zu hb.size
        replace r0 := bC hb r0 zr
        replace r1 := bC hb r1 zr
        replace r2 := bC hb r2 zr
        replace r3 := bC hb r3 zr
        replace r4 := bC hb r4 zr
        replace fr0 := bF hb fr0 zr
        replace fr1 := bF hb fr1 zr
        replace fr2 := bF hb fr2 zr
        replace fr3 := bF hb fr3 zr
        replace fr4 := bF hb fr4 zr
        replace zr := Nat.lt_of_lt_of_le zr hb.size
        replace s0 := bC hb s0 zs
        replace s1 := bC hb s1 zs
        replace zs := Nat.lt_of_lt_of_le zs hb.size
        replace y0 := bC hb y0 zy
        replace y1 := bC hb y1 zy
        replace y2 := bC hb y2 zy
        replace y3 := bC hb y3 zy
        replace y4 := bC hb y4 zy
        replace zy := Nat.lt_of_lt_of_le zy hb.size
        replace HB := hide (HB.out.trans (hb.mono HB.out.size))
        clear hb
        go_wp2
        refine bodyPost_ret (v := .tuple #[agt m.id m.lim m.dr (.slice (some ⟨b2, f2, none⟩) m.c.length c2) (.slice (some ⟨b3, f3, none⟩) m.t.length c3), .int .i64 0]) (by simp [results, Tryz.results21, go_sem, r0, r1, r2, r3, r4]) rfl ⟨b2, f2, c2, b3, f3, c3, by rw [HVl.out], by simp; omega, by simp; omega, ?_, ?_, ?_, by omega, by omega⟩
        · rw [HCl.out]
          exact Row.step HRc.out (stp_set5v v3 (w.heap.size + 1 + 1) (.int .i64 m.id) (.int .i64 m.lim) (.bool m.dr) (.slice (some ⟨b2, f2, none⟩) m.c.length c2) (.slice (some ⟨b3, f3, none⟩) m.t.length c3)) hz2 (by omega)
        · rw [HTl.out]
          exact Row.step HRt.out (stp_set5v v3 (w.heap.size + 1 + 1) (.int .i64 m.id) (.int .i64 m.lim) (.bool m.dr) (.slice (some ⟨b2, f2, none⟩) m.c.length c2) (.slice (some ⟨b3, f3, none⟩) m.t.length c3)) hz3 (by omega)
        · exact below_set5v HB.out (by omega) _ _ _ _ _
      | false =>
        have HV3 := hide (HV2.out.trans (if_neg (by decide)))
        have HC3 := hide (HC2.out.trans (if_neg (by decide)))
        have HT3 := hide (HT2.out.trans (if_neg (by decide)))
        clear HV2 HC2 HT2
        cases lb with
        | false =>
          have hlb' : ¬ ((k : Int) = (gl : Int) - 1) := of_decide_eq_false hlb
          have HLB := hide hlb'
          clear hlb'
          by_cases hsf : sf = 1
          · have HVl := hide (HV3.out.trans (if_pos hsf))
            have HCl := hide (HC3.out.trans (if_pos hsf))
            have HTl := hide (HT3.out.trans (if_pos hsf))
            clear HV3 HC3 HT3
            subst hsf
            go_enter Tryz.func21, Tryz.ntmps21
            have u5w := u5
            have u6w := u6
            obtain ⟨Ws, hWs⟩ : ∃ W, (W0.alloc (.cells #[.int .i64 m.id, .int .i64 1] 93)) = W := ⟨_, rfl⟩
            have hb_Ws : Below W0.heap.size W0 Ws := by rw [← hWs]; exact ((Below.refl _ _).alloc (Nat.le_refl _) _)
            replace z0 := bC hb_Ws z0 zz
            replace z1 := bC hb_Ws z1 zz
            replace z2 := bC hb_Ws z2 zz
            replace z3 := bC hb_Ws z3 zz
            replace z4 := bC hb_Ws z4 zz
            replace fz0 := bF hb_Ws fz0 zz
            replace fz1 := bF hb_Ws fz1 zz
            replace fz2 := bF hb_Ws fz2 zz
            replace fz3 := bF hb_Ws fz3 zz
            replace fz4 := bF hb_Ws fz4 zz
            replace zz := Nat.lt_of_lt_of_le zz hb_Ws.size
            replace u0 := bC hb_Ws u0 zu
            replace u1 := bC hb_Ws u1 zu
            replace u2 := bC hb_Ws u2 zu
            replace u3 := bC hb_Ws u3 zu
            replace u4 := bC hb_Ws u4 zu
            replace u5 := bC hb_Ws u5 zu
            replace u6 := bC hb_Ws u6 zu
            replace u7 := bC hb_Ws u7 zu
            replace zu := Nat.lt_of_lt_of_le zu hb_Ws.size
            replace r0 := bC hb_Ws r0 zr
            replace r1 := bC hb_Ws r1 zr
            replace r2 := bC hb_Ws r2 zr
            replace r3 := bC hb_Ws r3 zr
            replace r4 := bC hb_Ws r4 zr
            replace fr0 := bF hb_Ws fr0 zr
            replace fr1 := bF hb_Ws fr1 zr
            replace fr2 := bF hb_Ws fr2 zr
            replace fr3 := bF hb_Ws fr3 zr
            replace fr4 := bF hb_Ws fr4 zr
            replace zr := Nat.lt_of_lt_of_le zr hb_Ws.size
            replace HB := hide (HB.out.trans (hb_Ws.mono HB.out.size))
            clear hb_Ws
            have zs : W0.heap.size < Ws.heap.size := by rw [← hWs]; simp
            have s0 : Ws.cell? ⟨W0.heap.size, 0, none⟩ = some (.int .i64 m.id) := by rw [← hWs]; simp [go_sem]
            have s1 : Ws.cell? ⟨W0.heap.size, 1, none⟩ = some (.int .i64 1) := by rw [← hWs]; simp [go_sem]
            go_wp2_with fail
            refine (H0.out _).mono ?_
            rintro e v1 ⟨rfl, hb⟩
            clear H0
            replace z0 := bC hb z0 zz
            replace z1 := bC hb z1 zz
            replace z2 := bC hb z2 zz
            replace z3 := bC hb z3 zz
            replace z4 := bC hb z4 zz
            replace fz0 := bF hb fz0 zz
            replace fz1 := bF hb fz1 zz
            replace fz2 := bF hb fz2 zz
            replace fz3 := bF hb fz3 zz
            replace fz4 := bF hb fz4 zz
            replace zz := Nat.lt_of_lt_of_le zz hb.size
            replace u0 := bC hb u0 zu
            replace u1 := bC hb u1 zu
            replace u2 := bC hb u2 zu
            replace u3 := bC hb u3 zu
            replace u4 := bC hb u4 zu
            replace u5 := bC hb u5 zu
            replace u6 := bC hb u6 zu
            replace u7 := bC hb u7 zu
            replace zu := Nat.lt_of_lt_of_le zu hb.size
            replace r0 := bC hb r0 zr
            replace r1 := bC hb r1 zr
            replace r2 := bC hb r2 zr
            replace r3 := bC hb r3 zr
            replace r4 := bC hb r4 zr
            replace fr0 := bF hb fr0 zr
            replace fr1 := bF hb fr1 zr
            replace fr2 := bF hb fr2 zr
            replace fr3 := bF hb fr3 zr
            replace fr4 := bF hb fr4 zr
            replace zr := Nat.lt_of_lt_of_le zr hb.size
            replace s0 := bC hb s0 zs
            replace s1 := bC hb s1 zs
            replace zs := Nat.lt_of_lt_of_le zs hb.size
            replace HB := hide (HB.out.trans (hb.mono HB.out.size))
            clear hb
            go_wp2_with fail
            refine (H1.out v1 HB.out).mono ?_
            rintro e v2 ⟨rfl, hb⟩
            clear H1
            replace z0 := bC hb z0 zz
            replace z1 := bC hb z1 zz
            replace z2 := bC hb z2 zz
            replace z3 := bC hb z3 zz
            replace z4 := bC hb z4 zz
            replace fz0 := bF hb fz0 zz
            replace fz1 := bF hb fz1 zz
            replace fz2 := bF hb fz2 zz
            replace fz3 := bF hb fz3 zz
            replace fz4 := bF hb fz4 zz
            replace zz := Nat.lt_of_lt_of_le zz hb.size
            replace u0 := bC hb u0 zu
            replace u1 := bC hb u1 zu
            replace u2 := bC hb u2 zu
            replace u3 := bC hb u3 zu
            replace u4 := bC hb u4 zu
            replace u5 := bC hb u5 zu
            replace u6 := bC hb u6 zu
            replace u7 := bC hb u7 zu
            replace zu := Nat.lt_of_lt_of_le zu hb.size
            replace r0 := bC hb r0 zr
            replace r1 := bC hb r1 zr
            replace r2 := bC hb r2 zr
            replace r3 := bC hb r3 zr
            replace r4 := bC hb r4 zr
            replace fr0 := bF hb fr0 zr
            replace fr1 := bF hb fr1 zr
            replace fr2 := bF hb fr2 zr
            replace fr3 := bF hb fr3 zr
            replace fr4 := bF hb fr4 zr
            replace zr := Nat.lt_of_lt_of_le zr hb.size
            replace s0 := bC hb s0 zs
            replace s1 := bC hb s1 zs
            replace zs := Nat.lt_of_lt_of_le zs hb.size
            replace HB := hide (HB.out.trans (hb.mono HB.out.size))
            clear hb
            obtain ⟨W4, hW4⟩ : ∃ W, (v2.alloc (.cells #[.bool q.u, .int .i64 q.a, .int .i64 q.p, .int .i64 q.v, .int .i64 q.t] 95)) = W := ⟨_, rfl⟩
            have hb_W4 : Below v2.heap.size v2 W4 := by rw [← hW4]; exact ((Below.refl _ _).alloc (Nat.le_refl _) _)
            replace z0 := bC hb_W4 z0 zz
            replace z1 := bC hb_W4 z1 zz
            replace z2 := bC hb_W4 z2 zz
            replace z3 := bC hb_W4 z3 zz
            replace z4 := bC hb_W4 z4 zz
            replace fz0 := bF hb_W4 fz0 zz
            replace fz1 := bF hb_W4 fz1 zz
            replace fz2 := bF hb_W4 fz2 zz
            replace fz3 := bF hb_W4 fz3 zz
            replace fz4 := bF hb_W4 fz4 zz
            replace zz := Nat.lt_of_lt_of_le zz hb_W4.size
            replace u0 := bC hb_W4 u0 zu
            replace u1 := bC hb_W4 u1 zu
            replace u2 := bC hb_W4 u2 zu
            replace u3 := bC hb_W4 u3 zu
            replace u4 := bC hb_W4 u4 zu
            replace u5 := bC hb_W4 u5 zu
            replace u6 := bC hb_W4 u6 zu
            replace u7 := bC hb_W4 u7 zu
            replace zu := Nat.lt_of_lt_of_le zu hb_W4.size
            replace r0 := bC hb_W4 r0 zr
            replace r1 := bC hb_W4 r1 zr
            replace r2 := bC hb_W4 r2 zr
            replace r3 := bC hb_W4 r3 zr
            replace r4 := bC hb_W4 r4 zr
            replace fr0 := bF hb_W4 fr0 zr
            replace fr1 := bF hb_W4 fr1 zr
            replace fr2 := bF hb_W4 fr2 zr
            replace fr3 := bF hb_W4 fr3 zr
            replace fr4 := bF hb_W4 fr4 zr
            replace zr := Nat.lt_of_lt_of_le zr hb_W4.size
            replace s0 := bC hb_W4 s0 zs
            replace s1 := bC hb_W4 s1 zs
            replace zs := Nat.lt_of_lt_of_le zs hb_W4.size
            replace HB := hide (HB.out.trans (hb_W4.mono HB.out.size))
            clear hb_W4
            have zy : v2.heap.size < W4.heap.size := by rw [← hW4]; simp
            have y0 : W4.cell? ⟨v2.heap.size, 0, none⟩ = some (.bool q.u) := by rw [← hW4]; simp [go_sem]
            have y1 : W4.cell? ⟨v2.heap.size, 1, none⟩ = some (.int .i64 q.a) := by rw [← hW4]; simp [go_sem]
            have y2 : W4.cell? ⟨v2.heap.size, 2, none⟩ = some (.int .i64 q.p) := by rw [← hW4]; simp [go_sem]
            have y3 : W4.cell? ⟨v2.heap.size, 3, none⟩ = some (.int .i64 q.v) := by rw [← hW4]; simp [go_sem]
            have y4 : W4.cell? ⟨v2.heap.size, 4, none⟩ = some (.int .i64 q.t) := by rw [← hW4]; simp [go_sem]
            have hlb2 := HLB.out
            have hlb3 : ((k : Int) == (gl : Int) - 1) = false := beq_eq_false_iff_ne.2 hlb2
            have hrz := zr
            have hsc := HB.out.size
            have H3 := hide (l6hunt_any m bc fc cc bt ft ct now a p f s o n cp false W4 hn0 hn1 hfl hc0 hc16 ht0 ht16 (by omega) (by omega) (HC.out.kept HB.out zc) (HT.out.kept HB.out zt))
            obtain ⟨hv, hhv⟩ : ∃ q, huntV m a p false = q := ⟨_, rfl⟩
            rw [hhv] at H3 HVl
            clear hhv
            go_wp2_with fail
            refine (H3.out).mono ?_
            rintro e v3 ⟨b2, f2, c2, b3, f3, c3, rfl, hz2, hz3, hrc, hrt, hb, hq2, hq3⟩
            have HRc := hide hrc
            have HRt := hide hrt
            have hs3 := hb.size
            clear hrc hrt H3
            replace z0 := bC hb z0 zz
            replace z1 := bC hb z1 zz
            replace z2 := bC hb z2 zz
            replace z3 := bC hb z3 zz
            replace z4 := bC hb z4 zz
            replace fz0 := bF hb fz0 zz
            replace fz1 := bF hb fz1 zz
            replace fz2 := bF hb fz2 zz
            replace fz3 := bF hb fz3 zz
            replace fz4 := bF hb fz4 zz
            replace zz := Nat.lt_of_lt_of_le zz hb.size
            replace u0 := bC hb u0 zu
            replace u1 := bC hb u1 zu
            replace u2 := bC hb u2 zu
            replace u3 := bC hb u3 zu
            replace u4 := bC hb u4 zu
            replace u5 := bC hb u5 zu
            replace u6 := bC hb u6 zu
            replace u7 := bC hb u7 zu
            replace zu := Nat.lt_of_lt_of_le zu hb.size
            replace r0 := bC hb r0 zr
            replace r1 := bC hb r1 zr
            replace r2 := bC hb r2 zr
            replace r3 := bC hb r3 zr
            replace r4 := bC hb r4 zr
            replace fr0 := bF hb fr0 zr
            replace fr1 := bF hb fr1 zr
            replace fr2 := bF hb fr2 zr
            replace fr3 := bF hb fr3 zr
            replace fr4 := bF hb fr4 zr
            replace zr := Nat.lt_of_lt_of_le zr hb.size
            replace s0 := bC hb s0 zs
            replace s1 := bC hb s1 zs
            replace zs := Nat.lt_of_lt_of_le zs hb.size
            replace y0 := bC hb y0 zy
            replace y1 := bC hb y1 zy
            replace y2 := bC hb y2 zy
            replace y3 := bC hb y3 zy
            replace y4 := bC hb y4 zy
            replace zy := Nat.lt_of_lt_of_le zy hb.size
            replace HB := hide (HB.out.trans (hb.mono HB.out.size))
            clear hb
            go_wp2
            refine bodyPost_ret (v := .tuple #[agt m.id m.lim m.dr (.slice (some ⟨b2, f2, none⟩) m.c.length c2) (.slice (some ⟨b3, f3, none⟩) m.t.length c3), .int .i64 hv]) (by simp [results, Tryz.results21, go_sem, r0, r1, r2, r3, r4]) rfl ⟨b2, f2, c2, b3, f3, c3, by rw [HVl.out], by simp; omega, by simp; omega, ?_, ?_, ?_, by omega, by omega⟩
            · rw [HCl.out]
              exact Row.step HRc.out (stp_set5v v3 (w.heap.size + 1 + 1) (.int .i64 m.id) (.int .i64 m.lim) (.bool m.dr) (.slice (some ⟨b2, f2, none⟩) m.c.length c2) (.slice (some ⟨b3, f3, none⟩) m.t.length c3)) hz2 (by omega)
            · rw [HTl.out]
              exact Row.step HRt.out (stp_set5v v3 (w.heap.size + 1 + 1) (.int .i64 m.id) (.int .i64 m.lim) (.bool m.dr) (.slice (some ⟨b2, f2, none⟩) m.c.length c2) (.slice (some ⟨b3, f3, none⟩) m.t.length c3)) hz3 (by omega)
            · exact below_set5v HB.out (by omega) _ _ _ _ _
          · have HV4 := hide (HV3.out.trans (if_neg hsf))
            have HVl := hide (HV4.out.trans (if_neg (by decide)))
            have HCl := hide (HC3.out.trans (if_neg hsf))
            have HTl := hide (HT3.out.trans (if_neg hsf))
            clear HV3 HC3 HT3 HV4
            go_enter Tryz.func21, Tryz.ntmps21
            have u5w := u5
            have u6w := u6
            obtain ⟨Ws, hWs⟩ : ∃ W, (W0.alloc (.cells #[.int .i64 m.id, .int .i64 sf] 93)) = W := ⟨_, rfl⟩
            have hb_Ws : Below W0.heap.size W0 Ws := by rw [← hWs]; exact ((Below.refl _ _).alloc (Nat.le_refl _) _)
            replace z0 := bC hb_Ws z0 zz
            replace z1 := bC hb_Ws z1 zz
            replace z2 := bC hb_Ws z2 zz
            replace z3 := bC hb_Ws z3 zz
            replace z4 := bC hb_Ws z4 zz
            replace fz0 := bF hb_Ws fz0 zz
            replace fz1 := bF hb_Ws fz1 zz
            replace fz2 := bF hb_Ws fz2 zz
            replace fz3 := bF hb_Ws fz3 zz
            replace fz4 := bF hb_Ws fz4 zz
            replace zz := Nat.lt_of_lt_of_le zz hb_Ws.size
            replace u0 := bC hb_Ws u0 zu
            replace u1 := bC hb_Ws u1 zu
            replace u2 := bC hb_Ws u2 zu
            replace u3 := bC hb_Ws u3 zu
            replace u4 := bC hb_Ws u4 zu
            replace u5 := bC hb_Ws u5 zu
            replace u6 := bC hb_Ws u6 zu
            replace u7 := bC hb_Ws u7 zu
            replace zu := Nat.lt_of_lt_of_le zu hb_Ws.size
            replace r0 := bC hb_Ws r0 zr
            replace r1 := bC hb_Ws r1 zr
            replace r2 := bC hb_Ws r2 zr
            replace r3 := bC hb_Ws r3 zr
            replace r4 := bC hb_Ws r4 zr
            replace fr0 := bF hb_Ws fr0 zr
            replace fr1 := bF hb_Ws fr1 zr
            replace fr2 := bF hb_Ws fr2 zr
            replace fr3 := bF hb_Ws fr3 zr
            replace fr4 := bF hb_Ws fr4 zr
            replace zr := Nat.lt_of_lt_of_le zr hb_Ws.size
            replace HB := hide (HB.out.trans (hb_Ws.mono HB.out.size))
            clear hb_Ws
            have zs : W0.heap.size < Ws.heap.size := by rw [← hWs]; simp
            have s0 : Ws.cell? ⟨W0.heap.size, 0, none⟩ = some (.int .i64 m.id) := by rw [← hWs]; simp [go_sem]
            have s1 : Ws.cell? ⟨W0.heap.size, 1, none⟩ = some (.int .i64 sf) := by rw [← hWs]; simp [go_sem]
            go_wp2_with fail
            refine (H0.out _).mono ?_
            rintro e v1 ⟨rfl, hb⟩
            clear H0
            replace z0 := bC hb z0 zz
            replace z1 := bC hb z1 zz
            replace z2 := bC hb z2 zz
            replace z3 := bC hb z3 zz
            replace z4 := bC hb z4 zz
            replace fz0 := bF hb fz0 zz
            replace fz1 := bF hb fz1 zz
            replace fz2 := bF hb fz2 zz
            replace fz3 := bF hb fz3 zz
            replace fz4 := bF hb fz4 zz
            replace zz := Nat.lt_of_lt_of_le zz hb.size
            replace u0 := bC hb u0 zu
            replace u1 := bC hb u1 zu
            replace u2 := bC hb u2 zu
            replace u3 := bC hb u3 zu
            replace u4 := bC hb u4 zu
            replace u5 := bC hb u5 zu
            replace u6 := bC hb u6 zu
            replace u7 := bC hb u7 zu
            replace zu := Nat.lt_of_lt_of_le zu hb.size
            replace r0 := bC hb r0 zr
            replace r1 := bC hb r1 zr
            replace r2 := bC hb r2 zr
            replace r3 := bC hb r3 zr
            replace r4 := bC hb r4 zr
            replace fr0 := bF hb fr0 zr
            replace fr1 := bF hb fr1 zr
            replace fr2 := bF hb fr2 zr
            replace fr3 := bF hb fr3 zr
            replace fr4 := bF hb fr4 zr
            replace zr := Nat.lt_of_lt_of_le zr hb.size
            replace s0 := bC hb s0 zs
            replace s1 := bC hb s1 zs
            replace zs := Nat.lt_of_lt_of_le zs hb.size
            replace HB := hide (HB.out.trans (hb.mono HB.out.size))
            clear hb
            go_wp2_with fail
            refine (H1.out v1 HB.out).mono ?_
            rintro e v2 ⟨rfl, hb⟩
            clear H1
            replace z0 := bC hb z0 zz
            replace z1 := bC hb z1 zz
            replace z2 := bC hb z2 zz
            replace z3 := bC hb z3 zz
            replace z4 := bC hb z4 zz
            replace fz0 := bF hb fz0 zz
            replace fz1 := bF hb fz1 zz
            replace fz2 := bF hb fz2 zz
            replace fz3 := bF hb fz3 zz
            replace fz4 := bF hb fz4 zz
            replace zz := Nat.lt_of_lt_of_le zz hb.size
            replace u0 := bC hb u0 zu
            replace u1 := bC hb u1 zu
            replace u2 := bC hb u2 zu
            replace u3 := bC hb u3 zu
            replace u4 := bC hb u4 zu
            replace u5 := bC hb u5 zu
            replace u6 := bC hb u6 zu
            replace u7 := bC hb u7 zu
            replace zu := Nat.lt_of_lt_of_le zu hb.size
            replace r0 := bC hb r0 zr
            replace r1 := bC hb r1 zr
            replace r2 := bC hb r2 zr
            replace r3 := bC hb r3 zr
            replace r4 := bC hb r4 zr
            replace fr0 := bF hb fr0 zr
            replace fr1 := bF hb fr1 zr
            replace fr2 := bF hb fr2 zr
            replace fr3 := bF hb fr3 zr
            replace fr4 := bF hb fr4 zr
            replace zr := Nat.lt_of_lt_of_le zr hb.size
            replace s0 := bC hb s0 zs
            replace s1 := bC hb s1 zs
            replace zs := Nat.lt_of_lt_of_le zs hb.size
            replace HB := hide (HB.out.trans (hb.mono HB.out.size))
            clear hb
            obtain ⟨W4, hW4⟩ : ∃ W, (v2.alloc (.cells #[.bool q.u, .int .i64 q.a, .int .i64 q.p, .int .i64 q.v, .int .i64 q.t] 95)) = W := ⟨_, rfl⟩
            have hb_W4 : Below v2.heap.size v2 W4 := by rw [← hW4]; exact ((Below.refl _ _).alloc (Nat.le_refl _) _)
            replace z0 := bC hb_W4 z0 zz
            replace z1 := bC hb_W4 z1 zz
            replace z2 := bC hb_W4 z2 zz
            replace z3 := bC hb_W4 z3 zz
            replace z4 := bC hb_W4 z4 zz
            replace fz0 := bF hb_W4 fz0 zz
            replace fz1 := bF hb_W4 fz1 zz
            replace fz2 := bF hb_W4 fz2 zz
            replace fz3 := bF hb_W4 fz3 zz
            replace fz4 := bF hb_W4 fz4 zz
            replace zz := Nat.lt_of_lt_of_le zz hb_W4.size
            replace u0 := bC hb_W4 u0 zu
            replace u1 := bC hb_W4 u1 zu
            replace u2 := bC hb_W4 u2 zu
            replace u3 := bC hb_W4 u3 zu
            replace u4 := bC hb_W4 u4 zu
            replace u5 := bC hb_W4 u5 zu
            replace u6 := bC hb_W4 u6 zu
            replace u7 := bC hb_W4 u7 zu
            replace zu := Nat.lt_of_lt_of_le zu hb_W4.size
            replace r0 := bC hb_W4 r0 zr
            replace r1 := bC hb_W4 r1 zr
            replace r2 := bC hb_W4 r2 zr
            replace r3 := bC hb_W4 r3 zr
            replace r4 := bC hb_W4 r4 zr
            replace fr0 := bF hb_W4 fr0 zr
            replace fr1 := bF hb_W4 fr1 zr
            replace fr2 := bF hb_W4 fr2 zr
            replace fr3 := bF hb_W4 fr3 zr
            replace fr4 := bF hb_W4 fr4 zr
            replace zr := Nat.lt_of_lt_of_le zr hb_W4.size
            replace s0 := bC hb_W4 s0 zs
            replace s1 := bC hb_W4 s1 zs
            replace zs := Nat.lt_of_lt_of_le zs hb_W4.size
            replace HB := hide (HB.out.trans (hb_W4.mono HB.out.size))
            clear hb_W4
            have zy : v2.heap.size < W4.heap.size := by rw [← hW4]; simp
            have y0 : W4.cell? ⟨v2.heap.size, 0, none⟩ = some (.bool q.u) := by rw [← hW4]; simp [go_sem]
            have y1 : W4.cell? ⟨v2.heap.size, 1, none⟩ = some (.int .i64 q.a) := by rw [← hW4]; simp [go_sem]
            have y2 : W4.cell? ⟨v2.heap.size, 2, none⟩ = some (.int .i64 q.p) := by rw [← hW4]; simp [go_sem]
            have y3 : W4.cell? ⟨v2.heap.size, 3, none⟩ = some (.int .i64 q.v) := by rw [← hW4]; simp [go_sem]
            have y4 : W4.cell? ⟨v2.heap.size, 4, none⟩ = some (.int .i64 q.t) := by rw [← hW4]; simp [go_sem]
            have hlb2 := HLB.out
            have hlb3 : ((k : Int) == (gl : Int) - 1) = false := beq_eq_false_iff_ne.2 hlb2
            go_wp2
            refine bodyPost_ret (v := .tuple #[agt m.id m.lim m.dr (.slice (some ⟨bc, fc, none⟩) m.c.length cc) (.slice (some ⟨bt, ft, none⟩) m.t.length ct), .int .i64 2]) (by simp [results, Tryz.results21, go_sem, r0, r1, r2, r3, r4]) rfl ⟨bc, fc, cc, bt, ft, ct, by rw [HVl.out], by simp; omega, by simp; omega, ?_, ?_, ?_, by omega, by omega⟩
            · rw [HCl.out]
              exact (HC.out.kept HB.out zc).step (stp_set5v W4 (w.heap.size + 1 + 1) (.int .i64 m.id) (.int .i64 m.lim) (.bool m.dr) (.slice (some ⟨bc, fc, none⟩) m.c.length cc) (.slice (some ⟨bt, ft, none⟩) m.t.length ct)) (by have := HB.out.size; omega) (.inl (by omega))
            · rw [HTl.out]
              exact (HT.out.kept HB.out zt).step (stp_set5v W4 (w.heap.size + 1 + 1) (.int .i64 m.id) (.int .i64 m.lim) (.bool m.dr) (.slice (some ⟨bc, fc, none⟩) m.c.length cc) (.slice (some ⟨bt, ft, none⟩) m.t.length ct)) (by have := HB.out.size; omega) (.inl (by omega))
            · exact below_set5v HB.out (by omega) _ _ _ _ _
        | true =>
          have hlb' : (k : Int) = (gl : Int) - 1 := of_decide_eq_true hlb
          have HLB := hide hlb'
          clear hlb'
          by_cases hsf : sf = 1
          · have HVl := hide (HV3.out.trans (if_pos hsf))
            have HCl := hide (HC3.out.trans (if_pos hsf))
            have HTl := hide (HT3.out.trans (if_pos hsf))
            clear HV3 HC3 HT3
            subst hsf
            go_enter Tryz.func21, Tryz.ntmps21
            have u5w := u5
            have u6w := u6
            obtain ⟨Ws, hWs⟩ : ∃ W, (W0.alloc (.cells #[.int .i64 m.id, .int .i64 1] 93)) = W := ⟨_, rfl⟩
            have hb_Ws : Below W0.heap.size W0 Ws := by rw [← hWs]; exact ((Below.refl _ _).alloc (Nat.le_refl _) _)
            replace z0 := bC hb_Ws z0 zz
            replace z1 := bC hb_Ws z1 zz
            replace z2 := bC hb_Ws z2 zz
            replace z3 := bC hb_Ws z3 zz
            replace z4 := bC hb_Ws z4 zz
            replace fz0 := bF hb_Ws fz0 zz
            replace fz1 := bF hb_Ws fz1 zz
            replace fz2 := bF hb_Ws fz2 zz
            replace fz3 := bF hb_Ws fz3 zz
            replace fz4 := bF hb_Ws fz4 zz
            replace zz := Nat.lt_of_lt_of_le zz hb_Ws.size
            replace u0 := bC hb_Ws u0 zu
            replace u1 := bC hb_Ws u1 zu
            replace u2 := bC hb_Ws u2 zu
            replace u3 := bC hb_Ws u3 zu
            replace u4 := bC hb_Ws u4 zu
            replace u5 := bC hb_Ws u5 zu
            replace u6 := bC hb_Ws u6 zu
            replace u7 := bC hb_Ws u7 zu
            replace zu := Nat.lt_of_lt_of_le zu hb_Ws.size
            replace r0 := bC hb_Ws r0 zr
            replace r1 := bC hb_Ws r1 zr
            replace r2 := bC hb_Ws r2 zr
            replace r3 := bC hb_Ws r3 zr
            replace r4 := bC hb_Ws r4 zr
            replace fr0 := bF hb_Ws fr0 zr
            replace fr1 := bF hb_Ws fr1 zr
            replace fr2 := bF hb_Ws fr2 zr
            replace fr3 := bF hb_Ws fr3 zr
            replace fr4 := bF hb_Ws fr4 zr
            replace zr := Nat.lt_of_lt_of_le zr hb_Ws.size
            replace HB := hide (HB.out.trans (hb_Ws.mono HB.out.size))
            clear hb_Ws
            have zs : W0.heap.size < Ws.heap.size := by rw [← hWs]; simp
            have s0 : Ws.cell? ⟨W0.heap.size, 0, none⟩ = some (.int .i64 m.id) := by rw [← hWs]; simp [go_sem]
            have s1 : Ws.cell? ⟨W0.heap.size, 1, none⟩ = some (.int .i64 1) := by rw [← hWs]; simp [go_sem]
            go_wp2_with fail
            refine (H0.out _).mono ?_
            rintro e v1 ⟨rfl, hb⟩
            clear H0
            replace z0 := bC hb z0 zz
            replace z1 := bC hb z1 zz
            replace z2 := bC hb z2 zz
            replace z3 := bC hb z3 zz
            replace z4 := bC hb z4 zz
            replace fz0 := bF hb fz0 zz
            replace fz1 := bF hb fz1 zz
            replace fz2 := bF hb fz2 zz
            replace fz3 := bF hb fz3 zz
            replace fz4 := bF hb fz4 zz
            replace zz := Nat.lt_of_lt_of_le zz hb.size
            replace u0 := bC hb u0 zu
            replace u1 := bC hb u1 zu
            replace u2 := bC hb u2 zu
            replace u3 := bC hb u3 zu
            replace u4 := bC hb u4 zu
            replace u5 := bC hb u5 zu
            replace u6 := bC hb u6 zu
            replace u7 := bC hb u7 zu
            replace zu := Nat.lt_of_lt_of_le zu hb.size
            replace r0 := bC hb r0 zr
            replace r1 := bC hb r1 zr
            replace r2 := bC hb r2 zr
            replace r3 := bC hb r3 zr
            replace r4 := bC hb r4 zr
            replace fr0 := bF hb fr0 zr
            replace fr1 := bF hb fr1 zr
            replace fr2 := bF hb fr2 zr
            replace fr3 := bF hb fr3 zr
            replace fr4 := bF hb fr4 zr
            replace zr := Nat.lt_of_lt_of_le zr hb.size
            replace s0 := bC hb s0 zs
            replace s1 := bC hb s1 zs
            replace zs := Nat.lt_of_lt_of_le zs hb.size
            replace HB := hide (HB.out.trans (hb.mono HB.out.size))
            clear hb
            go_wp2_with fail
            refine (H1.out v1 HB.out).mono ?_
            rintro e v2 ⟨rfl, hb⟩
            clear H1
            replace z0 := bC hb z0 zz
            replace z1 := bC hb z1 zz
            replace z2 := bC hb z2 zz
            replace z3 := bC hb z3 zz
            replace z4 := bC hb z4 zz
            replace fz0 := bF hb fz0 zz
            replace fz1 := bF hb fz1 zz
            replace fz2 := bF hb fz2 zz
            replace fz3 := bF hb fz3 zz
            replace fz4 := bF hb fz4 zz
            replace zz := Nat.lt_of_lt_of_le zz hb.size
            replace u0 := bC hb u0 zu
            replace u1 := bC hb u1 zu
            replace u2 := bC hb u2 zu
            replace u3 := bC hb u3 zu
            replace u4 := bC hb u4 zu
            replace u5 := bC hb u5 zu
            replace u6 := bC hb u6 zu
            replace u7 := bC hb u7 zu
            replace zu := Nat.lt_of_lt_of_le zu hb.size
            replace r0 := bC hb r0 zr
            replace r1 := bC hb r1 zr
            replace r2 := bC hb r2 zr
            replace r3 := bC hb r3 zr
            replace r4 := bC hb r4 zr
            replace fr0 := bF hb fr0 zr
            replace fr1 := bF hb fr1 zr
            replace fr2 := bF hb fr2 zr
            replace fr3 := bF hb fr3 zr
            replace fr4 := bF hb fr4 zr
            replace zr := Nat.lt_of_lt_of_le zr hb.size
            replace s0 := bC hb s0 zs
            replace s1 := bC hb s1 zs
            replace zs := Nat.lt_of_lt_of_le zs hb.size
            replace HB := hide (HB.out.trans (hb.mono HB.out.size))
            clear hb
            obtain ⟨W4, hW4⟩ : ∃ W, (v2.alloc (.cells #[.bool q.u, .int .i64 q.a, .int .i64 q.p, .int .i64 q.v, .int .i64 q.t] 95)) = W := ⟨_, rfl⟩
            have hb_W4 : Below v2.heap.size v2 W4 := by rw [← hW4]; exact ((Below.refl _ _).alloc (Nat.le_refl _) _)
            replace z0 := bC hb_W4 z0 zz
            replace z1 := bC hb_W4 z1 zz
            replace z2 := bC hb_W4 z2 zz
            replace z3 := bC hb_W4 z3 zz
            replace z4 := bC hb_W4 z4 zz
            replace fz0 := bF hb_W4 fz0 zz
            replace fz1 := bF hb_W4 fz1 zz
            replace fz2 := bF hb_W4 fz2 zz
            replace fz3 := bF hb_W4 fz3 zz
            replace fz4 := bF hb_W4 fz4 zz
            replace zz := Nat.lt_of_lt_of_le zz hb_W4.size
            replace u0 := bC hb_W4 u0 zu
            replace u1 := bC hb_W4 u1 zu
            replace u2 := bC hb_W4 u2 zu
            replace u3 := bC hb_W4 u3 zu
            replace u4 := bC hb_W4 u4 zu
            replace u5 := bC hb_W4 u5 zu
            replace u6 := bC hb_W4 u6 zu
            replace u7 := bC hb_W4 u7 zu
            replace zu := Nat.lt_of_lt_of_le zu hb_W4.size
            replace r0 := bC hb_W4 r0 zr
            replace r1 := bC hb_W4 r1 zr
            replace r2 := bC hb_W4 r2 zr
            replace r3 := bC hb_W4 r3 zr
            replace r4 := bC hb_W4 r4 zr
            replace fr0 := bF hb_W4 fr0 zr
            replace fr1 := bF hb_W4 fr1 zr
            replace fr2 := bF hb_W4 fr2 zr
            replace fr3 := bF hb_W4 fr3 zr
            replace fr4 := bF hb_W4 fr4 zr
            replace zr := Nat.lt_of_lt_of_le zr hb_W4.size
            replace s0 := bC hb_W4 s0 zs
            replace s1 := bC hb_W4 s1 zs
            replace zs := Nat.lt_of_lt_of_le zs hb_W4.size
            replace HB := hide (HB.out.trans (hb_W4.mono HB.out.size))
            clear hb_W4
            have zy : v2.heap.size < W4.heap.size := by rw [← hW4]; simp
            have y0 : W4.cell? ⟨v2.heap.size, 0, none⟩ = some (.bool q.u) := by rw [← hW4]; simp [go_sem]
            have y1 : W4.cell? ⟨v2.heap.size, 1, none⟩ = some (.int .i64 q.a) := by rw [← hW4]; simp [go_sem]
            have y2 : W4.cell? ⟨v2.heap.size, 2, none⟩ = some (.int .i64 q.p) := by rw [← hW4]; simp [go_sem]
            have y3 : W4.cell? ⟨v2.heap.size, 3, none⟩ = some (.int .i64 q.v) := by rw [← hW4]; simp [go_sem]
            have y4 : W4.cell? ⟨v2.heap.size, 4, none⟩ = some (.int .i64 q.t) := by rw [← hW4]; simp [go_sem]
            have hlb2 := HLB.out
            have hrz := zr
            have hsc := HB.out.size
            have H3 := hide (l6hunt_any m bc fc cc bt ft ct now a p f s o n cp true W4 hn0 hn1 hfl hc0 hc16 ht0 ht16 (by omega) (by omega) (HC.out.kept HB.out zc) (HT.out.kept HB.out zt))
            obtain ⟨hv, hhv⟩ : ∃ q, huntV m a p true = q := ⟨_, rfl⟩
            rw [hhv] at H3 HVl
            clear hhv
            go_wp2_with fail
            refine (H3.out).mono ?_
            rintro e v3 ⟨b2, f2, c2, b3, f3, c3, rfl, hz2, hz3, hrc, hrt, hb, hq2, hq3⟩
            have HRc := hide hrc
            have HRt := hide hrt
            have hs3 := hb.size
            clear hrc hrt H3
            replace z0 := bC hb z0 zz
            replace z1 := bC hb z1 zz
            replace z2 := bC hb z2 zz
            replace z3 := bC hb z3 zz
            replace z4 := bC hb z4 zz
            replace fz0 := bF hb fz0 zz
            replace fz1 := bF hb fz1 zz
            replace fz2 := bF hb fz2 zz
            replace fz3 := bF hb fz3 zz
            replace fz4 := bF hb fz4 zz
            replace zz := Nat.lt_of_lt_of_le zz hb.size
            replace u0 := bC hb u0 zu
            replace u1 := bC hb u1 zu
            replace u2 := bC hb u2 zu
            replace u3 := bC hb u3 zu
            replace u4 := bC hb u4 zu
            replace u5 := bC hb u5 zu
            replace u6 := bC hb u6 zu
            replace u7 := bC hb u7 zu
            replace zu := Nat.lt_of_lt_of_le zu hb.size
            replace r0 := bC hb r0 zr
            replace r1 := bC hb r1 zr
            replace r2 := bC hb r2 zr
            replace r3 := bC hb r3 zr
            replace r4 := bC hb r4 zr
            replace fr0 := bF hb fr0 zr
            replace fr1 := bF hb fr1 zr
            replace fr2 := bF hb fr2 zr
            replace fr3 := bF hb fr3 zr
            replace fr4 := bF hb fr4 zr
            replace zr := Nat.lt_of_lt_of_le zr hb.size
            replace s0 := bC hb s0 zs
            replace s1 := bC hb s1 zs
            replace zs := Nat.lt_of_lt_of_le zs hb.size
            replace y0 := bC hb y0 zy
            replace y1 := bC hb y1 zy
            replace y2 := bC hb y2 zy
            replace y3 := bC hb y3 zy
            replace y4 := bC hb y4 zy
            replace zy := Nat.lt_of_lt_of_le zy hb.size
            replace HB := hide (HB.out.trans (hb.mono HB.out.size))
            clear hb
            go_wp2
            refine bodyPost_ret (v := .tuple #[agt m.id m.lim m.dr (.slice (some ⟨b2, f2, none⟩) m.c.length c2) (.slice (some ⟨b3, f3, none⟩) m.t.length c3), .int .i64 hv]) (by simp [results, Tryz.results21, go_sem, r0, r1, r2, r3, r4]) rfl ⟨b2, f2, c2, b3, f3, c3, by rw [HVl.out], by simp; omega, by simp; omega, ?_, ?_, ?_, by omega, by omega⟩
            · rw [HCl.out]
              exact Row.step HRc.out (stp_set5v v3 (w.heap.size + 1 + 1) (.int .i64 m.id) (.int .i64 m.lim) (.bool m.dr) (.slice (some ⟨b2, f2, none⟩) m.c.length c2) (.slice (some ⟨b3, f3, none⟩) m.t.length c3)) hz2 (by omega)
            · rw [HTl.out]
              exact Row.step HRt.out (stp_set5v v3 (w.heap.size + 1 + 1) (.int .i64 m.id) (.int .i64 m.lim) (.bool m.dr) (.slice (some ⟨b2, f2, none⟩) m.c.length c2) (.slice (some ⟨b3, f3, none⟩) m.t.length c3)) hz3 (by omega)
            · exact below_set5v HB.out (by omega) _ _ _ _ _
          · have HV4 := hide (HV3.out.trans (if_neg hsf))
            have HVl := hide (HV4.out.trans (if_pos rfl))
            have HCl := hide (HC3.out.trans (if_neg hsf))
            have HTl := hide (HT3.out.trans (if_neg hsf))
            clear HV3 HC3 HT3 HV4
            go_enter Tryz.func21, Tryz.ntmps21
            have u5w := u5
            have u6w := u6
            obtain ⟨Ws, hWs⟩ : ∃ W, (W0.alloc (.cells #[.int .i64 m.id, .int .i64 sf] 93)) = W := ⟨_, rfl⟩
            have hb_Ws : Below W0.heap.size W0 Ws := by rw [← hWs]; exact ((Below.refl _ _).alloc (Nat.le_refl _) _)
            replace z0 := bC hb_Ws z0 zz
            replace z1 := bC hb_Ws z1 zz
            replace z2 := bC hb_Ws z2 zz
            replace z3 := bC hb_Ws z3 zz
            replace z4 := bC hb_Ws z4 zz
            replace fz0 := bF hb_Ws fz0 zz
            replace fz1 := bF hb_Ws fz1 zz
            replace fz2 := bF hb_Ws fz2 zz
            replace fz3 := bF hb_Ws fz3 zz
            replace fz4 := bF hb_Ws fz4 zz
            replace zz := Nat.lt_of_lt_of_le zz hb_Ws.size
            replace u0 := bC hb_Ws u0 zu
            replace u1 := bC hb_Ws u1 zu
            replace u2 := bC hb_Ws u2 zu
            replace u3 := bC hb_Ws u3 zu
            replace u4 := bC hb_Ws u4 zu
            replace u5 := bC hb_Ws u5 zu
            replace u6 := bC hb_Ws u6 zu
            replace u7 := bC hb_Ws u7 zu
            replace zu := Nat.lt_of_lt_of_le zu hb_Ws.size
            replace r0 := bC hb_Ws r0 zr
            replace r1 := bC hb_Ws r1 zr
            replace r2 := bC hb_Ws r2 zr
            replace r3 := bC hb_Ws r3 zr
            replace r4 := bC hb_Ws r4 zr
            replace fr0 := bF hb_Ws fr0 zr
            replace fr1 := bF hb_Ws fr1 zr
            replace fr2 := bF hb_Ws fr2 zr
            replace fr3 := bF hb_Ws fr3 zr
            replace fr4 := bF hb_Ws fr4 zr
            replace zr := Nat.lt_of_lt_of_le zr hb_Ws.size
            replace HB := hide (HB.out.trans (hb_Ws.mono HB.out.size))
            clear hb_Ws
            have zs : W0.heap.size < Ws.heap.size := by rw [← hWs]; simp
            have s0 : Ws.cell? ⟨W0.heap.size, 0, none⟩ = some (.int .i64 m.id) := by rw [← hWs]; simp [go_sem]
            have s1 : Ws.cell? ⟨W0.heap.size, 1, none⟩ = some (.int .i64 sf) := by rw [← hWs]; simp [go_sem]
            go_wp2_with fail
            refine (H0.out _).mono ?_
            rintro e v1 ⟨rfl, hb⟩
            clear H0
            replace z0 := bC hb z0 zz
            replace z1 := bC hb z1 zz
            replace z2 := bC hb z2 zz
            replace z3 := bC hb z3 zz
            replace z4 := bC hb z4 zz
            replace fz0 := bF hb fz0 zz
            replace fz1 := bF hb fz1 zz
            replace fz2 := bF hb fz2 zz
            replace fz3 := bF hb fz3 zz
            replace fz4 := bF hb fz4 zz
            replace zz := Nat.lt_of_lt_of_le zz hb.size
            replace u0 := bC hb u0 zu
            replace u1 := bC hb u1 zu
            replace u2 := bC hb u2 zu
            replace u3 := bC hb u3 zu
            replace u4 := bC hb u4 zu
            replace u5 := bC hb u5 zu
            replace u6 := bC hb u6 zu
            replace u7 := bC hb u7 zu
            replace zu := Nat.lt_of_lt_of_le zu hb.size
            replace r0 := bC hb r0 zr
            replace r1 := bC hb r1 zr
            replace r2 := bC hb r2 zr
            replace r3 := bC hb r3 zr
            replace r4 := bC hb r4 zr
            replace fr0 := bF hb fr0 zr
            replace fr1 := bF hb fr1 zr
            replace fr2 := bF hb fr2 zr
            replace fr3 := bF hb fr3 zr
            replace fr4 := bF hb fr4 zr
            replace zr := Nat.lt_of_lt_of_le zr hb.size
            replace s0 := bC hb s0 zs
            replace s1 := bC hb s1 zs
            replace zs := Nat.lt_of_lt_of_le zs hb.size
            replace HB := hide (HB.out.trans (hb.mono HB.out.size))
            clear hb
            go_wp2_with fail
            refine (H1.out v1 HB.out).mono ?_
            rintro e v2 ⟨rfl, hb⟩
            clear H1
            replace z0 := bC hb z0 zz
            replace z1 := bC hb z1 zz
            replace z2 := bC hb z2 zz
            replace z3 := bC hb z3 zz
            replace z4 := bC hb z4 zz
            replace fz0 := bF hb fz0 zz
            replace fz1 := bF hb fz1 zz
            replace fz2 := bF hb fz2 zz
            replace fz3 := bF hb fz3 zz
            replace fz4 := bF hb fz4 zz
            replace zz := Nat.lt_of_lt_of_le zz hb.size
            replace u0 := bC hb u0 zu
            replace u1 := bC hb u1 zu
            replace u2 := bC hb u2 zu
            replace u3 := bC hb u3 zu
            replace u4 := bC hb u4 zu
            replace u5 := bC hb u5 zu
            replace u6 := bC hb u6 zu
            replace u7 := bC hb u7 zu
            replace zu := Nat.lt_of_lt_of_le zu hb.size
            replace r0 := bC hb r0 zr
            replace r1 := bC hb r1 zr
            replace r2 := bC hb r2 zr
            replace r3 := bC hb r3 zr
            replace r4 := bC hb r4 zr
            replace fr0 := bF hb fr0 zr
            replace fr1 := bF hb fr1 zr
            replace fr2 := bF hb fr2 zr
            replace fr3 := bF hb fr3 zr
            replace fr4 := bF hb fr4 zr
            replace zr := Nat.lt_of_lt_of_le zr hb.size
            replace s0 := bC hb s0 zs
            replace s1 := bC hb s1 zs
            replace zs := Nat.lt_of_lt_of_le zs hb.size
            replace HB := hide (HB.out.trans (hb.mono HB.out.size))
            clear hb
            obtain ⟨W4, hW4⟩ : ∃ W, (v2.alloc (.cells #[.bool q.u, .int .i64 q.a, .int .i64 q.p, .int .i64 q.v, .int .i64 q.t] 95)) = W := ⟨_, rfl⟩
            have hb_W4 : Below v2.heap.size v2 W4 := by rw [← hW4]; exact ((Below.refl _ _).alloc (Nat.le_refl _) _)
            replace z0 := bC hb_W4 z0 zz
            replace z1 := bC hb_W4 z1 zz
            replace z2 := bC hb_W4 z2 zz
            replace z3 := bC hb_W4 z3 zz
            replace z4 := bC hb_W4 z4 zz
            replace fz0 := bF hb_W4 fz0 zz
            replace fz1 := bF hb_W4 fz1 zz
            replace fz2 := bF hb_W4 fz2 zz
            replace fz3 := bF hb_W4 fz3 zz
            replace fz4 := bF hb_W4 fz4 zz
            replace zz := Nat.lt_of_lt_of_le zz hb_W4.size
            replace u0 := bC hb_W4 u0 zu
            replace u1 := bC hb_W4 u1 zu
            replace u2 := bC hb_W4 u2 zu
            replace u3 := bC hb_W4 u3 zu
            replace u4 := bC hb_W4 u4 zu
            replace u5 := bC hb_W4 u5 zu
            replace u6 := bC hb_W4 u6 zu
            replace u7 := bC hb_W4 u7 zu
            replace zu := Nat.lt_of_lt_of_le zu hb_W4.size
            replace r0 := bC hb_W4 r0 zr
            replace r1 := bC hb_W4 r1 zr
            replace r2 := bC hb_W4 r2 zr
            replace r3 := bC hb_W4 r3 zr
            replace r4 := bC hb_W4 r4 zr
            replace fr0 := bF hb_W4 fr0 zr
            replace fr1 := bF hb_W4 fr1 zr
            replace fr2 := bF hb_W4 fr2 zr
            replace fr3 := bF hb_W4 fr3 zr
            replace fr4 := bF hb_W4 fr4 zr
            replace zr := Nat.lt_of_lt_of_le zr hb_W4.size
            replace s0 := bC hb_W4 s0 zs
            replace s1 := bC hb_W4 s1 zs
            replace zs := Nat.lt_of_lt_of_le zs hb_W4.size
            replace HB := hide (HB.out.trans (hb_W4.mono HB.out.size))
            clear hb_W4
            have zy : v2.heap.size < W4.heap.size := by rw [← hW4]; simp
            have y0 : W4.cell? ⟨v2.heap.size, 0, none⟩ = some (.bool q.u) := by rw [← hW4]; simp [go_sem]
            have y1 : W4.cell? ⟨v2.heap.size, 1, none⟩ = some (.int .i64 q.a) := by rw [← hW4]; simp [go_sem]
            have y2 : W4.cell? ⟨v2.heap.size, 2, none⟩ = some (.int .i64 q.p) := by rw [← hW4]; simp [go_sem]
            have y3 : W4.cell? ⟨v2.heap.size, 3, none⟩ = some (.int .i64 q.v) := by rw [← hW4]; simp [go_sem]
            have y4 : W4.cell? ⟨v2.heap.size, 4, none⟩ = some (.int .i64 q.t) := by rw [← hW4]; simp [go_sem]
            have hlb2 := HLB.out
            go_wp2
            refine bodyPost_ret (v := .tuple #[agt m.id m.lim m.dr (.slice (some ⟨bc, fc, none⟩) m.c.length cc) (.slice (some ⟨bt, ft, none⟩) m.t.length ct), .int .i64 3]) (by simp [results, Tryz.results21, go_sem, r0, r1, r2, r3, r4]) rfl ⟨bc, fc, cc, bt, ft, ct, by rw [HVl.out], by simp; omega, by simp; omega, ?_, ?_, ?_, by omega, by omega⟩
            · rw [HCl.out]
              exact (HC.out.kept HB.out zc).step (stp_set5v W4 (w.heap.size + 1 + 1) (.int .i64 m.id) (.int .i64 m.lim) (.bool m.dr) (.slice (some ⟨bc, fc, none⟩) m.c.length cc) (.slice (some ⟨bt, ft, none⟩) m.t.length ct)) (by have := HB.out.size; omega) (.inl (by omega))
            · rw [HTl.out]
              exact (HT.out.kept HB.out zt).step (stp_set5v W4 (w.heap.size + 1 + 1) (.int .i64 m.id) (.int .i64 m.lim) (.bool m.dr) (.slice (some ⟨bc, fc, none⟩) m.c.length cc) (.slice (some ⟨bt, ft, none⟩) m.t.length ct)) (by have := HB.out.size; omega) (.inl (by omega))
            · exact below_set5v HB.out (by omega) _ _ _ _ _
    | true =>
      by_cases hold : 10 < now - st
      · skip
        have HVl := hide (HV.out.trans ((if_pos rfl).trans (if_pos ⟨rfl, hold⟩)))
        have HCl := hide (HHC.out.trans ((if_pos rfl).trans (if_pos ⟨rfl, hold⟩)))
        have HTl := hide (HHT.out.trans ((if_pos rfl).trans (if_pos ⟨rfl, hold⟩)))
        clear HV HHC HHT H1
        have hold' : now - st > 10 := hold
        go_enter Tryz.func21, Tryz.ntmps21
        have u5w := u5
        have u6w := u6
        obtain ⟨Ws, hWs⟩ : ∃ W, (W0.alloc (.cells #[.int .i64 m.id, .int .i64 sf] 93)) = W := ⟨_, rfl⟩
        have hb_Ws : Below W0.heap.size W0 Ws := by rw [← hWs]; exact ((Below.refl _ _).alloc (Nat.le_refl _) _)
        replace z0 := bC hb_Ws z0 zz
        replace z1 := bC hb_Ws z1 zz
        replace z2 := bC hb_Ws z2 zz
        replace z3 := bC hb_Ws z3 zz
        replace z4 := bC hb_Ws z4 zz
        replace fz0 := bF hb_Ws fz0 zz
        replace fz1 := bF hb_Ws fz1 zz
        replace fz2 := bF hb_Ws fz2 zz
        replace fz3 := bF hb_Ws fz3 zz
        replace fz4 := bF hb_Ws fz4 zz
        replace zz := Nat.lt_of_lt_of_le zz hb_Ws.size
        replace u0 := bC hb_Ws u0 zu
        replace u1 := bC hb_Ws u1 zu
        replace u2 := bC hb_Ws u2 zu
        replace u3 := bC hb_Ws u3 zu
        replace u4 := bC hb_Ws u4 zu
        replace u5 := bC hb_Ws u5 zu
        replace u6 := bC hb_Ws u6 zu
        replace u7 := bC hb_Ws u7 zu
        replace zu := Nat.lt_of_lt_of_le zu hb_Ws.size
        replace r0 := bC hb_Ws r0 zr
        replace r1 := bC hb_Ws r1 zr
        replace r2 := bC hb_Ws r2 zr
        replace r3 := bC hb_Ws r3 zr
        replace r4 := bC hb_Ws r4 zr
        replace fr0 := bF hb_Ws fr0 zr
        replace fr1 := bF hb_Ws fr1 zr
        replace fr2 := bF hb_Ws fr2 zr
        replace fr3 := bF hb_Ws fr3 zr
        replace fr4 := bF hb_Ws fr4 zr
        replace zr := Nat.lt_of_lt_of_le zr hb_Ws.size
        replace HB := hide (HB.out.trans (hb_Ws.mono HB.out.size))
        clear hb_Ws
        have zs : W0.heap.size < Ws.heap.size := by rw [← hWs]; simp
        have s0 : Ws.cell? ⟨W0.heap.size, 0, none⟩ = some (.int .i64 m.id) := by rw [← hWs]; simp [go_sem]
        have s1 : Ws.cell? ⟨W0.heap.size, 1, none⟩ = some (.int .i64 sf) := by rw [← hWs]; simp [go_sem]
        go_wp2_with fail
        refine (H0.out _).mono ?_
        rintro e v1 ⟨rfl, hb⟩
        clear H0
        replace z0 := bC hb z0 zz
        replace z1 := bC hb z1 zz
        replace z2 := bC hb z2 zz
        replace z3 := bC hb z3 zz
        replace z4 := bC hb z4 zz
        replace fz0 := bF hb fz0 zz
        replace fz1 := bF hb fz1 zz
        replace fz2 := bF hb fz2 zz
        replace fz3 := bF hb fz3 zz
        replace fz4 := bF hb fz4 zz
        replace zz := Nat.lt_of_lt_of_le zz hb.size
        replace u0 := bC hb u0 zu
        replace u1 := bC hb u1 zu
        replace u2 := bC hb u2 zu
        replace u3 := bC hb u3 zu
        replace u4 := bC hb u4 zu
        replace u5 := bC hb u5 zu
        replace u6 := bC hb u6 zu
        replace u7 := bC hb u7 zu
        replace zu := Nat.lt_of_lt_of_le zu hb.size
        replace r0 := bC hb r0 zr
        replace r1 := bC hb r1 zr
        replace r2 := bC hb r2 zr
        replace r3 := bC hb r3 zr
        replace r4 := bC hb r4 zr
        replace fr0 := bF hb fr0 zr
        replace fr1 := bF hb fr1 zr
        replace fr2 := bF hb fr2 zr
        replace fr3 := bF hb fr3 zr
        replace fr4 := bF hb fr4 zr
        replace zr := Nat.lt_of_lt_of_le zr hb.size
        replace s0 := bC hb s0 zs
        replace s1 := bC hb s1 zs
        replace zs := Nat.lt_of_lt_of_le zs hb.size
        replace HB := hide (HB.out.trans (hb.mono HB.out.size))
        clear hb
        go_wp2
        refine bodyPost_ret (v := .tuple #[agt m.id m.lim m.dr (.slice (some ⟨bc, fc, none⟩) m.c.length cc) (.slice (some ⟨bt, ft, none⟩) m.t.length ct), .int .i64 4]) (by simp [results, Tryz.results21, go_sem, r0, r1, r2, r3, r4]) rfl ⟨bc, fc, cc, bt, ft, ct, by rw [HVl.out], by simp; omega, by simp; omega, ?_, ?_, ?_, by omega, by omega⟩
        · rw [HCl.out]
          exact (HC.out.kept HB.out zc).step (stp_set5v v1 (w.heap.size + 1 + 1) (.int .i64 m.id) (.int .i64 m.lim) (.bool m.dr) (.slice (some ⟨bc, fc, none⟩) m.c.length cc) (.slice (some ⟨bt, ft, none⟩) m.t.length ct)) (by have := HB.out.size; omega) (.inl (by omega))
        · rw [HTl.out]
          exact (HT.out.kept HB.out zt).step (stp_set5v v1 (w.heap.size + 1 + 1) (.int .i64 m.id) (.int .i64 m.lim) (.bool m.dr) (.slice (some ⟨bc, fc, none⟩) m.c.length cc) (.slice (some ⟨bt, ft, none⟩) m.t.length ct)) (by have := HB.out.size; omega) (.inl (by omega))
        · exact below_set5v HB.out (by omega) _ _ _ _ _
      · skip
        have HV2 := hide (HV.out.trans ((if_pos rfl).trans (if_neg (fun h => hold h.2))))
        have HC2 := hide (HHC.out.trans ((if_pos rfl).trans (if_neg (fun h => hold h.2))))
        have HT2 := hide (HHT.out.trans ((if_pos rfl).trans (if_neg (fun h => hold h.2))))
        clear HV HHC HHT
        have hold' : ¬ (now - st > 10) := hold
        cases has with
        | true =>
          have HVl := hide (HV2.out.trans (if_pos rfl))
          have HCl := hide (HC2.out.trans (if_pos rfl))
          have HTl := hide (HT2.out.trans (if_pos rfl))
          clear HV2 HC2 HT2
          go_enter Tryz.func21, Tryz.ntmps21
          have u5w := u5
          have u6w := u6
          obtain ⟨Ws, hWs⟩ : ∃ W, (W0.alloc (.cells #[.int .i64 m.id, .int .i64 sf] 93)) = W := ⟨_, rfl⟩
          have hb_Ws : Below W0.heap.size W0 Ws := by rw [← hWs]; exact ((Below.refl _ _).alloc (Nat.le_refl _) _)
          replace z0 := bC hb_Ws z0 zz
          replace z1 := bC hb_Ws z1 zz
          replace z2 := bC hb_Ws z2 zz
          replace z3 := bC hb_Ws z3 zz
          replace z4 := bC hb_Ws z4 zz
          replace fz0 := bF hb_Ws fz0 zz
          replace fz1 := bF hb_Ws fz1 zz
          replace fz2 := bF hb_Ws fz2 zz
          replace fz3 := bF hb_Ws fz3 zz
          replace fz4 := bF hb_Ws fz4 zz
          replace zz := Nat.lt_of_lt_of_le zz hb_Ws.size
          replace u0 := bC hb_Ws u0 zu
          replace u1 := bC hb_Ws u1 zu
          replace u2 := bC hb_Ws u2 zu
          replace u3 := bC hb_Ws u3 zu
          replace u4 := bC hb_Ws u4 zu
          replace u5 := bC hb_Ws u5 zu
          replace u6 := bC hb_Ws u6 zu
          replace u7 := bC hb_Ws u7 zu
          replace zu := Nat.lt_of_lt_of_le zu hb_Ws.size
          replace r0 := bC hb_Ws r0 zr
          replace r1 := bC hb_Ws r1 zr
          replace r2 := bC hb_Ws r2 zr
          replace r3 := bC hb_Ws r3 zr
          replace r4 := bC hb_Ws r4 zr
          replace fr0 := bF hb_Ws fr0 zr
          replace fr1 := bF hb_Ws fr1 zr
          replace fr2 := bF hb_Ws fr2 zr
          replace fr3 := bF hb_Ws fr3 zr
          replace fr4 := bF hb_Ws fr4 zr
          replace zr := Nat.lt_of_lt_of_le zr hb_Ws.size
          replace HB := hide (HB.out.trans (hb_Ws.mono HB.out.size))
          clear hb_Ws
          have zs : W0.heap.size < Ws.heap.size := by rw [← hWs]; simp
          have s0 : Ws.cell? ⟨W0.heap.size, 0, none⟩ = some (.int .i64 m.id) := by rw [← hWs]; simp [go_sem]
          have s1 : Ws.cell? ⟨W0.heap.size, 1, none⟩ = some (.int .i64 sf) := by rw [← hWs]; simp [go_sem]
          go_wp2_with fail
          refine (H0.out _).mono ?_
          rintro e v1 ⟨rfl, hb⟩
          clear H0
          replace z0 := bC hb z0 zz
          replace z1 := bC hb z1 zz
          replace z2 := bC hb z2 zz
          replace z3 := bC hb z3 zz
          replace z4 := bC hb z4 zz
          replace fz0 := bF hb fz0 zz
          replace fz1 := bF hb fz1 zz
          replace fz2 := bF hb fz2 zz
          replace fz3 := bF hb fz3 zz
          replace fz4 := bF hb fz4 zz
          replace zz := Nat.lt_of_lt_of_le zz hb.size
          replace u0 := bC hb u0 zu
          replace u1 := bC hb u1 zu
          replace u2 := bC hb u2 zu
          replace u3 := bC hb u3 zu
          replace u4 := bC hb u4 zu
          replace u5 := bC hb u5 zu
          replace u6 := bC hb u6 zu
          replace u7 := bC hb u7 zu
          replace zu := Nat.lt_of_lt_of_le zu hb.size
          replace r0 := bC hb r0 zr
          replace r1 := bC hb r1 zr
          replace r2 := bC hb r2 zr
          replace r3 := bC hb r3 zr
          replace r4 := bC hb r4 zr
          replace fr0 := bF hb fr0 zr
          replace fr1 := bF hb fr1 zr
          replace fr2 := bF hb fr2 zr
          replace fr3 := bF hb fr3 zr
          replace fr4 := bF hb fr4 zr
          replace zr := Nat.lt_of_lt_of_le zr hb.size
          replace s0 := bC hb s0 zs
          replace s1 := bC hb s1 zs
          replace zs := Nat.lt_of_lt_of_le zs hb.size
          replace HB := hide (HB.out.trans (hb.mono HB.out.size))
          clear hb
          go_wp2_with fail
          refine (H1.out v1 HB.out).mono ?_
          rintro e v2 ⟨rfl, hb⟩
          clear H1
          replace z0 := bC hb z0 zz
          replace z1 := bC hb z1 zz
          replace z2 := bC hb z2 zz
          replace z3 := bC hb z3 zz
          replace z4 := bC hb z4 zz
          replace fz0 := bF hb fz0 zz
          replace fz1 := bF hb fz1 zz
          replace fz2 := bF hb fz2 zz
          replace fz3 := bF hb fz3 zz
          replace fz4 := bF hb fz4 zz
          replace zz := Nat.lt_of_lt_of_le zz hb.size
          replace u0 := bC hb u0 zu
          replace u1 := bC hb u1 zu
          replace u2 := bC hb u2 zu
          replace u3 := bC hb u3 zu
          replace u4 := bC hb u4 zu
          replace u5 := bC hb u5 zu
          replace u6 := bC hb u6 zu
          replace u7 := bC hb u7 zu
          replace zu := Nat.lt_of_lt_of_le zu hb.size
          replace r0 := bC hb r0 zr
          replace r1 := bC hb r1 zr
          replace r2 := bC hb r2 zr
          replace r3 := bC hb r3 zr
          replace r4 := bC hb r4 zr
          replace fr0 := bF hb fr0 zr
          replace fr1 := bF hb fr1 zr
          replace fr2 := bF hb fr2 zr
          replace fr3 := bF hb fr3 zr
          replace fr4 := bF hb fr4 zr
          replace zr := Nat.lt_of_lt_of_le zr hb.size
          replace s0 := bC hb s0 zs
          replace s1 := bC hb s1 zs
          replace zs := Nat.lt_of_lt_of_le zs hb.size
          replace HB := hide (HB.out.trans (hb.mono HB.out.size))
          clear hb
          obtain ⟨W4, hW4⟩ : ∃ W, (v2.alloc (.cells #[.bool q.u, .int .i64 q.a, .int .i64 q.p, .int .i64 q.v, .int .i64 q.t] 95)) = W := ⟨_, rfl⟩
          have hb_W4 : Below v2.heap.size v2 W4 := by rw [← hW4]; exact ((Below.refl _ _).alloc (Nat.le_refl _) _)
          replace z0 := bC hb_W4 z0 zz
          replace z1 := bC hb_W4 z1 zz
          replace z2 := bC hb_W4 z2 zz
          replace z3 := bC hb_W4 z3 zz
          replace z4 := bC hb_W4 z4 zz
          replace fz0 := bF hb_W4 fz0 zz
          replace fz1 := bF hb_W4 fz1 zz
          replace fz2 := bF hb_W4 fz2 zz
          replace fz3 := bF hb_W4 fz3 zz
          replace fz4 := bF hb_W4 fz4 zz
          replace zz := Nat.lt_of_lt_of_le zz hb_W4.size
          replace u0 := bC hb_W4 u0 zu
          replace u1 := bC hb_W4 u1 zu
          replace u2 := bC hb_W4 u2 zu
          replace u3 := bC hb_W4 u3 zu
          replace u4 := bC hb_W4 u4 zu
          replace u5 := bC hb_W4 u5 zu
          replace u6 := bC hb_W4 u6 zu
          replace u7 := bC hb_W4 u7 zu
          replace zu := Nat.lt_of_lt_of_le zu hb_W4.size
          replace r0 := bC hb_W4 r0 zr
          replace r1 := bC hb_W4 r1 zr
          replace r2 := bC hb_W4 r2 zr
          replace r3 := bC hb_W4 r3 zr
          replace r4 := bC hb_W4 r4 zr
          replace fr0 := bF hb_W4 fr0 zr
          replace fr1 := bF hb_W4 fr1 zr
          replace fr2 := bF hb_W4 fr2 zr
          replace fr3 := bF hb_W4 fr3 zr
          replace fr4 := bF hb_W4 fr4 zr
          replace zr := Nat.lt_of_lt_of_le zr hb_W4.size
          replace s0 := bC hb_W4 s0 zs
          replace s1 := bC hb_W4 s1 zs
          replace zs := Nat.lt_of_lt_of_le zs hb_W4.size
          replace HB := hide (HB.out.trans (hb_W4.mono HB.out.size))
          clear hb_W4
          have zy : v2.heap.size < W4.heap.size := by rw [← hW4]; simp
          have y0 : W4.cell? ⟨v2.heap.size, 0, none⟩ = some (.bool q.u) := by rw [← hW4]; simp [go_sem]
          have y1 : W4.cell? ⟨v2.heap.size, 1, none⟩ = some (.int .i64 q.a) := by rw [← hW4]; simp [go_sem]
          have y2 : W4.cell? ⟨v2.heap.size, 2, none⟩ = some (.int .i64 q.p) := by rw [← hW4]; simp [go_sem]
          have y3 : W4.cell? ⟨v2.heap.size, 3, none⟩ = some (.int .i64 q.v) := by rw [← hW4]; simp [go_sem]
          have y4 : W4.cell? ⟨v2.heap.size, 4, none⟩ = some (.int .i64 q.t) := by rw [← hW4]; simp [go_sem]
          have hrz := zr
          have hsc := HB.out.size
          have H3 := hide (l6take_any m bc fc cc bt ft ct now a p f s o n cp W4 hn0 hn1 hfl hc0 hc16 ht0 ht16 (by omega) (by omega) (HC.out.kept HB.out zc) (HT.out.kept HB.out zt) hok)
          go_wp2_with fail
          refine (H3.out).mono ?_
          rintro e v3 ⟨b2, f2, c2, b3, f3, c3, rfl, hz2, hz3, hrc, hrt, hb, hq2, hq3⟩
          have HRc := hide hrc
          have HRt := hide hrt
          have hs3 := hb.size
          clear hrc hrt H3
          replace z0 := bC hb z0 zz
          replace z1 := bC hb z1 zz
          replace z2 := bC hb z2 zz
          replace z3 := bC hb z3 zz
          replace z4 := bC hb z4 zz
          replace fz0 := bF hb fz0 zz
          replace fz1 := bF hb fz1 zz
          replace fz2 := bF hb fz2 zz
          replace fz3 := bF hb fz3 zz
          replace fz4 := bF hb fz4 zz
          replace zz := Nat.lt_of_lt_of_le zz hb.size
          replace u0 := bC hb u0 zu
          replace u1 := bC hb u1 zu
          replace u2 := bC hb u2 zu
          replace u3 := bC hb u3 zu
          replace u4 := bC hb u4 zu
          replace u5 := bC hb u5 zu
          replace u6 := bC hb u6 zu
          replace u7 := bC hb u7 zu
          replace zu := Nat.lt_of_lt_of_le zu hb.size
          replace r0 := bC hb r0 zr
          replace r1 := bC hb r1 zr
          replace r2 := bC hb r2 zr
          replace r3 := bC hb r3 zr
          replace r4 := bC hb r4 zr
          replace fr0 := bF hb fr0 zr
          replace fr1 := bF hb fr1 zr
          replace fr2 := bF hb fr2 zr
          replace fr3 := bF hb fr3 zr
          replace fr4 := bF hb fr4 zr
          replace zr := Nat.lt_of_lt_of_le zr hb.size
          replace s0 := bC hb s0 zs
          replace s1 := bC hb s1 zs
          replace zs := Nat.lt_of_lt_of_le zs hb.size
          replace y0 := bC hb y0 zy
          replace y1 := bC hb y1 zy
          replace y2 := bC hb y2 zy
          replace y3 := bC hb y3 zy
          replace y4 := bC hb y4 zy
          replace zy := Nat.lt_of_lt_of_le zy hb.size
          replace HB := hide (HB.out.trans (hb.mono HB.out.size))
          clear hb
          go_wp2
          refine bodyPost_ret (v := .tuple #[agt m.id m.lim m.dr (.slice (some ⟨b2, f2, none⟩) m.c.length c2) (.slice (some ⟨b3, f3, none⟩) m.t.length c3), .int .i64 0]) (by simp [results, Tryz.results21, go_sem, r0, r1, r2, r3, r4]) rfl ⟨b2, f2, c2, b3, f3, c3, by rw [HVl.out], by simp; omega, by simp; omega, ?_, ?_, ?_, by omega, by omega⟩
          · rw [HCl.out]
            exact Row.step HRc.out (stp_set5v v3 (w.heap.size + 1 + 1) (.int .i64 m.id) (.int .i64 m.lim) (.bool m.dr) (.slice (some ⟨b2, f2, none⟩) m.c.length c2) (.slice (some ⟨b3, f3, none⟩) m.t.length c3)) hz2 (by omega)
          · rw [HTl.out]
            exact Row.step HRt.out (stp_set5v v3 (w.heap.size + 1 + 1) (.int .i64 m.id) (.int .i64 m.lim) (.bool m.dr) (.slice (some ⟨b2, f2, none⟩) m.c.length c2) (.slice (some ⟨b3, f3, none⟩) m.t.length c3)) hz3 (by omega)
          · exact below_set5v HB.out (by omega) _ _ _ _ _
        | false =>
          have HV3 := hide (HV2.out.trans (if_neg (by decide)))
          have HC3 := hide (HC2.out.trans (if_neg (by decide)))
          have HT3 := hide (HT2.out.trans (if_neg (by decide)))
          clear HV2 HC2 HT2
          cases lb with
          | false =>
            have hlb' : ¬ ((k : Int) = (gl : Int) - 1) := of_decide_eq_false hlb
            have HLB := hide hlb'
            clear hlb'
            by_cases hsf : sf = 1
            · have HVl := hide (HV3.out.trans (if_pos hsf))
              have HCl := hide (HC3.out.trans (if_pos hsf))
              have HTl := hide (HT3.out.trans (if_pos hsf))
              clear HV3 HC3 HT3
              subst hsf
              go_enter Tryz.func21, Tryz.ntmps21
              have u5w := u5
              have u6w := u6
              obtain ⟨Ws, hWs⟩ : ∃ W, (W0.alloc (.cells #[.int .i64 m.id, .int .i64 1] 93)) = W := ⟨_, rfl⟩
              have hb_Ws : Below W0.heap.size W0 Ws := by rw [← hWs]; exact ((Below.refl _ _).alloc (Nat.le_refl _) _)
              replace z0 := bC hb_Ws z0 zz
              replace z1 := bC hb_Ws z1 zz
              replace z2 := bC hb_Ws z2 zz
              replace z3 := bC hb_Ws z3 zz
              replace z4 := bC hb_Ws z4 zz
              replace fz0 := bF hb_Ws fz0 zz
              replace fz1 := bF hb_Ws fz1 zz
              replace fz2 := bF hb_Ws fz2 zz
              replace fz3 := bF hb_Ws fz3 zz
              replace fz4 := bF hb_Ws fz4 zz
              replace zz := Nat.lt_of_lt_of_le zz hb_Ws.size
              replace u0 := bC hb_Ws u0 zu
              replace u1 := bC hb_Ws u1 zu
              replace u2 := bC hb_Ws u2 zu
              replace u3 := bC hb_Ws u3 zu
              replace u4 := bC hb_Ws u4 zu
              replace u5 := bC hb_Ws u5 zu
              replace u6 := bC hb_Ws u6 zu
              replace u7 := bC hb_Ws u7 zu
              replace zu := Nat.lt_of_lt_of_le zu hb_Ws.size
              replace r0 := bC hb_Ws r0 zr
              replace r1 := bC hb_Ws r1 zr
              replace r2 := bC hb_Ws r2 zr
              replace r3 := bC hb_Ws r3 zr
              replace r4 := bC hb_Ws r4 zr
              replace fr0 := bF hb_Ws fr0 zr
              replace fr1 := bF hb_Ws fr1 zr
              replace fr2 := bF hb_Ws fr2 zr
              replace fr3 := bF hb_Ws fr3 zr
              replace fr4 := bF hb_Ws fr4 zr
              replace zr := Nat.lt_of_lt_of_le zr hb_Ws.size
              replace HB := hide (HB.out.trans (hb_Ws.mono HB.out.size))
              clear hb_Ws
              have zs : W0.heap.size < Ws.heap.size := by rw [← hWs]; simp
              have s0 : Ws.cell? ⟨W0.heap.size, 0, none⟩ = some (.int .i64 m.id) := by rw [← hWs]; simp [go_sem]
              have s1 : Ws.cell? ⟨W0.heap.size, 1, none⟩ = some (.int .i64 1) := by rw [← hWs]; simp [go_sem]
              go_wp2_with fail
              refine (H0.out _).mono ?_
              rintro e v1 ⟨rfl, hb⟩
              clear H0
              replace z0 := bC hb z0 zz
              replace z1 := bC hb z1 zz
              replace z2 := bC hb z2 zz
              replace z3 := bC hb z3 zz
              replace z4 := bC hb z4 zz
              replace fz0 := bF hb fz0 zz
              replace fz1 := bF hb fz1 zz
              replace fz2 := bF hb fz2 zz
              replace fz3 := bF hb fz3 zz
              replace fz4 := bF hb fz4 zz
              replace zz := Nat.lt_of_lt_of_le zz hb.size
              replace u0 := bC hb u0 zu
              replace u1 := bC hb u1 zu
              replace u2 := bC hb u2 zu
              replace u3 := bC hb u3 zu
              replace u4 := bC hb u4 zu
              replace u5 := bC hb u5 zu
              replace u6 := bC hb u6 zu
              replace u7 := bC hb u7 zu
              replace zu := Nat.lt_of_lt_of_le zu hb.size
              replace r0 := bC hb r0 zr
              replace r1 := bC hb r1 zr
              replace r2 := bC hb r2 zr
              replace r3 := bC hb r3 zr
              replace r4 := bC hb r4 zr
              replace fr0 := bF hb fr0 zr
              replace fr1 := bF hb fr1 zr
              replace fr2 := bF hb fr2 zr
              replace fr3 := bF hb fr3 zr
              replace fr4 := bF hb fr4 zr
              replace zr := Nat.lt_of_lt_of_le zr hb.size
              replace s0 := bC hb s0 zs
              replace s1 := bC hb s1 zs
              replace zs := Nat.lt_of_lt_of_le zs hb.size
              replace HB := hide (HB.out.trans (hb.mono HB.out.size))
              clear hb
              go_wp2_with fail
              refine (H1.out v1 HB.out).mono ?_
              rintro e v2 ⟨rfl, hb⟩
              clear H1
              replace z0 := bC hb z0 zz
              replace z1 := bC hb z1 zz
              replace z2 := bC hb z2 zz
              replace z3 := bC hb z3 zz
              replace z4 := bC hb z4 zz
              replace fz0 := bF hb fz0 zz
              replace fz1 := bF hb fz1 zz
              replace fz2 := bF hb fz2 zz
              replace fz3 := bF hb fz3 zz
              replace fz4 := bF hb fz4 zz
              replace zz := Nat.lt_of_lt_of_le zz hb.size
              replace u0 := bC hb u0 zu
              replace u1 := bC hb u1 zu
              replace u2 := bC hb u2 zu
              replace u3 := bC hb u3 zu
              replace u4 := bC hb u4 zu
              replace u5 := bC hb u5 zu
              replace u6 := bC hb u6 zu
              replace u7 := bC hb u7 zu
              replace zu := Nat.lt_of_lt_of_le zu hb.size
              replace r0 := bC hb r0 zr
              replace r1 := bC hb r1 zr
              replace r2 := bC hb r2 zr
              replace r3 := bC hb r3 zr
              replace r4 := bC hb r4 zr
              replace fr0 := bF hb fr0 zr
              replace fr1 := bF hb fr1 zr
              replace fr2 := bF hb fr2 zr
              replace fr3 := bF hb fr3 zr
              replace fr4 := bF hb fr4 zr
              replace zr := Nat.lt_of_lt_of_le zr hb.size
              replace s0 := bC hb s0 zs
              replace s1 := bC hb s1 zs
              replace zs := Nat.lt_of_lt_of_le zs hb.size
              replace HB := hide (HB.out.trans (hb.mono HB.out.size))
              clear hb
              obtain ⟨W4, hW4⟩ : ∃ W, (v2.alloc (.cells #[.bool q.u, .int .i64 q.a, .int .i64 q.p, .int .i64 q.v, .int .i64 q.t] 95)) = W := ⟨_, rfl⟩
              have hb_W4 : Below v2.heap.size v2 W4 := by rw [← hW4]; exact ((Below.refl _ _).alloc (Nat.le_refl _) _)
              replace z0 := bC hb_W4 z0 zz
              replace z1 := bC hb_W4 z1 zz
              replace z2 := bC hb_W4 z2 zz
              replace z3 := bC hb_W4 z3 zz
              replace z4 := bC hb_W4 z4 zz
              replace fz0 := bF hb_W4 fz0 zz
              replace fz1 := bF hb_W4 fz1 zz
              replace fz2 := bF hb_W4 fz2 zz
              replace fz3 := bF hb_W4 fz3 zz
              replace fz4 := bF hb_W4 fz4 zz
              replace zz := Nat.lt_of_lt_of_le zz hb_W4.size
              replace u0 := bC hb_W4 u0 zu
              replace u1 := bC hb_W4 u1 zu
              replace u2 := bC hb_W4 u2 zu
              replace u3 := bC hb_W4 u3 zu
              replace u4 := bC hb_W4 u4 zu
              replace u5 := bC hb_W4 u5 zu
              replace u6 := bC hb_W4 u6 zu
              replace u7 := bC hb_W4 u7 zu
              replace zu := Nat.lt_of_lt_of_le zu hb_W4.size
              replace r0 := bC hb_W4 r0 zr
              replace r1 := bC hb_W4 r1 zr
              replace r2 := bC hb_W4 r2 zr
              replace r3 := bC hb_W4 r3 zr
              replace r4 := bC hb_W4 r4 zr
              replace fr0 := bF hb_W4 fr0 zr
              replace fr1 := bF hb_W4 fr1 zr
              replace fr2 := bF hb_W4 fr2 zr
              replace fr3 := bF hb_W4 fr3 zr
              replace fr4 := bF hb_W4 fr4 zr
              replace zr := Nat.lt_of_lt_of_le zr hb_W4.size
              replace s0 := bC hb_W4 s0 zs
              replace s1 := bC hb_W4 s1 zs
              replace zs := Nat.lt_of_lt_of_le zs hb_W4.size
              replace HB := hide (HB.out.trans (hb_W4.mono HB.out.size))
              clear hb_W4
              have zy : v2.heap.size < W4.heap.size := by rw [← hW4]; simp
              have y0 : W4.cell? ⟨v2.heap.size, 0, none⟩ = some (.bool q.u) := by rw [← hW4]; simp [go_sem]
              have y1 : W4.cell? ⟨v2.heap.size, 1, none⟩ = some (.int .i64 q.a) := by rw [← hW4]; simp [go_sem]
              have y2 : W4.cell? ⟨v2.heap.size, 2, none⟩ = some (.int .i64 q.p) := by rw [← hW4]; simp [go_sem]
              have y3 : W4.cell? ⟨v2.heap.size, 3, none⟩ = some (.int .i64 q.v) := by rw [← hW4]; simp [go_sem]
              have y4 : W4.cell? ⟨v2.heap.size, 4, none⟩ = some (.int .i64 q.t) := by rw [← hW4]; simp [go_sem]
              have hlb2 := HLB.out
              have hlb3 : ((k : Int) == (gl : Int) - 1) = false := beq_eq_false_iff_ne.2 hlb2
              have hrz := zr
              have hsc := HB.out.size
              have H3 := hide (l6hunt_any m bc fc cc bt ft ct now a p f s o n cp false W4 hn0 hn1 hfl hc0 hc16 ht0 ht16 (by omega) (by omega) (HC.out.kept HB.out zc) (HT.out.kept HB.out zt))
              obtain ⟨hv, hhv⟩ : ∃ q, huntV m a p false = q := ⟨_, rfl⟩
              rw [hhv] at H3 HVl
              clear hhv
              go_wp2_with fail
              refine (H3.out).mono ?_
              rintro e v3 ⟨b2, f2, c2, b3, f3, c3, rfl, hz2, hz3, hrc, hrt, hb, hq2, hq3⟩
              have HRc := hide hrc
              have HRt := hide hrt
              have hs3 := hb.size
              clear hrc hrt H3
              replace z0 := bC hb z0 zz
              replace z1 := bC hb z1 zz
              replace z2 := bC hb z2 zz
              replace z3 := bC hb z3 zz
              replace z4 := bC hb z4 zz
              replace fz0 := bF hb fz0 zz
              replace fz1 := bF hb fz1 zz
              replace fz2 := bF hb fz2 zz
              replace fz3 := bF hb fz3 zz
              replace fz4 := bF hb fz4 zz
              replace zz := Nat.lt_of_lt_of_le zz hb.size
              replace u0 := bC hb u0 zu
              replace u1 := bC hb u1 zu
              replace u2 := bC hb u2 zu
              replace u3 := bC hb u3 zu
              replace u4 := bC hb u4 zu
              replace u5 := bC hb u5 zu
              replace u6 := bC hb u6 zu
              replace u7 := bC hb u7 zu
              replace zu := Nat.lt_of_lt_of_le zu hb.size
              replace r0 := bC hb r0 zr
              replace r1 := bC hb r1 zr
              replace r2 := bC hb r2 zr
              replace r3 := bC hb r3 zr
              replace r4 := bC hb r4 zr
              replace fr0 := bF hb fr0 zr
              replace fr1 := bF hb fr1 zr
              replace fr2 := bF hb fr2 zr
              replace fr3 := bF hb fr3 zr
              replace fr4 := bF hb fr4 zr
              replace zr := Nat.lt_of_lt_of_le zr hb.size
              replace s0 := bC hb s0 zs
              replace s1 := bC hb s1 zs
              replace zs := Nat.lt_of_lt_of_le zs hb.size
              replace y0 := bC hb y0 zy
              replace y1 := bC hb y1 zy
              replace y2 := bC hb y2 zy
              replace y3 := bC hb y3 zy
              replace y4 := bC hb y4 zy
              replace zy := Nat.lt_of_lt_of_le zy hb.size
              replace HB := hide (HB.out.trans (hb.mono HB.out.size))
              clear hb
              go_wp2
              refine bodyPost_ret (v := .tuple #[agt m.id m.lim m.dr (.slice (some ⟨b2, f2, none⟩) m.c.length c2) (.slice (some ⟨b3, f3, none⟩) m.t.length c3), .int .i64 hv]) (by simp [results, Tryz.results21, go_sem, r0, r1, r2, r3, r4]) rfl ⟨b2, f2, c2, b3, f3, c3, by rw [HVl.out], by simp; omega, by simp; omega, ?_, ?_, ?_, by omega, by omega⟩
              · rw [HCl.out]
                exact Row.step HRc.out (stp_set5v v3 (w.heap.size + 1 + 1) (.int .i64 m.id) (.int .i64 m.lim) (.bool m.dr) (.slice (some ⟨b2, f2, none⟩) m.c.length c2) (.slice (some ⟨b3, f3, none⟩) m.t.length c3)) hz2 (by omega)
              · rw [HTl.out]
                exact Row.step HRt.out (stp_set5v v3 (w.heap.size + 1 + 1) (.int .i64 m.id) (.int .i64 m.lim) (.bool m.dr) (.slice (some ⟨b2, f2, none⟩) m.c.length c2) (.slice (some ⟨b3, f3, none⟩) m.t.length c3)) hz3 (by omega)
              · exact below_set5v HB.out (by omega) _ _ _ _ _
            · have HV4 := hide (HV3.out.trans (if_neg hsf))
              have HVl := hide (HV4.out.trans (if_neg (by decide)))
              have HCl := hide (HC3.out.trans (if_neg hsf))
              have HTl := hide (HT3.out.trans (if_neg hsf))
              clear HV3 HC3 HT3 HV4
              go_enter Tryz.func21, Tryz.ntmps21
              have u5w := u5
              have u6w := u6
              obtain ⟨Ws, hWs⟩ : ∃ W, (W0.alloc (.cells #[.int .i64 m.id, .int .i64 sf] 93)) = W := ⟨_, rfl⟩
              have hb_Ws : Below W0.heap.size W0 Ws := by rw [← hWs]; exact ((Below.refl _ _).alloc (Nat.le_refl _) _)
              replace z0 := bC hb_Ws z0 zz
              replace z1 := bC hb_Ws z1 zz
              replace z2 := bC hb_Ws z2 zz
              replace z3 := bC hb_Ws z3 zz
              replace z4 := bC hb_Ws z4 zz
              replace fz0 := bF hb_Ws fz0 zz
              replace fz1 := bF hb_Ws fz1 zz
              replace fz2 := bF hb_Ws fz2 zz
              replace fz3 := bF hb_Ws fz3 zz
              replace fz4 := bF hb_Ws fz4 zz
              replace zz := Nat.lt_of_lt_of_le zz hb_Ws.size
              replace u0 := bC hb_Ws u0 zu
              replace u1 := bC hb_Ws u1 zu
              replace u2 := bC hb_Ws u2 zu
              replace u3 := bC hb_Ws u3 zu
              replace u4 := bC hb_Ws u4 zu
              replace u5 := bC hb_Ws u5 zu
              replace u6 := bC hb_Ws u6 zu
              replace u7 := bC hb_Ws u7 zu
              replace zu := Nat.lt_of_lt_of_le zu hb_Ws.size
              replace r0 := bC hb_Ws r0 zr
              replace r1 := bC hb_Ws r1 zr
              replace r2 := bC hb_Ws r2 zr
              replace r3 := bC hb_Ws r3 zr
              replace r4 := bC hb_Ws r4 zr
              replace fr0 := bF hb_Ws fr0 zr
              replace fr1 := bF hb_Ws fr1 zr
              replace fr2 := bF hb_Ws fr2 zr
              replace fr3 := bF hb_Ws fr3 zr
              replace fr4 := bF hb_Ws fr4 zr
              replace zr := Nat.lt_of_lt_of_le zr hb_Ws.size
              replace HB := hide (HB.out.trans (hb_Ws.mono HB.out.size))
              clear hb_Ws
              have zs : W0.heap.size < Ws.heap.size := by rw [← hWs]; simp
              have s0 : Ws.cell? ⟨W0.heap.size, 0, none⟩ = some (.int .i64 m.id) := by rw [← hWs]; simp [go_sem]
              have s1 : Ws.cell? ⟨W0.heap.size, 1, none⟩ = some (.int .i64 sf) := by rw [← hWs]; simp [go_sem]
              go_wp2_with fail
              refine (H0.out _).mono ?_
              rintro e v1 ⟨rfl, hb⟩
              clear H0
              replace z0 := bC hb z0 zz
              replace z1 := bC hb z1 zz
              replace z2 := bC hb z2 zz
              replace z3 := bC hb z3 zz
              replace z4 := bC hb z4 zz
              replace fz0 := bF hb fz0 zz
              replace fz1 := bF hb fz1 zz
              replace fz2 := bF hb fz2 zz
              replace fz3 := bF hb fz3 zz
              replace fz4 := bF hb fz4 zz
              replace zz := Nat.lt_of_lt_of_le zz hb.size
              replace u0 := bC hb u0 zu
              replace u1 := bC hb u1 zu
              replace u2 := bC hb u2 zu
              replace u3 := bC hb u3 zu
              replace u4 := bC hb u4 zu
              replace u5 := bC hb u5 zu
              replace u6 := bC hb u6 zu
              replace u7 := bC hb u7 zu
              replace zu := Nat.lt_of_lt_of_le zu hb.size
              replace r0 := bC hb r0 zr
              replace r1 := bC hb r1 zr
              replace r2 := bC hb r2 zr
              replace r3 := bC hb r3 zr
              replace r4 := bC hb r4 zr
              replace fr0 := bF hb fr0 zr
              replace fr1 := bF hb fr1 zr
              replace fr2 := bF hb fr2 zr
              replace fr3 := bF hb fr3 zr
              replace fr4 := bF hb fr4 zr
              replace zr := Nat.lt_of_lt_of_le zr hb.size
              replace s0 := bC hb s0 zs
              replace s1 := bC hb s1 zs
              replace zs := Nat.lt_of_lt_of_le zs hb.size
              replace HB := hide (HB.out.trans (hb.mono HB.out.size))
              clear hb
              go_wp2_with fail
              refine (H1.out v1 HB.out).mono ?_
              rintro e v2 ⟨rfl, hb⟩
              clear H1
              replace z0 := bC hb z0 zz
              replace z1 := bC hb z1 zz
              replace z2 := bC hb z2 zz
              replace z3 := bC hb z3 zz
              replace z4 := bC hb z4 zz
              replace fz0 := bF hb fz0 zz
              replace fz1 := bF hb fz1 zz
              replace fz2 := bF hb fz2 zz
              replace fz3 := bF hb fz3 zz
              replace fz4 := bF hb fz4 zz
              replace zz := Nat.lt_of_lt_of_le zz hb.size
              replace u0 := bC hb u0 zu
              replace u1 := bC hb u1 zu
              replace u2 := bC hb u2 zu
              replace u3 := bC hb u3 zu
              replace u4 := bC hb u4 zu
              replace u5 := bC hb u5 zu
              replace u6 := bC hb u6 zu
              replace u7 := bC hb u7 zu
              replace zu := Nat.lt_of_lt_of_le zu hb.size
              replace r0 := bC hb r0 zr
              replace r1 := bC hb r1 zr
              replace r2 := bC hb r2 zr
              replace r3 := bC hb r3 zr
              replace r4 := bC hb r4 zr
              replace fr0 := bF hb fr0 zr
              replace fr1 := bF hb fr1 zr
              replace fr2 := bF hb fr2 zr
              replace fr3 := bF hb fr3 zr
              replace fr4 := bF hb fr4 zr
              replace zr := Nat.lt_of_lt_of_le zr hb.size
              replace s0 := bC hb s0 zs
              replace s1 := bC hb s1 zs
              replace zs := Nat.lt_of_lt_of_le zs hb.size
              replace HB := hide (HB.out.trans (hb.mono HB.out.size))
              clear hb
              obtain ⟨W4, hW4⟩ : ∃ W, (v2.alloc (.cells #[.bool q.u, .int .i64 q.a, .int .i64 q.p, .int .i64 q.v, .int .i64 q.t] 95)) = W := ⟨_, rfl⟩
              have hb_W4 : Below v2.heap.size v2 W4 := by rw [← hW4]; exact ((Below.refl _ _).alloc (Nat.le_refl _) _)
              replace z0 := bC hb_W4 z0 zz
              replace z1 := bC hb_W4 z1 zz
              replace z2 := bC hb_W4 z2 zz
              replace z3 := bC hb_W4 z3 zz
              replace z4 := bC hb_W4 z4 zz
              replace fz0 := bF hb_W4 fz0 zz
              replace fz1 := bF hb_W4 fz1 zz
              replace fz2 := bF hb_W4 fz2 zz
              replace fz3 := bF hb_W4 fz3 zz
              replace fz4 := bF hb_W4 fz4 zz
              replace zz := Nat.lt_of_lt_of_le zz hb_W4.size
              replace u0 := bC hb_W4 u0 zu
              replace u1 := bC hb_W4 u1 zu
              replace u2 := bC hb_W4 u2 zu
              replace u3 := bC hb_W4 u3 zu
              replace u4 := bC hb_W4 u4 zu
              replace u5 := bC hb_W4 u5 zu
              replace u6 := bC hb_W4 u6 zu
              replace u7 := bC hb_W4 u7 zu
              replace zu := Nat.lt_of_lt_of_le zu hb_W4.size
              replace r0 := bC hb_W4 r0 zr
              replace r1 := bC hb_W4 r1 zr
              replace r2 := bC hb_W4 r2 zr
              replace r3 := bC hb_W4 r3 zr
              replace r4 := bC hb_W4 r4 zr
              replace fr0 := bF hb_W4 fr0 zr
              replace fr1 := bF hb_W4 fr1 zr
              replace fr2 := bF hb_W4 fr2 zr
              replace fr3 := bF hb_W4 fr3 zr
              replace fr4 := bF hb_W4 fr4 zr
              replace zr := Nat.lt_of_lt_of_le zr hb_W4.size
              replace s0 := bC hb_W4 s0 zs
              replace s1 := bC hb_W4 s1 zs
              replace zs := Nat.lt_of_lt_of_le zs hb_W4.size
              replace HB := hide (HB.out.trans (hb_W4.mono HB.out.size))
              clear hb_W4
              have zy : v2.heap.size < W4.heap.size := by rw [← hW4]; simp
              have y0 : W4.cell? ⟨v2.heap.size, 0, none⟩ = some (.bool q.u) := by rw [← hW4]; simp [go_sem]
              have y1 : W4.cell? ⟨v2.heap.size, 1, none⟩ = some (.int .i64 q.a) := by rw [← hW4]; simp [go_sem]
              have y2 : W4.cell? ⟨v2.heap.size, 2, none⟩ = some (.int .i64 q.p) := by rw [← hW4]; simp [go_sem]
              have y3 : W4.cell? ⟨v2.heap.size, 3, none⟩ = some (.int .i64 q.v) := by rw [← hW4]; simp [go_sem]
              have y4 : W4.cell? ⟨v2.heap.size, 4, none⟩ = some (.int .i64 q.t) := by rw [← hW4]; simp [go_sem]
              have hlb2 := HLB.out
              have hlb3 : ((k : Int) == (gl : Int) - 1) = false := beq_eq_false_iff_ne.2 hlb2
              go_wp2
              refine bodyPost_ret (v := .tuple #[agt m.id m.lim m.dr (.slice (some ⟨bc, fc, none⟩) m.c.length cc) (.slice (some ⟨bt, ft, none⟩) m.t.length ct), .int .i64 2]) (by simp [results, Tryz.results21, go_sem, r0, r1, r2, r3, r4]) rfl ⟨bc, fc, cc, bt, ft, ct, by rw [HVl.out], by simp; omega, by simp; omega, ?_, ?_, ?_, by omega, by omega⟩
              · rw [HCl.out]
                exact (HC.out.kept HB.out zc).step (stp_set5v W4 (w.heap.size + 1 + 1) (.int .i64 m.id) (.int .i64 m.lim) (.bool m.dr) (.slice (some ⟨bc, fc, none⟩) m.c.length cc) (.slice (some ⟨bt, ft, none⟩) m.t.length ct)) (by have := HB.out.size; omega) (.inl (by omega))
              · rw [HTl.out]
                exact (HT.out.kept HB.out zt).step (stp_set5v W4 (w.heap.size + 1 + 1) (.int .i64 m.id) (.int .i64 m.lim) (.bool m.dr) (.slice (some ⟨bc, fc, none⟩) m.c.length cc) (.slice (some ⟨bt, ft, none⟩) m.t.length ct)) (by have := HB.out.size; omega) (.inl (by omega))
              · exact below_set5v HB.out (by omega) _ _ _ _ _
          | true =>
            have hlb' : (k : Int) = (gl : Int) - 1 := of_decide_eq_true hlb
            have HLB := hide hlb'
            clear hlb'
            by_cases hsf : sf = 1
            · have HVl := hide (HV3.out.trans (if_pos hsf))
              have HCl := hide (HC3.out.trans (if_pos hsf))
              have HTl := hide (HT3.out.trans (if_pos hsf))
              clear HV3 HC3 HT3
              subst hsf
              go_enter Tryz.func21, Tryz.ntmps21
              have u5w := u5
              have u6w := u6
              obtain ⟨Ws, hWs⟩ : ∃ W, (W0.alloc (.cells #[.int .i64 m.id, .int .i64 1] 93)) = W := ⟨_, rfl⟩
              have hb_Ws : Below W0.heap.size W0 Ws := by rw [← hWs]; exact ((Below.refl _ _).alloc (Nat.le_refl _) _)
              replace z0 := bC hb_Ws z0 zz
              replace z1 := bC hb_Ws z1 zz
              replace z2 := bC hb_Ws z2 zz
              replace z3 := bC hb_Ws z3 zz
              replace z4 := bC hb_Ws z4 zz
              replace fz0 := bF hb_Ws fz0 zz
              replace fz1 := bF hb_Ws fz1 zz
              replace fz2 := bF hb_Ws fz2 zz
              replace fz3 := bF hb_Ws fz3 zz
              replace fz4 := bF hb_Ws fz4 zz
              replace zz := Nat.lt_of_lt_of_le zz hb_Ws.size
              replace u0 := bC hb_Ws u0 zu
              replace u1 := bC hb_Ws u1 zu
              replace u2 := bC hb_Ws u2 zu
              replace u3 := bC hb_Ws u3 zu
              replace u4 := bC hb_Ws u4 zu
              replace u5 := bC hb_Ws u5 zu
              replace u6 := bC hb_Ws u6 zu
              replace u7 := bC hb_Ws u7 zu
              replace zu := Nat.lt_of_lt_of_le zu hb_Ws.size
              replace r0 := bC hb_Ws r0 zr
              replace r1 := bC hb_Ws r1 zr
              replace r2 := bC hb_Ws r2 zr
              replace r3 := bC hb_Ws r3 zr
              replace r4 := bC hb_Ws r4 zr
              replace fr0 := bF hb_Ws fr0 zr
              replace fr1 := bF hb_Ws fr1 zr
              replace fr2 := bF hb_Ws fr2 zr
              replace fr3 := bF hb_Ws fr3 zr
              replace fr4 := bF hb_Ws fr4 zr
              replace zr := Nat.lt_of_lt_of_le zr hb_Ws.size
              replace HB := hide (HB.out.trans (hb_Ws.mono HB.out.size))
              clear hb_Ws
              have zs : W0.heap.size < Ws.heap.size := by rw [← hWs]; simp
              have s0 : Ws.cell? ⟨W0.heap.size, 0, none⟩ = some (.int .i64 m.id) := by rw [← hWs]; simp [go_sem]
              have s1 : Ws.cell? ⟨W0.heap.size, 1, none⟩ = some (.int .i64 1) := by rw [← hWs]; simp [go_sem]
              go_wp2_with fail
              refine (H0.out _).mono ?_
              rintro e v1 ⟨rfl, hb⟩
              clear H0
              replace z0 := bC hb z0 zz
              replace z1 := bC hb z1 zz
              replace z2 := bC hb z2 zz
              replace z3 := bC hb z3 zz
              replace z4 := bC hb z4 zz
              replace fz0 := bF hb fz0 zz
              replace fz1 := bF hb fz1 zz
              replace fz2 := bF hb fz2 zz
              replace fz3 := bF hb fz3 zz
              replace fz4 := bF hb fz4 zz
              replace zz := Nat.lt_of_lt_of_le zz hb.size
              replace u0 := bC hb u0 zu
              replace u1 := bC hb u1 zu
              replace u2 := bC hb u2 zu
              replace u3 := bC hb u3 zu
              replace u4 := bC hb u4 zu
              replace u5 := bC hb u5 zu
              replace u6 := bC hb u6 zu
              replace u7 := bC hb u7 zu
              replace zu := Nat.lt_of_lt_of_le zu hb.size
              replace r0 := bC hb r0 zr
              replace r1 := bC hb r1 zr
              replace r2 := bC hb r2 zr
              replace r3 := bC hb r3 zr
              replace r4 := bC hb r4 zr
              replace fr0 := bF hb fr0 zr
              replace fr1 := bF hb fr1 zr
              replace fr2 := bF hb fr2 zr
              replace fr3 := bF hb fr3 zr
              replace fr4 := bF hb fr4 zr
              replace zr := Nat.lt_of_lt_of_le zr hb.size
              replace s0 := bC hb s0 zs
              replace s1 := bC hb s1 zs
              replace zs := Nat.lt_of_lt_of_le zs hb.size
              replace HB := hide (HB.out.trans (hb.mono HB.out.size))
              clear hb
              go_wp2_with fail
              refine (H1.out v1 HB.out).mono ?_
              rintro e v2 ⟨rfl, hb⟩
              clear H1
              replace z0 := bC hb z0 zz
              replace z1 := bC hb z1 zz
              replace z2 := bC hb z2 zz
              replace z3 := bC hb z3 zz
              replace z4 := bC hb z4 zz
              replace fz0 := bF hb fz0 zz
              replace fz1 := bF hb fz1 zz
              replace fz2 := bF hb fz2 zz
              replace fz3 := bF hb fz3 zz
              replace fz4 := bF hb fz4 zz
              replace zz := Nat.lt_of_lt_of_le zz hb.size
              replace u0 := bC hb u0 zu
              replace u1 := bC hb u1 zu
              replace u2 := bC hb u2 zu
              replace u3 := bC hb u3 zu
              replace u4 := bC hb u4 zu
              replace u5 := bC hb u5 zu
              replace u6 := bC hb u6 zu
              replace u7 := bC hb u7 zu
              replace zu := Nat.lt_of_lt_of_le zu hb.size
              replace r0 := bC hb r0 zr
              replace r1 := bC hb r1 zr
              replace r2 := bC hb r2 zr
              replace r3 := bC hb r3 zr
              replace r4 := bC hb r4 zr
              replace fr0 := bF hb fr0 zr
              replace fr1 := bF hb fr1 zr
              replace fr2 := bF hb fr2 zr
              replace fr3 := bF hb fr3 zr
              replace fr4 := bF hb fr4 zr
              replace zr := Nat.lt_of_lt_of_le zr hb.size
              replace s0 := bC hb s0 zs
              replace s1 := bC hb s1 zs
              replace zs := Nat.lt_of_lt_of_le zs hb.size
              replace HB := hide (HB.out.trans (hb.mono HB.out.size))
              clear hb
              obtain ⟨W4, hW4⟩ : ∃ W, (v2.alloc (.cells #[.bool q.u, .int .i64 q.a, .int .i64 q.p, .int .i64 q.v, .int .i64 q.t] 95)) = W := ⟨_, rfl⟩
              have hb_W4 : Below v2.heap.size v2 W4 := by rw [← hW4]; exact ((Below.refl _ _).alloc (Nat.le_refl _) _)
              replace z0 := bC hb_W4 z0 zz
              replace z1 := bC hb_W4 z1 zz
              replace z2 := bC hb_W4 z2 zz
              replace z3 := bC hb_W4 z3 zz
              replace z4 := bC hb_W4 z4 zz
              replace fz0 := bF hb_W4 fz0 zz
              replace fz1 := bF hb_W4 fz1 zz
              replace fz2 := bF hb_W4 fz2 zz
              replace fz3 := bF hb_W4 fz3 zz
              replace fz4 := bF hb_W4 fz4 zz
              replace zz := Nat.lt_of_lt_of_le zz hb_W4.size
              replace u0 := bC hb_W4 u0 zu
              replace u1 := bC hb_W4 u1 zu
              replace u2 := bC hb_W4 u2 zu
              replace u3 := bC hb_W4 u3 zu
              replace u4 := bC hb_W4 u4 zu
              replace u5 := bC hb_W4 u5 zu
              replace u6 := bC hb_W4 u6 zu
              replace u7 := bC hb_W4 u7 zu
              replace zu := Nat.lt_of_lt_of_le zu hb_W4.size
              replace r0 := bC hb_W4 r0 zr
              replace r1 := bC hb_W4 r1 zr
              replace r2 := bC hb_W4 r2 zr
              replace r3 := bC hb_W4 r3 zr
              replace r4 := bC hb_W4 r4 zr
              replace fr0 := bF hb_W4 fr0 zr
              replace fr1 := bF hb_W4 fr1 zr
              replace fr2 := bF hb_W4 fr2 zr
              replace fr3 := bF hb_W4 fr3 zr
              replace fr4 := bF hb_W4 fr4 zr
              replace zr := Nat.lt_of_lt_of_le zr hb_W4.size
              replace s0 := bC hb_W4 s0 zs
              replace s1 := bC hb_W4 s1 zs
              replace zs := Nat.lt_of_lt_of_le zs hb_W4.size
              replace HB := hide (HB.out.trans (hb_W4.mono HB.out.size))
              clear hb_W4
              have zy : v2.heap.size < W4.heap.size := by rw [← hW4]; simp
              have y0 : W4.cell? ⟨v2.heap.size, 0, none⟩ = some (.bool q.u) := by rw [← hW4]; simp [go_sem]
              have y1 : W4.cell? ⟨v2.heap.size, 1, none⟩ = some (.int .i64 q.a) := by rw [← hW4]; simp [go_sem]
              have y2 : W4.cell? ⟨v2.heap.size, 2, none⟩ = some (.int .i64 q.p) := by rw [← hW4]; simp [go_sem]
              have y3 : W4.cell? ⟨v2.heap.size, 3, none⟩ = some (.int .i64 q.v) := by rw [← hW4]; simp [go_sem]
              have y4 : W4.cell? ⟨v2.heap.size, 4, none⟩ = some (.int .i64 q.t) := by rw [← hW4]; simp [go_sem]
              have hlb2 := HLB.out
              have hrz := zr
              have hsc := HB.out.size
              have H3 := hide (l6hunt_any m bc fc cc bt ft ct now a p f s o n cp true W4 hn0 hn1 hfl hc0 hc16 ht0 ht16 (by omega) (by omega) (HC.out.kept HB.out zc) (HT.out.kept HB.out zt))
              obtain ⟨hv, hhv⟩ : ∃ q, huntV m a p true = q := ⟨_, rfl⟩
              rw [hhv] at H3 HVl
              clear hhv
              go_wp2_with fail
              refine (H3.out).mono ?_
              rintro e v3 ⟨b2, f2, c2, b3, f3, c3, rfl, hz2, hz3, hrc, hrt, hb, hq2, hq3⟩
              have HRc := hide hrc
              have HRt := hide hrt
              have hs3 := hb.size
              clear hrc hrt H3
              replace z0 := bC hb z0 zz
              replace z1 := bC hb z1 zz
              replace z2 := bC hb z2 zz
              replace z3 := bC hb z3 zz
              replace z4 := bC hb z4 zz
              replace fz0 := bF hb fz0 zz
              replace fz1 := bF hb fz1 zz
              replace fz2 := bF hb fz2 zz
              replace fz3 := bF hb fz3 zz
              replace fz4 := bF hb fz4 zz
              replace zz := Nat.lt_of_lt_of_le zz hb.size
              replace u0 := bC hb u0 zu
              replace u1 := bC hb u1 zu
              replace u2 := bC hb u2 zu
              replace u3 := bC hb u3 zu
              replace u4 := bC hb u4 zu
              replace u5 := bC hb u5 zu
              replace u6 := bC hb u6 zu
              replace u7 := bC hb u7 zu
              replace zu := Nat.lt_of_lt_of_le zu hb.size
              replace r0 := bC hb r0 zr
              replace r1 := bC hb r1 zr
              replace r2 := bC hb r2 zr
              replace r3 := bC hb r3 zr
              replace r4 := bC hb r4 zr
              replace fr0 := bF hb fr0 zr
              replace fr1 := bF hb fr1 zr
              replace fr2 := bF hb fr2 zr
              replace fr3 := bF hb fr3 zr
              replace fr4 := bF hb fr4 zr
              replace zr := Nat.lt_of_lt_of_le zr hb.size
              replace s0 := bC hb s0 zs
              replace s1 := bC hb s1 zs
              replace zs := Nat.lt_of_lt_of_le zs hb.size
              replace y0 := bC hb y0 zy
              replace y1 := bC hb y1 zy
              replace y2 := bC hb y2 zy
              replace y3 := bC hb y3 zy
              replace y4 := bC hb y4 zy
              replace zy := Nat.lt_of_lt_of_le zy hb.size
              replace HB := hide (HB.out.trans (hb.mono HB.out.size))
              clear hb
              go_wp2
              refine bodyPost_ret (v := .tuple #[agt m.id m.lim m.dr (.slice (some ⟨b2, f2, none⟩) m.c.length c2) (.slice (some ⟨b3, f3, none⟩) m.t.length c3), .int .i64 hv]) (by simp [results, Tryz.results21, go_sem, r0, r1, r2, r3, r4]) rfl ⟨b2, f2, c2, b3, f3, c3, by rw [HVl.out], by simp; omega, by simp; omega, ?_, ?_, ?_, by omega, by omega⟩
              · rw [HCl.out]
                exact Row.step HRc.out (stp_set5v v3 (w.heap.size + 1 + 1) (.int .i64 m.id) (.int .i64 m.lim) (.bool m.dr) (.slice (some ⟨b2, f2, none⟩) m.c.length c2) (.slice (some ⟨b3, f3, none⟩) m.t.length c3)) hz2 (by omega)
              · rw [HTl.out]
                exact Row.step HRt.out (stp_set5v v3 (w.heap.size + 1 + 1) (.int .i64 m.id) (.int .i64 m.lim) (.bool m.dr) (.slice (some ⟨b2, f2, none⟩) m.c.length c2) (.slice (some ⟨b3, f3, none⟩) m.t.length c3)) hz3 (by omega)
              · exact below_set5v HB.out (by omega) _ _ _ _ _
            · have HV4 := hide (HV3.out.trans (if_neg hsf))
              have HVl := hide (HV4.out.trans (if_pos rfl))
              have HCl := hide (HC3.out.trans (if_neg hsf))
              have HTl := hide (HT3.out.trans (if_neg hsf))
              clear HV3 HC3 HT3 HV4
              go_enter Tryz.func21, Tryz.ntmps21
              have u5w := u5
              have u6w := u6
              obtain ⟨Ws, hWs⟩ : ∃ W, (W0.alloc (.cells #[.int .i64 m.id, .int .i64 sf] 93)) = W := ⟨_, rfl⟩
              have hb_Ws : Below W0.heap.size W0 Ws := by rw [← hWs]; exact ((Below.refl _ _).alloc (Nat.le_refl _) _)
              replace z0 := bC hb_Ws z0 zz
              replace z1 := bC hb_Ws z1 zz
              replace z2 := bC hb_Ws z2 zz
              replace z3 := bC hb_Ws z3 zz
              replace z4 := bC hb_Ws z4 zz
              replace fz0 := bF hb_Ws fz0 zz
              replace fz1 := bF hb_Ws fz1 zz
              replace fz2 := bF hb_Ws fz2 zz
              replace fz3 := bF hb_Ws fz3 zz
              replace fz4 := bF hb_Ws fz4 zz
              replace zz := Nat.lt_of_lt_of_le zz hb_Ws.size
              replace u0 := bC hb_Ws u0 zu
              replace u1 := bC hb_Ws u1 zu
              replace u2 := bC hb_Ws u2 zu
              replace u3 := bC hb_Ws u3 zu
              replace u4 := bC hb_Ws u4 zu
              replace u5 := bC hb_Ws u5 zu
              replace u6 := bC hb_Ws u6 zu
              replace u7 := bC hb_Ws u7 zu
              replace zu := Nat.lt_of_lt_of_le zu hb_Ws.size
              replace r0 := bC hb_Ws r0 zr
              replace r1 := bC hb_Ws r1 zr
              replace r2 := bC hb_Ws r2 zr
              replace r3 := bC hb_Ws r3 zr
              replace r4 := bC hb_Ws r4 zr
              replace fr0 := bF hb_Ws fr0 zr
              replace fr1 := bF hb_Ws fr1 zr
              replace fr2 := bF hb_Ws fr2 zr
              replace fr3 := bF hb_Ws fr3 zr
              replace fr4 := bF hb_Ws fr4 zr
              replace zr := Nat.lt_of_lt_of_le zr hb_Ws.size
              replace HB := hide (HB.out.trans (hb_Ws.mono HB.out.size))
              clear hb_Ws
              have zs : W0.heap.size < Ws.heap.size := by rw [← hWs]; simp
              have s0 : Ws.cell? ⟨W0.heap.size, 0, none⟩ = some (.int .i64 m.id) := by rw [← hWs]; simp [go_sem]
              have s1 : Ws.cell? ⟨W0.heap.size, 1, none⟩ = some (.int .i64 sf) := by rw [← hWs]; simp [go_sem]
              go_wp2_with fail
              refine (H0.out _).mono ?_
              rintro e v1 ⟨rfl, hb⟩
              clear H0
              replace z0 := bC hb z0 zz
              replace z1 := bC hb z1 zz
              replace z2 := bC hb z2 zz
              replace z3 := bC hb z3 zz
              replace z4 := bC hb z4 zz
              replace fz0 := bF hb fz0 zz
              replace fz1 := bF hb fz1 zz
              replace fz2 := bF hb fz2 zz
              replace fz3 := bF hb fz3 zz
              replace fz4 := bF hb fz4 zz
              replace zz := Nat.lt_of_lt_of_le zz hb.size
              replace u0 := bC hb u0 zu
              replace u1 := bC hb u1 zu
              replace u2 := bC hb u2 zu
              replace u3 := bC hb u3 zu
              replace u4 := bC hb u4 zu
              replace u5 := bC hb u5 zu
              replace u6 := bC hb u6 zu
              replace u7 := bC hb u7 zu
              replace zu := Nat.lt_of_lt_of_le zu hb.size
              replace r0 := bC hb r0 zr
              replace r1 := bC hb r1 zr
              replace r2 := bC hb r2 zr
              replace r3 := bC hb r3 zr
              replace r4 := bC hb r4 zr
              replace fr0 := bF hb fr0 zr
              replace fr1 := bF hb fr1 zr
              replace fr2 := bF hb fr2 zr
              replace fr3 := bF hb fr3 zr
              replace fr4 := bF hb fr4 zr
              replace zr := Nat.lt_of_lt_of_le zr hb.size
              replace s0 := bC hb s0 zs
              replace s1 := bC hb s1 zs
              replace zs := Nat.lt_of_lt_of_le zs hb.size
              replace HB := hide (HB.out.trans (hb.mono HB.out.size))
              clear hb
              go_wp2_with fail
              refine (H1.out v1 HB.out).mono ?_
              rintro e v2 ⟨rfl, hb⟩
              clear H1
              replace z0 := bC hb z0 zz
              replace z1 := bC hb z1 zz
              replace z2 := bC hb z2 zz
              replace z3 := bC hb z3 zz
              replace z4 := bC hb z4 zz
              replace fz0 := bF hb fz0 zz
              replace fz1 := bF hb fz1 zz
              replace fz2 := bF hb fz2 zz
              replace fz3 := bF hb fz3 zz
              replace fz4 := bF hb fz4 zz
              replace zz := Nat.lt_of_lt_of_le zz hb.size
              replace u0 := bC hb u0 zu
              replace u1 := bC hb u1 zu
              replace u2 := bC hb u2 zu
              replace u3 := bC hb u3 zu
              replace u4 := bC hb u4 zu
              replace u5 := bC hb u5 zu
              replace u6 := bC hb u6 zu
              replace u7 := bC hb u7 zu
              replace zu := Nat.lt_of_lt_of_le zu hb.size
              replace r0 := bC hb r0 zr
              replace r1 := bC hb r1 zr
              replace r2 := bC hb r2 zr
              replace r3 := bC hb r3 zr
              replace r4 := bC hb r4 zr
              replace fr0 := bF hb fr0 zr
              replace fr1 := bF hb fr1 zr
              replace fr2 := bF hb fr2 zr
              replace fr3 := bF hb fr3 zr
              replace fr4 := bF hb fr4 zr
              replace zr := Nat.lt_of_lt_of_le zr hb.size
              replace s0 := bC hb s0 zs
              replace s1 := bC hb s1 zs
              replace zs := Nat.lt_of_lt_of_le zs hb.size
              replace HB := hide (HB.out.trans (hb.mono HB.out.size))
              clear hb
              obtain ⟨W4, hW4⟩ : ∃ W, (v2.alloc (.cells #[.bool q.u, .int .i64 q.a, .int .i64 q.p, .int .i64 q.v, .int .i64 q.t] 95)) = W := ⟨_, rfl⟩
              have hb_W4 : Below v2.heap.size v2 W4 := by rw [← hW4]; exact ((Below.refl _ _).alloc (Nat.le_refl _) _)
              replace z0 := bC hb_W4 z0 zz
              replace z1 := bC hb_W4 z1 zz
              replace z2 := bC hb_W4 z2 zz
              replace z3 := bC hb_W4 z3 zz
              replace z4 := bC hb_W4 z4 zz
              replace fz0 := bF hb_W4 fz0 zz
              replace fz1 := bF hb_W4 fz1 zz
              replace fz2 := bF hb_W4 fz2 zz
              replace fz3 := bF hb_W4 fz3 zz
              replace fz4 := bF hb_W4 fz4 zz
              replace zz := Nat.lt_of_lt_of_le zz hb_W4.size
              replace u0 := bC hb_W4 u0 zu
              replace u1 := bC hb_W4 u1 zu
              replace u2 := bC hb_W4 u2 zu
              replace u3 := bC hb_W4 u3 zu
              replace u4 := bC hb_W4 u4 zu
              replace u5 := bC hb_W4 u5 zu
              replace u6 := bC hb_W4 u6 zu
              replace u7 := bC hb_W4 u7 zu
              replace zu := Nat.lt_of_lt_of_le zu hb_W4.size
              replace r0 := bC hb_W4 r0 zr
              replace r1 := bC hb_W4 r1 zr
              replace r2 := bC hb_W4 r2 zr
              replace r3 := bC hb_W4 r3 zr
              replace r4 := bC hb_W4 r4 zr
              replace fr0 := bF hb_W4 fr0 zr
              replace fr1 := bF hb_W4 fr1 zr
              replace fr2 := bF hb_W4 fr2 zr
              replace fr3 := bF hb_W4 fr3 zr
              replace fr4 := bF hb_W4 fr4 zr
              replace zr := Nat.lt_of_lt_of_le zr hb_W4.size
              replace s0 := bC hb_W4 s0 zs
              replace s1 := bC hb_W4 s1 zs
              replace zs := Nat.lt_of_lt_of_le zs hb_W4.size
              replace HB := hide (HB.out.trans (hb_W4.mono HB.out.size))
              clear hb_W4
              have zy : v2.heap.size < W4.heap.size := by rw [← hW4]; simp
              have y0 : W4.cell? ⟨v2.heap.size, 0, none⟩ = some (.bool q.u) := by rw [← hW4]; simp [go_sem]
              have y1 : W4.cell? ⟨v2.heap.size, 1, none⟩ = some (.int .i64 q.a) := by rw [← hW4]; simp [go_sem]
              have y2 : W4.cell? ⟨v2.heap.size, 2, none⟩ = some (.int .i64 q.p) := by rw [← hW4]; simp [go_sem]
              have y3 : W4.cell? ⟨v2.heap.size, 3, none⟩ = some (.int .i64 q.v) := by rw [← hW4]; simp [go_sem]
              have y4 : W4.cell? ⟨v2.heap.size, 4, none⟩ = some (.int .i64 q.t) := by rw [← hW4]; simp [go_sem]
              have hlb2 := HLB.out
              go_wp2
              refine bodyPost_ret (v := .tuple #[agt m.id m.lim m.dr (.slice (some ⟨bc, fc, none⟩) m.c.length cc) (.slice (some ⟨bt, ft, none⟩) m.t.length ct), .int .i64 3]) (by simp [results, Tryz.results21, go_sem, r0, r1, r2, r3, r4]) rfl ⟨bc, fc, cc, bt, ft, ct, by rw [HVl.out], by simp; omega, by simp; omega, ?_, ?_, ?_, by omega, by omega⟩
              · rw [HCl.out]
                exact (HC.out.kept HB.out zc).step (stp_set5v W4 (w.heap.size + 1 + 1) (.int .i64 m.id) (.int .i64 m.lim) (.bool m.dr) (.slice (some ⟨bc, fc, none⟩) m.c.length cc) (.slice (some ⟨bt, ft, none⟩) m.t.length ct)) (by have := HB.out.size; omega) (.inl (by omega))
              · rw [HTl.out]
                exact (HT.out.kept HB.out zt).step (stp_set5v W4 (w.heap.size + 1 + 1) (.int .i64 m.id) (.int .i64 m.lim) (.bool m.dr) (.slice (some ⟨bc, fc, none⟩) m.c.length cc) (.slice (some ⟨bt, ft, none⟩) m.t.length ct)) (by have := HB.out.size; omega) (.inl (by omega))
              · exact below_set5v HB.out (by omega) _ _ _ _ _
  · have HVl := hide (HV.out.trans (if_neg h1))
    have HCl := hide (HHC.out.trans (if_neg h1))
    have HTl := hide (HHT.out.trans (if_neg h1))
    clear HV HHC HHT H0 H1
    go_enter Tryz.func21, Tryz.ntmps21
    have u5w := u5
    have u6w := u6
    obtain ⟨Ws, hWs⟩ : ∃ W, (W0.alloc (.cells #[.int .i64 sb, .int .i64 sf] 93)) = W := ⟨_, rfl⟩
    have hb_Ws : Below W0.heap.size W0 Ws := by rw [← hWs]; exact ((Below.refl _ _).alloc (Nat.le_refl _) _)
    replace z0 := bC hb_Ws z0 zz
    replace z1 := bC hb_Ws z1 zz
    replace z2 := bC hb_Ws z2 zz
    replace z3 := bC hb_Ws z3 zz
    replace z4 := bC hb_Ws z4 zz
    replace fz0 := bF hb_Ws fz0 zz
    replace fz1 := bF hb_Ws fz1 zz
    replace fz2 := bF hb_Ws fz2 zz
    replace fz3 := bF hb_Ws fz3 zz
    replace fz4 := bF hb_Ws fz4 zz
    replace zz := Nat.lt_of_lt_of_le zz hb_Ws.size
    replace u0 := bC hb_Ws u0 zu
    replace u1 := bC hb_Ws u1 zu
    replace u2 := bC hb_Ws u2 zu
    replace u3 := bC hb_Ws u3 zu
    replace u4 := bC hb_Ws u4 zu
    replace u5 := bC hb_Ws u5 zu
    replace u6 := bC hb_Ws u6 zu
    replace u7 := bC hb_Ws u7 zu
    replace zu := Nat.lt_of_lt_of_le zu hb_Ws.size
    replace r0 := bC hb_Ws r0 zr
    replace r1 := bC hb_Ws r1 zr
    replace r2 := bC hb_Ws r2 zr
    replace r3 := bC hb_Ws r3 zr
    replace r4 := bC hb_Ws r4 zr
    replace fr0 := bF hb_Ws fr0 zr
    replace fr1 := bF hb_Ws fr1 zr
    replace fr2 := bF hb_Ws fr2 zr
    replace fr3 := bF hb_Ws fr3 zr
    replace fr4 := bF hb_Ws fr4 zr
    replace zr := Nat.lt_of_lt_of_le zr hb_Ws.size
    replace HB := hide (HB.out.trans (hb_Ws.mono HB.out.size))
    clear hb_Ws
    have zs : W0.heap.size < Ws.heap.size := by rw [← hWs]; simp
    have s0 : Ws.cell? ⟨W0.heap.size, 0, none⟩ = some (.int .i64 sb) := by rw [← hWs]; simp [go_sem]
    have s1 : Ws.cell? ⟨W0.heap.size, 1, none⟩ = some (.int .i64 sf) := by rw [← hWs]; simp [go_sem]
    go_wp2
    refine bodyPost_ret (v := .tuple #[agt m.id m.lim m.dr (.slice (some ⟨bc, fc, none⟩) m.c.length cc) (.slice (some ⟨bt, ft, none⟩) m.t.length ct), .int .i64 6]) (by simp [results, Tryz.results21, go_sem, r0, r1, r2, r3, r4]) rfl ⟨bc, fc, cc, bt, ft, ct, by rw [HVl.out], by simp; omega, by simp; omega, ?_, ?_, ?_, by omega, by omega⟩
    · rw [HCl.out]
      exact (HC.out.kept HB.out zc).step (stp_set5v Ws (w.heap.size + 1 + 1) (.int .i64 m.id) (.int .i64 m.lim) (.bool m.dr) (.slice (some ⟨bc, fc, none⟩) m.c.length cc) (.slice (some ⟨bt, ft, none⟩) m.t.length ct)) (by have := HB.out.size; omega) (.inl (by omega))
    · rw [HTl.out]
      exact (HT.out.kept HB.out zt).step (stp_set5v Ws (w.heap.size + 1 + 1) (.int .i64 m.id) (.int .i64 m.lim) (.bool m.dr) (.slice (some ⟨bc, fc, none⟩) m.c.length cc) (.slice (some ⟨bt, ft, none⟩) m.t.length ct)) (by have := HB.out.size; omega) (.inl (by omega))
    · exact below_set5v HB.out (by omega) _ _ _ _ _

end Go.Proofs.YtmkgbmmibjgeaaaGreat

/- Holds and Shuns, on both sides. -/
namespace Go.Proofs.YtmkgbmmibjgeaaaGreat
open Go.ChangeShapes Go.WideShapes Go.ChangeAt Go.RowKit Go.Joins
set_option linter.unusedVariables false
set_option linter.unusedSimpArgs false

def holdsB (m : Am) (a p : Int) : Bool := agentOkB m && flowOkB a p && (endL m.c a p).2
def shunsB (m : Am) (a p : Int) : Bool := agentOkB m && flowOkB a p && (endL m.t a p).2
theorem agent_pos5 {m : Am} (h : agentOkB m = true) : 0 < m.c.length ∧ 0 < m.t.length := by
  have h := agentOkB_parts.1 h
  have h1 := (tableOkB_iff.1 h.2.2.2.2.1).1
  have h2 := (tableOkB_iff.1 h.2.2.2.2.2.1).1
  omega

set_option maxHeartbeats 4000000 in
theorem hasI_any (b off c : Nat) (l : List Sl) (a p : Int) (w : World) (hpos : 0 < l.length) (hl : l.length ≤ 1048576) (hfl : flowOkB a p = true) (hbl : b < w.heap.size) (hcell : ∀ i, i < l.length → ∀ j, j < layS.k → w.cell? ⟨b, off + i * layS.k + j, none⟩ = (layS.cs (l.getD i layS.d))[j]?) :
    Calls Tryz.prog 89 #[.agg #[.slice (some ⟨b, off, none⟩) l.length c], flow a p] w fun e w' => e = .returned (.bool (endL l a p).2) ∧ Below w.heap.size w w' := by
  have HC := hide hcell
  clear hcell
  obtain ⟨W0, hW0⟩ : ∃ W, ((w.alloc (.cells #[.slice (some ⟨b, off, none⟩) l.length c] 71)).alloc (.cells #[.int .i64 a, .int .i64 p] 45)) = W := ⟨_, rfl⟩
  have hb_W0 : Below w.heap.size w W0 := by rw [← hW0]; exact (((Below.refl _ _).alloc (Nat.le_refl _) _).alloc (by simp <;> omega) _)
  have HB := hide hb_W0
  clear hb_W0
  have zz : w.heap.size < W0.heap.size := by rw [← hW0]; simp <;> omega
  have z0 : W0.cell? ⟨w.heap.size, 0, none⟩ = some (.slice (some ⟨b, off, none⟩) l.length c) := by rw [← hW0]; simp [go_sem]
  have zf : w.heap.size + 1 < W0.heap.size := by rw [← hW0]; simp
  have f0 : W0.cell? ⟨w.heap.size + 1, 0, none⟩ = some (.int .i64 a) := by rw [← hW0]; simp [go_sem]
  have f1 : W0.cell? ⟨w.heap.size + 1, 1, none⟩ = some (.int .i64 p) := by rw [← hW0]; simp [go_sem]
  have H1 := hide (fun W (hb : Below w.heap.size w W) => get_any b off c l a p W hpos hl hfl (Nat.lt_of_lt_of_le hbl hb.size) (fun i hi j hj => (hb.cell (p := ⟨b, off + i * layS.k + j, none⟩) hbl).trans (HC.out i hi j hj)))
  clear HC
  generalize getL l a p = q at *
  generalize (endL l a p).2 = tt at *
  go_enter Tryz.func89, Tryz.ntmps89
  go_wp2_with fail
  refine (H1.out W0 HB.out).mono ?_
  rintro e v1 ⟨rfl, hb⟩
  replace z0 : v1.cell? ⟨w.heap.size, 0, none⟩ = some (.slice (some ⟨b, off, none⟩) l.length c) := (hb.cell (p := ⟨w.heap.size, 0, none⟩) zz).trans z0
  replace zz : w.heap.size < v1.heap.size := Nat.lt_of_lt_of_le zz hb.size
  replace f0 : v1.cell? ⟨w.heap.size + 1, 0, none⟩ = some (.int .i64 a) := (hb.cell (p := ⟨w.heap.size + 1, 0, none⟩) zf).trans f0
  replace f1 : v1.cell? ⟨w.heap.size + 1, 1, none⟩ = some (.int .i64 p) := (hb.cell (p := ⟨w.heap.size + 1, 1, none⟩) zf).trans f1
  replace zf : w.heap.size + 1 < v1.heap.size := Nat.lt_of_lt_of_le zf hb.size
  replace HB := hide (HB.out.trans (hb.mono HB.out.size))
  clear hb
  obtain ⟨W2, hW2⟩ : ∃ W, (v1.alloc (.cells #[.bool q.u, .int .i64 q.a, .int .i64 q.p, .int .i64 q.v, .int .i64 q.t] 132)) = W := ⟨_, rfl⟩
  have hb_W2 : Below v1.heap.size v1 W2 := by rw [← hW2]; exact ((Below.refl _ _).alloc (Nat.le_refl _) _)
  replace z0 : W2.cell? ⟨w.heap.size, 0, none⟩ = some (.slice (some ⟨b, off, none⟩) l.length c) := (hb_W2.cell (p := ⟨w.heap.size, 0, none⟩) zz).trans z0
  replace zz : w.heap.size < W2.heap.size := Nat.lt_of_lt_of_le zz hb_W2.size
  replace f0 : W2.cell? ⟨w.heap.size + 1, 0, none⟩ = some (.int .i64 a) := (hb_W2.cell (p := ⟨w.heap.size + 1, 0, none⟩) zf).trans f0
  replace f1 : W2.cell? ⟨w.heap.size + 1, 1, none⟩ = some (.int .i64 p) := (hb_W2.cell (p := ⟨w.heap.size + 1, 1, none⟩) zf).trans f1
  replace zf : w.heap.size + 1 < W2.heap.size := Nat.lt_of_lt_of_le zf hb_W2.size
  replace HB := hide (HB.out.trans (hb_W2.mono HB.out.size))
  clear hb_W2
  have zs : v1.heap.size < W2.heap.size := by rw [← hW2]; simp
  have s0 : W2.cell? ⟨v1.heap.size, 0, none⟩ = some (.bool q.u) := by rw [← hW2]; simp [go_sem]
  have s1 : W2.cell? ⟨v1.heap.size, 1, none⟩ = some (.int .i64 q.a) := by rw [← hW2]; simp [go_sem]
  have s2 : W2.cell? ⟨v1.heap.size, 2, none⟩ = some (.int .i64 q.p) := by rw [← hW2]; simp [go_sem]
  have s3 : W2.cell? ⟨v1.heap.size, 3, none⟩ = some (.int .i64 q.v) := by rw [← hW2]; simp [go_sem]
  have s4 : W2.cell? ⟨v1.heap.size, 4, none⟩ = some (.int .i64 q.t) := by rw [← hW2]; simp [go_sem]
  go_wp2
  go_ret
  exact ⟨rfl, HB.out⟩

set_option maxHeartbeats 4000000 in
theorem shunsI_any (b off c : Nat) (l : List Sl) (a p : Int) (w : World) (hpos : 0 < l.length) (hl : l.length ≤ 1048576) (hfl : flowOkB a p = true) (hbl : b < w.heap.size) (hcell : ∀ i, i < l.length → ∀ j, j < layS.k → w.cell? ⟨b, off + i * layS.k + j, none⟩ = (layS.cs (l.getD i layS.d))[j]?) :
    Calls Tryz.prog 96 #[.agg #[.slice (some ⟨b, off, none⟩) l.length c], flow a p] w fun e w' => e = .returned (.bool (endL l a p).2) ∧ Below w.heap.size w w' := by
  have HC := hide hcell
  clear hcell
  obtain ⟨W0, hW0⟩ : ∃ W, ((w.alloc (.cells #[.slice (some ⟨b, off, none⟩) l.length c] 72)).alloc (.cells #[.int .i64 a, .int .i64 p] 45)) = W := ⟨_, rfl⟩
  have hb_W0 : Below w.heap.size w W0 := by rw [← hW0]; exact (((Below.refl _ _).alloc (Nat.le_refl _) _).alloc (by simp <;> omega) _)
  have HB := hide hb_W0
  clear hb_W0
  have zz : w.heap.size < W0.heap.size := by rw [← hW0]; simp <;> omega
  have z0 : W0.cell? ⟨w.heap.size, 0, none⟩ = some (.slice (some ⟨b, off, none⟩) l.length c) := by rw [← hW0]; simp [go_sem]
  have zf : w.heap.size + 1 < W0.heap.size := by rw [← hW0]; simp
  have f0 : W0.cell? ⟨w.heap.size + 1, 0, none⟩ = some (.int .i64 a) := by rw [← hW0]; simp [go_sem]
  have f1 : W0.cell? ⟨w.heap.size + 1, 1, none⟩ = some (.int .i64 p) := by rw [← hW0]; simp [go_sem]
  have H1 := hide (fun W (hb : Below w.heap.size w W) => get_any b off c l a p W hpos hl hfl (Nat.lt_of_lt_of_le hbl hb.size) (fun i hi j hj => (hb.cell (p := ⟨b, off + i * layS.k + j, none⟩) hbl).trans (HC.out i hi j hj)))
  clear HC
  generalize getL l a p = q at *
  generalize (endL l a p).2 = tt at *
  go_enter Tryz.func96, Tryz.ntmps96
  go_wp2_with fail
  refine (H1.out W0 HB.out).mono ?_
  rintro e v1 ⟨rfl, hb⟩
  replace z0 : v1.cell? ⟨w.heap.size, 0, none⟩ = some (.slice (some ⟨b, off, none⟩) l.length c) := (hb.cell (p := ⟨w.heap.size, 0, none⟩) zz).trans z0
  replace zz : w.heap.size < v1.heap.size := Nat.lt_of_lt_of_le zz hb.size
  replace f0 : v1.cell? ⟨w.heap.size + 1, 0, none⟩ = some (.int .i64 a) := (hb.cell (p := ⟨w.heap.size + 1, 0, none⟩) zf).trans f0
  replace f1 : v1.cell? ⟨w.heap.size + 1, 1, none⟩ = some (.int .i64 p) := (hb.cell (p := ⟨w.heap.size + 1, 1, none⟩) zf).trans f1
  replace zf : w.heap.size + 1 < v1.heap.size := Nat.lt_of_lt_of_le zf hb.size
  replace HB := hide (HB.out.trans (hb.mono HB.out.size))
  clear hb
  obtain ⟨W2, hW2⟩ : ∃ W, (v1.alloc (.cells #[.bool q.u, .int .i64 q.a, .int .i64 q.p, .int .i64 q.v, .int .i64 q.t] 132)) = W := ⟨_, rfl⟩
  have hb_W2 : Below v1.heap.size v1 W2 := by rw [← hW2]; exact ((Below.refl _ _).alloc (Nat.le_refl _) _)
  replace z0 : W2.cell? ⟨w.heap.size, 0, none⟩ = some (.slice (some ⟨b, off, none⟩) l.length c) := (hb_W2.cell (p := ⟨w.heap.size, 0, none⟩) zz).trans z0
  replace zz : w.heap.size < W2.heap.size := Nat.lt_of_lt_of_le zz hb_W2.size
  replace f0 : W2.cell? ⟨w.heap.size + 1, 0, none⟩ = some (.int .i64 a) := (hb_W2.cell (p := ⟨w.heap.size + 1, 0, none⟩) zf).trans f0
  replace f1 : W2.cell? ⟨w.heap.size + 1, 1, none⟩ = some (.int .i64 p) := (hb_W2.cell (p := ⟨w.heap.size + 1, 1, none⟩) zf).trans f1
  replace zf : w.heap.size + 1 < W2.heap.size := Nat.lt_of_lt_of_le zf hb_W2.size
  replace HB := hide (HB.out.trans (hb_W2.mono HB.out.size))
  clear hb_W2
  have zs : v1.heap.size < W2.heap.size := by rw [← hW2]; simp
  have s0 : W2.cell? ⟨v1.heap.size, 0, none⟩ = some (.bool q.u) := by rw [← hW2]; simp [go_sem]
  have s1 : W2.cell? ⟨v1.heap.size, 1, none⟩ = some (.int .i64 q.a) := by rw [← hW2]; simp [go_sem]
  have s2 : W2.cell? ⟨v1.heap.size, 2, none⟩ = some (.int .i64 q.p) := by rw [← hW2]; simp [go_sem]
  have s3 : W2.cell? ⟨v1.heap.size, 3, none⟩ = some (.int .i64 q.v) := by rw [← hW2]; simp [go_sem]
  have s4 : W2.cell? ⟨v1.heap.size, 4, none⟩ = some (.int .i64 q.t) := by rw [← hW2]; simp [go_sem]
  go_wp2
  go_ret
  exact ⟨rfl, HB.out⟩

end Go.Proofs.YtmkgbmmibjgeaaaGreat

/- The program's visit: its small methods. -/
namespace Go.Proofs.YtmkgbmmibjgeaaaGreat
open Go.ChangeShapes Go.WideShapes Go.ChangeAt Go.RowKit Go.Joins
set_option linter.unusedVariables false
set_option linter.unusedSimpArgs false

abbrev visV (vc vt : Value) (i l : Int) (d : Bool) (a p f s : Int) (vp vg : Value) (k st now : Int) : Value := .agg #[vc, vt, .int .i64 i, .int .i64 l, .bool d, .int .i64 a, .int .i64 p, .int .i64 f, .int .i64 s, vp, vg, .int .i64 k, .int .i64 st, .int .i64 now]
set_option maxHeartbeats 2000000 in
theorem visFlow_any (o1 o2 o3 : Option Addr) (n1 c1 n2 c2 n3 c3 bg fg gl cg k : Nat) (i l : Int) (d : Bool) (a p f s st now : Int) (w : World) : Calls Tryz.prog 90 #[visV (.slice o1 n1 c1) (.slice o2 n2 c2) i l d a p f s (.slice o3 n3 c3) (.slice (some ⟨bg, fg, none⟩) gl cg) (k : Int) st now] w fun e w' => e = .returned (flow a p) ∧ Below w.heap.size w w' := by
  obtain ⟨W0, hW0⟩ : ∃ W, ((w.alloc (.cells #[.slice o1 n1 c1, .slice o2 n2 c2, .int .i64 i, .int .i64 l, .bool d, .int .i64 a, .int .i64 p, .int .i64 f, .int .i64 s, .slice o3 n3 c3, .slice (some ⟨bg, fg, none⟩) gl cg, .int .i64 (k : Int), .int .i64 st, .int .i64 now] 78)).alloc (.cells #[.int .i64 0, .int .i64 0] 45)) = W := ⟨_, rfl⟩
  have hb_W0 : Below w.heap.size w W0 := by rw [← hW0]; exact (((Below.refl _ _).alloc (Nat.le_refl _) _).alloc (by simp <;> omega) _)
  have HB := hide hb_W0
  clear hb_W0
  have zz : w.heap.size < W0.heap.size := by rw [← hW0]; simp <;> omega
  have z0 : W0.cell? ⟨w.heap.size, 0, none⟩ = some (.slice o1 n1 c1) := by rw [← hW0]; simp [go_sem]
  have z1 : W0.cell? ⟨w.heap.size, 1, none⟩ = some (.slice o2 n2 c2) := by rw [← hW0]; simp [go_sem]
  have z2 : W0.cell? ⟨w.heap.size, 2, none⟩ = some (.int .i64 i) := by rw [← hW0]; simp [go_sem]
  have z3 : W0.cell? ⟨w.heap.size, 3, none⟩ = some (.int .i64 l) := by rw [← hW0]; simp [go_sem]
  have z4 : W0.cell? ⟨w.heap.size, 4, none⟩ = some (.bool d) := by rw [← hW0]; simp [go_sem]
  have z5 : W0.cell? ⟨w.heap.size, 5, none⟩ = some (.int .i64 a) := by rw [← hW0]; simp [go_sem]
  have z6 : W0.cell? ⟨w.heap.size, 6, none⟩ = some (.int .i64 p) := by rw [← hW0]; simp [go_sem]
  have z7 : W0.cell? ⟨w.heap.size, 7, none⟩ = some (.int .i64 f) := by rw [← hW0]; simp [go_sem]
  have z8 : W0.cell? ⟨w.heap.size, 8, none⟩ = some (.int .i64 s) := by rw [← hW0]; simp [go_sem]
  have z9 : W0.cell? ⟨w.heap.size, 9, none⟩ = some (.slice o3 n3 c3) := by rw [← hW0]; simp [go_sem]
  have z10 : W0.cell? ⟨w.heap.size, 10, none⟩ = some (.slice (some ⟨bg, fg, none⟩) gl cg) := by rw [← hW0]; simp [go_sem]
  have z11 : W0.cell? ⟨w.heap.size, 11, none⟩ = some (.int .i64 (k : Int)) := by rw [← hW0]; simp [go_sem]
  have z12 : W0.cell? ⟨w.heap.size, 12, none⟩ = some (.int .i64 st) := by rw [← hW0]; simp [go_sem]
  have z13 : W0.cell? ⟨w.heap.size, 13, none⟩ = some (.int .i64 now) := by rw [← hW0]; simp [go_sem]
  have zr : w.heap.size + 1 < W0.heap.size := by rw [← hW0]; simp
  have r0 : W0.cell? ⟨w.heap.size + 1, 0, none⟩ = some (.int .i64 0) := by rw [← hW0]; simp [go_sem]
  have r1 : W0.cell? ⟨w.heap.size + 1, 1, none⟩ = some (.int .i64 0) := by rw [← hW0]; simp [go_sem]
  have fr0 : W0.frozen? ⟨w.heap.size + 1, 0, none⟩ = false := by rw [← hW0]; simp [go_sem]
  have fr1 : W0.frozen? ⟨w.heap.size + 1, 1, none⟩ = false := by rw [← hW0]; simp [go_sem]
  go_enter Tryz.func90, Tryz.ntmps90
  go_wp2
  refine bodyPost_ret (v := flow a p) (by simp [results, Tryz.results90, go_sem, r0, r1]) rfl ⟨rfl, ?_⟩
  exact (HB.out.setCell (p := ⟨w.heap.size + 1, 0, none⟩) (by simp) _).setCell (p := ⟨w.heap.size + 1, 1, none⟩) (by simp) _

set_option maxHeartbeats 2000000 in
theorem visLast_any (o1 o2 o3 : Option Addr) (n1 c1 n2 c2 n3 c3 bg fg gl cg k : Nat) (i l : Int) (d : Bool) (a p f s st now : Int) (w : World) (hk : k < gl) (hgl : gl ≤ 1048576) : Calls Tryz.prog 95 #[visV (.slice o1 n1 c1) (.slice o2 n2 c2) i l d a p f s (.slice o3 n3 c3) (.slice (some ⟨bg, fg, none⟩) gl cg) (k : Int) st now] w fun e w' => e = .returned (.bool (lastB k gl)) ∧ Below w.heap.size w w' := by
  have hw2 : IntKind.i64.wrap ((gl : Int) - 1) = (gl : Int) - 1 := by rw [IntKind.wrap_i64]; omega
  obtain ⟨W0, hW0⟩ : ∃ W, (w.alloc (.cells #[.slice o1 n1 c1, .slice o2 n2 c2, .int .i64 i, .int .i64 l, .bool d, .int .i64 a, .int .i64 p, .int .i64 f, .int .i64 s, .slice o3 n3 c3, .slice (some ⟨bg, fg, none⟩) gl cg, .int .i64 (k : Int), .int .i64 st, .int .i64 now] 78)) = W := ⟨_, rfl⟩
  have hb_W0 : Below w.heap.size w W0 := by rw [← hW0]; exact ((Below.refl _ _).alloc (Nat.le_refl _) _)
  have HB := hide hb_W0
  clear hb_W0
  have zz : w.heap.size < W0.heap.size := by rw [← hW0]; simp
  have z0 : W0.cell? ⟨w.heap.size, 0, none⟩ = some (.slice o1 n1 c1) := by rw [← hW0]; simp [go_sem]
  have z1 : W0.cell? ⟨w.heap.size, 1, none⟩ = some (.slice o2 n2 c2) := by rw [← hW0]; simp [go_sem]
  have z2 : W0.cell? ⟨w.heap.size, 2, none⟩ = some (.int .i64 i) := by rw [← hW0]; simp [go_sem]
  have z3 : W0.cell? ⟨w.heap.size, 3, none⟩ = some (.int .i64 l) := by rw [← hW0]; simp [go_sem]
  have z4 : W0.cell? ⟨w.heap.size, 4, none⟩ = some (.bool d) := by rw [← hW0]; simp [go_sem]
  have z5 : W0.cell? ⟨w.heap.size, 5, none⟩ = some (.int .i64 a) := by rw [← hW0]; simp [go_sem]
  have z6 : W0.cell? ⟨w.heap.size, 6, none⟩ = some (.int .i64 p) := by rw [← hW0]; simp [go_sem]
  have z7 : W0.cell? ⟨w.heap.size, 7, none⟩ = some (.int .i64 f) := by rw [← hW0]; simp [go_sem]
  have z8 : W0.cell? ⟨w.heap.size, 8, none⟩ = some (.int .i64 s) := by rw [← hW0]; simp [go_sem]
  have z9 : W0.cell? ⟨w.heap.size, 9, none⟩ = some (.slice o3 n3 c3) := by rw [← hW0]; simp [go_sem]
  have z10 : W0.cell? ⟨w.heap.size, 10, none⟩ = some (.slice (some ⟨bg, fg, none⟩) gl cg) := by rw [← hW0]; simp [go_sem]
  have z11 : W0.cell? ⟨w.heap.size, 11, none⟩ = some (.int .i64 (k : Int)) := by rw [← hW0]; simp [go_sem]
  have z12 : W0.cell? ⟨w.heap.size, 12, none⟩ = some (.int .i64 st) := by rw [← hW0]; simp [go_sem]
  have z13 : W0.cell? ⟨w.heap.size, 13, none⟩ = some (.int .i64 now) := by rw [← hW0]; simp [go_sem]
  go_enter Tryz.func95, Tryz.ntmps95
  go_wp2
  first | (go_region) | skip
  all_goals go_wp2
  all_goals go_ret
  all_goals refine ⟨ret_bool ?_, ?_⟩
  all_goals first | exact HB.out | exact Below.drew HB.out | (unfold lastB; exact (beq_eq_decide _ _)) | (unfold lastB; rfl) | (unfold lastB; simp)

set_option maxHeartbeats 2000000 in
theorem visHere_any (o1 o2 o3 : Option Addr) (n1 c1 n2 c2 n3 c3 bg fg gl cg k : Nat) (i l : Int) (d : Bool) (a p f s st now : Int) (sb sf : Int) (w : World) (hk : k < gl) (hgl : gl ≤ 1048576) (zg : bg < w.heap.size) (hs0 : w.cell? ⟨bg, fg + k * 2, none⟩ = some (.int .i64 sb)) (hs1 : w.cell? ⟨bg, fg + k * 2 + 1, none⟩ = some (.int .i64 sf)) :
    Calls Tryz.prog 88 #[visV (.slice o1 n1 c1) (.slice o2 n2 c2) i l d a p f s (.slice o3 n3 c3) (.slice (some ⟨bg, fg, none⟩) gl cg) (k : Int) st now] w fun e w' => e = .returned (.agg #[.int .i64 sb, .int .i64 sf]) ∧ Below w.heap.size w w' := by
  have hki : (k : Int) < (gl : Int) := by omega
  have hk0 : (0 : Int) ≤ (k : Int) := by omega
  obtain ⟨W0, hW0⟩ : ∃ W, ((w.alloc (.cells #[.slice o1 n1 c1, .slice o2 n2 c2, .int .i64 i, .int .i64 l, .bool d, .int .i64 a, .int .i64 p, .int .i64 f, .int .i64 s, .slice o3 n3 c3, .slice (some ⟨bg, fg, none⟩) gl cg, .int .i64 (k : Int), .int .i64 st, .int .i64 now] 78)).alloc (.cells #[.int .i64 0, .int .i64 0] 93)) = W := ⟨_, rfl⟩
  have hb_W0 : Below w.heap.size w W0 := by rw [← hW0]; exact (((Below.refl _ _).alloc (Nat.le_refl _) _).alloc (by simp <;> omega) _)
  have HB := hide hb_W0
  clear hb_W0
  have zz : w.heap.size < W0.heap.size := by rw [← hW0]; simp <;> omega
  have z0 : W0.cell? ⟨w.heap.size, 0, none⟩ = some (.slice o1 n1 c1) := by rw [← hW0]; simp [go_sem]
  have z1 : W0.cell? ⟨w.heap.size, 1, none⟩ = some (.slice o2 n2 c2) := by rw [← hW0]; simp [go_sem]
  have z2 : W0.cell? ⟨w.heap.size, 2, none⟩ = some (.int .i64 i) := by rw [← hW0]; simp [go_sem]
  have z3 : W0.cell? ⟨w.heap.size, 3, none⟩ = some (.int .i64 l) := by rw [← hW0]; simp [go_sem]
  have z4 : W0.cell? ⟨w.heap.size, 4, none⟩ = some (.bool d) := by rw [← hW0]; simp [go_sem]
  have z5 : W0.cell? ⟨w.heap.size, 5, none⟩ = some (.int .i64 a) := by rw [← hW0]; simp [go_sem]
  have z6 : W0.cell? ⟨w.heap.size, 6, none⟩ = some (.int .i64 p) := by rw [← hW0]; simp [go_sem]
  have z7 : W0.cell? ⟨w.heap.size, 7, none⟩ = some (.int .i64 f) := by rw [← hW0]; simp [go_sem]
  have z8 : W0.cell? ⟨w.heap.size, 8, none⟩ = some (.int .i64 s) := by rw [← hW0]; simp [go_sem]
  have z9 : W0.cell? ⟨w.heap.size, 9, none⟩ = some (.slice o3 n3 c3) := by rw [← hW0]; simp [go_sem]
  have z10 : W0.cell? ⟨w.heap.size, 10, none⟩ = some (.slice (some ⟨bg, fg, none⟩) gl cg) := by rw [← hW0]; simp [go_sem]
  have z11 : W0.cell? ⟨w.heap.size, 11, none⟩ = some (.int .i64 (k : Int)) := by rw [← hW0]; simp [go_sem]
  have z12 : W0.cell? ⟨w.heap.size, 12, none⟩ = some (.int .i64 st) := by rw [← hW0]; simp [go_sem]
  have z13 : W0.cell? ⟨w.heap.size, 13, none⟩ = some (.int .i64 now) := by rw [← hW0]; simp [go_sem]
  have zr : w.heap.size + 1 < W0.heap.size := by rw [← hW0]; simp
  have r0 : W0.cell? ⟨w.heap.size + 1, 0, none⟩ = some (.int .i64 0) := by rw [← hW0]; simp [go_sem]
  have r1 : W0.cell? ⟨w.heap.size + 1, 1, none⟩ = some (.int .i64 0) := by rw [← hW0]; simp [go_sem]
  have fr0 : W0.frozen? ⟨w.heap.size + 1, 0, none⟩ = false := by rw [← hW0]; simp [go_sem]
  have fr1 : W0.frozen? ⟨w.heap.size + 1, 1, none⟩ = false := by rw [← hW0]; simp [go_sem]
  have g0 := (HB.out.cell (p := ⟨bg, fg + k * 2, none⟩) zg).trans hs0
  have g1 := (HB.out.cell (p := ⟨bg, fg + k * 2 + 1, none⟩) zg).trans hs1
  go_enter Tryz.func88, Tryz.ntmps88
  go_wp2
  refine bodyPost_ret (v := .agg #[.int .i64 sb, .int .i64 sf]) (by simp [results, Tryz.results88, go_sem, r0, r1]) rfl ⟨rfl, ?_⟩
  exact (HB.out.setCell (p := ⟨w.heap.size + 1, 0, none⟩) (by simp) _).setCell (p := ⟨w.heap.size + 1, 1, none⟩) (by simp) _

set_option maxHeartbeats 2000000 in
theorem countI_any (b off c : Nat) (l : List Sl) (w : World) (hbl : b < w.heap.size) (hc : Row w b off l) (hl : l.length ≤ 1048576) :
    Calls Tryz.prog 98 #[.agg #[.slice (some ⟨b, off, none⟩) l.length c]] w fun e w' => e = .returned (.int .i64 (countL l)) ∧ Below w.heap.size w w' := by
  have HC := hide hc
  clear hc
  obtain ⟨W0, hW0⟩ : ∃ W, (w.alloc (.cells #[.slice (some ⟨b, off, none⟩) l.length c] 71)) = W := ⟨_, rfl⟩
  have hb_W0 : Below w.heap.size w W0 := by rw [← hW0]; exact ((Below.refl _ _).alloc (Nat.le_refl _) _)
  have HB := hide hb_W0
  clear hb_W0
  have zz : w.heap.size < W0.heap.size := by rw [← hW0]; simp
  have z0 : W0.cell? ⟨w.heap.size, 0, none⟩ = some (.slice (some ⟨b, off, none⟩) l.length c) := by rw [← hW0]; simp [go_sem]
  have H1 := hide (flows_any b off c l W0 (Nat.lt_of_lt_of_le hbl HB.out.size) (Row.kept HC.out HB.out hbl) hl)
  have hln : (flowsTo l l.length).length = countL l := flowsTo_len l l.length
  go_enter Tryz.func98, Tryz.ntmps98
  go_wp2_with fail
  refine (H1.out).mono ?_
  rintro e v1 ⟨v, rfl, hown, hb⟩
  obtain ⟨o, co, hve, _⟩ := (InL.rd (L := layF) (InRow.of hown : InL layF 45 _ _ _ _ _))
  subst hve
  rw [hln]
  clear hown H1
  replace z0 := bC hb z0 zz
  replace zz := Nat.lt_of_lt_of_le zz hb.size
  replace HB := hide (HB.out.trans (hb.mono HB.out.size))
  clear hb
  go_wp2
  go_ret
  exact ⟨rfl, HB.out⟩

set_option maxHeartbeats 2000000 in
theorem fullI_any (b off c : Nat) (l : List Sl) (w : World) (hbl : b < w.heap.size) (hc : Row w b off l) (hl : l.length ≤ 1048576) :
    Calls Tryz.prog 108 #[.agg #[.slice (some ⟨b, off, none⟩) l.length c]] w fun e w' => e = .returned (.bool ((countL l : Int) == (l.length : Int))) ∧ Below w.heap.size w w' := by
  have HC := hide hc
  clear hc
  obtain ⟨W0, hW0⟩ : ∃ W, (w.alloc (.cells #[.slice (some ⟨b, off, none⟩) l.length c] 71)) = W := ⟨_, rfl⟩
  have hb_W0 : Below w.heap.size w W0 := by rw [← hW0]; exact ((Below.refl _ _).alloc (Nat.le_refl _) _)
  have HB := hide hb_W0
  clear hb_W0
  have zz : w.heap.size < W0.heap.size := by rw [← hW0]; simp
  have z0 : W0.cell? ⟨w.heap.size, 0, none⟩ = some (.slice (some ⟨b, off, none⟩) l.length c) := by rw [← hW0]; simp [go_sem]
  have HCn := hide (fun pp : Grown W0 => countI_any b off c l pp.v (Nat.lt_of_lt_of_le (Nat.lt_of_lt_of_le hbl HB.out.size) pp.b.size) (Row.kept (Row.kept HC.out HB.out hbl) pp.b (Nat.lt_of_lt_of_le hbl HB.out.size)) hl)
  have GZ := Grown.cell z0 zz
  go_enter Tryz.func108, Tryz.ntmps108
  go_wp2
  (refine wp_region_grown (by kernel_rfl) (by kernel_rfl) ?_; intro hne9; (repeat (go_big_quiet_step ((go_at_call 98; exact grown_of _ (HCn.out _))))); (with_reducible refine wpQuiet_nil ?_); intro _ hw9; obtain ⟨pq, hw8⟩ := hw9; subst hw8)
  go_wp2
  go_ret
  exact ⟨rfl, HB.out.trans (pq.b.mono HB.out.size)⟩

def roomB (l : List Sl) (d : Bool) : Bool := !d && !((countL l : Int) == (l.length : Int))
set_option maxHeartbeats 2000000 in
theorem hasRoomI_any (b off c : Nat) (l : List Sl) (o2 : Option Addr) (n2 c2 : Nat) (i lm : Int) (d : Bool) (w : World) (hbl : b < w.heap.size) (hc : Row w b off l) (hl : l.length ≤ 1048576) :
    Calls Tryz.prog 97 #[agi (.slice (some ⟨b, off, none⟩) l.length c) (.slice o2 n2 c2) i lm d] w fun e w' => e = .returned (.bool (roomB l d)) ∧ Below w.heap.size w w' := by
  have HC := hide hc
  clear hc
  obtain ⟨W0, hW0⟩ : ∃ W, (w.alloc (.cells #[.slice (some ⟨b, off, none⟩) l.length c, .slice o2 n2 c2, .int .i64 i, .int .i64 lm, .bool d] 74)) = W := ⟨_, rfl⟩
  have hb_W0 : Below w.heap.size w W0 := by rw [← hW0]; exact ((Below.refl _ _).alloc (Nat.le_refl _) _)
  have HB := hide hb_W0
  clear hb_W0
  have zz : w.heap.size < W0.heap.size := by rw [← hW0]; simp
  have z0 : W0.cell? ⟨w.heap.size, 0, none⟩ = some (.slice (some ⟨b, off, none⟩) l.length c) := by rw [← hW0]; simp [go_sem]
  have z1 : W0.cell? ⟨w.heap.size, 1, none⟩ = some (.slice o2 n2 c2) := by rw [← hW0]; simp [go_sem]
  have z2 : W0.cell? ⟨w.heap.size, 2, none⟩ = some (.int .i64 i) := by rw [← hW0]; simp [go_sem]
  have z3 : W0.cell? ⟨w.heap.size, 3, none⟩ = some (.int .i64 lm) := by rw [← hW0]; simp [go_sem]
  have z4 : W0.cell? ⟨w.heap.size, 4, none⟩ = some (.bool d) := by rw [← hW0]; simp [go_sem]
  have H1 := hide (fullI_any b off c l W0 (Nat.lt_of_lt_of_le hbl HB.out.size) (Row.kept HC.out HB.out hbl) hl)
  have HE := hide (show roomB l d = (!d && !((countL l : Int) == (l.length : Int))) from rfl)
  obtain ⟨fu, hfu⟩ : ∃ q, ((countL l : Int) == (l.length : Int)) = q := ⟨_, rfl⟩
  rw [hfu] at H1 HE
  clear hfu
  cases d with
  | true =>
    go_enter Tryz.func97, Tryz.ntmps97
    go_wp2
    go_ret
    exact ⟨by rw [HE.out]; rfl, HB.out⟩
  | false =>
    go_enter Tryz.func97, Tryz.ntmps97
    go_wp2_with fail
    refine (H1.out).mono ?_
    rintro e v1 ⟨rfl, hb⟩
    replace z0 := bC hb z0 zz
    replace z1 := bC hb z1 zz
    replace z2 := bC hb z2 zz
    replace z3 := bC hb z3 zz
    replace z4 := bC hb z4 zz
    replace zz := Nat.lt_of_lt_of_le zz hb.size
    replace HB := hide (HB.out.trans (hb.mono HB.out.size))
    clear hb
    go_wp2
    go_ret
    exact ⟨by rw [HE.out]; rfl, HB.out⟩

set_option maxHeartbeats 2000000 in
theorem keepI_any (g c base : Nat) (l : List Sl) (a p f s now : Int) (o : Option Addr) (n cp : Nat) (w : World) (hn : 0 < l.length) (hl : l.length ≤ 1048576) (hfl : flowOkB a p = true) (hn0 : 0 ≤ now) (hn1 : now ≤ 100000) (ho : w.ownsRow base CellT 5 (.slice (some ⟨g, 0, none⟩) l.length c) l.length (l.flatMap layS.cs)) :
    Calls Tryz.prog 94 #[.agg #[.slice (some ⟨g, 0, none⟩) l.length c], .agg #[.int .i64 a, .int .i64 p, .int .i64 f, .int .i64 s, .slice o n cp], .int .i64 now] w fun e w' => (∃ v, e = .returned v) ∧ w'.ownsRow base CellT 5 (.slice (some ⟨g, 0, none⟩) l.length c) l.length ((putL l a p s (now + 50)).flatMap layS.cs) ∧ Stp g (g + 1) w w' := by
  have hw1 : IntKind.i64.wrap (now + 50) = now + 50 := by rw [IntKind.wrap_i64]; omega
  have HO := hide ho
  clear ho
  obtain ⟨W0, hW0⟩ : ∃ W, ((w.alloc (.cells #[.slice (some ⟨g, 0, none⟩) l.length c] 71)).alloc (.cells #[.int .i64 a, .int .i64 p, .int .i64 f, .int .i64 s, .slice o n cp] 47)) = W := ⟨_, rfl⟩
  have hb_W0 : Below w.heap.size w W0 := by rw [← hW0]; exact (((Below.refl _ _).alloc (Nat.le_refl _) _).alloc (by simp <;> omega) _)
  have HB := hide hb_W0
  clear hb_W0
  have zz : w.heap.size < W0.heap.size := by rw [← hW0]; simp <;> omega
  have z0 : W0.cell? ⟨w.heap.size, 0, none⟩ = some (.slice (some ⟨g, 0, none⟩) l.length c) := by rw [← hW0]; simp [go_sem]
  have zk : w.heap.size + 1 < W0.heap.size := by rw [← hW0]; simp
  have k0 : W0.cell? ⟨w.heap.size + 1, 0, none⟩ = some (.int .i64 a) := by rw [← hW0]; simp [go_sem]
  have k1 : W0.cell? ⟨w.heap.size + 1, 1, none⟩ = some (.int .i64 p) := by rw [← hW0]; simp [go_sem]
  have k2 : W0.cell? ⟨w.heap.size + 1, 2, none⟩ = some (.int .i64 f) := by rw [← hW0]; simp [go_sem]
  have k3 : W0.cell? ⟨w.heap.size + 1, 3, none⟩ = some (.int .i64 s) := by rw [← hW0]; simp [go_sem]
  have k4 : W0.cell? ⟨w.heap.size + 1, 4, none⟩ = some (.slice o n cp) := by rw [← hW0]; simp [go_sem]
  have H1 := hide (put_any g c base l a p s (now + 50) W0 hn hl hfl (own_kept HO.out HB.out))
  have HS0 : Hid (Stp g (g + 1) w W0) := Stp.of HB.out
  generalize putL l a p s (now + 50) = tl at *
  generalize decide (0 ≤ (endL l a p).1) = tb at *
  go_enter Tryz.func94, Tryz.ntmps94
  go_wp2_with fail
  refine H1.out.mono ?_
  rintro e v1 ⟨rfl, ho1, st1⟩
  have HO1 := hide ho1
  have HS1 : Hid (Stp g (g + 1) w v1) := HS0.out.trans st1
  clear ho1 st1 H1
  go_wp2
  refine bodyPost_end (v := .tuple #[]) (by simp [results, Tryz.results94, go_sem]) rfl ⟨⟨_, rfl⟩, HO1.out, HS1.out⟩

set_option maxHeartbeats 2000000 in
theorem shunI_any (g c base : Nat) (l : List Sl) (a p now : Int) (w : World) (hn : 0 < l.length) (hl : l.length ≤ 1048576) (hfl : flowOkB a p = true) (hn0 : 0 ≤ now) (hn1 : now ≤ 100000) (ho : w.ownsRow base CellT 5 (.slice (some ⟨g, 0, none⟩) l.length c) l.length (l.flatMap layS.cs)) :
    Calls Tryz.prog 93 #[.agg #[.slice (some ⟨g, 0, none⟩) l.length c], flow a p, .int .i64 now] w fun e w' => e = .returned (.bool (decide (0 ≤ (endL l a p).1))) ∧ w'.ownsRow base CellT 5 (.slice (some ⟨g, 0, none⟩) l.length c) l.length ((putL l a p 0 (now + 21)).flatMap layS.cs) ∧ Stp g (g + 1) w w' := by
  have hw1 : IntKind.i64.wrap (now + 21) = now + 21 := by rw [IntKind.wrap_i64]; omega
  have HO := hide ho
  clear ho
  obtain ⟨W0, hW0⟩ : ∃ W, ((w.alloc (.cells #[.slice (some ⟨g, 0, none⟩) l.length c] 72)).alloc (.cells #[.int .i64 a, .int .i64 p] 45)) = W := ⟨_, rfl⟩
  have hb_W0 : Below w.heap.size w W0 := by rw [← hW0]; exact (((Below.refl _ _).alloc (Nat.le_refl _) _).alloc (by simp <;> omega) _)
  have HB := hide hb_W0
  clear hb_W0
  have zz : w.heap.size < W0.heap.size := by rw [← hW0]; simp <;> omega
  have z0 : W0.cell? ⟨w.heap.size, 0, none⟩ = some (.slice (some ⟨g, 0, none⟩) l.length c) := by rw [← hW0]; simp [go_sem]
  have zk : w.heap.size + 1 < W0.heap.size := by rw [← hW0]; simp
  have k0 : W0.cell? ⟨w.heap.size + 1, 0, none⟩ = some (.int .i64 a) := by rw [← hW0]; simp [go_sem]
  have k1 : W0.cell? ⟨w.heap.size + 1, 1, none⟩ = some (.int .i64 p) := by rw [← hW0]; simp [go_sem]
  have H1 := hide (put_any g c base l a p 0 (now + 21) W0 hn hl hfl (own_kept HO.out HB.out))
  have HS0 : Hid (Stp g (g + 1) w W0) := Stp.of HB.out
  generalize putL l a p 0 (now + 21) = tl at *
  obtain ⟨tb, htb⟩ : ∃ q, decide (0 ≤ (endL l a p).1) = q := ⟨_, rfl⟩
  rw [htb] at H1 ⊢
  clear htb
  go_enter Tryz.func93, Tryz.ntmps93
  go_wp2_with fail
  refine H1.out.mono ?_
  rintro e v1 ⟨rfl, ho1, st1⟩
  have HO1 := hide ho1
  have HS1 : Hid (Stp g (g + 1) w v1) := HS0.out.trans st1
  clear ho1 st1 H1
  go_wp2
  go_ret
  exact ⟨rfl, HO1.out, HS1.out⟩

end Go.Proofs.YtmkgbmmibjgeaaaGreat

/- The program's rules: whom it is not for, what is too old, what is another's, what is refused, what begins. -/
namespace Go.Proofs.YtmkgbmmibjgeaaaGreat
open Go.ChangeShapes Go.WideShapes Go.ChangeAt Go.RowKit Go.Joins
set_option linter.unusedVariables false
set_option linter.unusedSimpArgs false

theorem segF0 (sb sf : Int) (w : World) : (Instr.field 93 (.agg #[.int .i64 sb, .int .i64 sf]) 0).run Tryz.prog w = .ok (.int .i64 sb) w := by kernel_rfl
theorem segF1 (sb sf : Int) (w : World) : (Instr.field 93 (.agg #[.int .i64 sb, .int .i64 sf]) 1).run Tryz.prog w = .ok (.int .i64 sf) w := by kernel_rfl

set_option maxRecDepth 20000 in
set_option maxHeartbeats 4000000 in
theorem lostI_any (o1 o2 o3 : Option Addr) (n1 c1 n2 c2 n3 c3 bg fg gl cg k : Nat) (i l : Int) (d : Bool) (a p f s st now : Int) (sb sf : Int) (w : World) (hk : k < gl) (hgl : gl ≤ 1048576) (zg : bg < w.heap.size) (hs0 : w.cell? ⟨bg, fg + k * 2, none⟩ = some (.int .i64 sb)) (hs1 : w.cell? ⟨bg, fg + k * 2 + 1, none⟩ = some (.int .i64 sf)) :
    Calls Tryz.prog 57 #[visV (.slice o1 n1 c1) (.slice o2 n2 c2) i l d a p f s (.slice o3 n3 c3) (.slice (some ⟨bg, fg, none⟩) gl cg) (k : Int) st now] w fun e w' => e = .returned (.int .i64 (if sb = i then -1 else 6)) ∧ Below w.heap.size w w' := by
  obtain ⟨W0, hW0⟩ : ∃ W, (w.alloc (.cells #[.slice o1 n1 c1, .slice o2 n2 c2, .int .i64 i, .int .i64 l, .bool d, .int .i64 a, .int .i64 p, .int .i64 f, .int .i64 s, .slice o3 n3 c3, .slice (some ⟨bg, fg, none⟩) gl cg, .int .i64 (k : Int), .int .i64 st, .int .i64 now] 78)) = W := ⟨_, rfl⟩
  have hb_W0 : Below w.heap.size w W0 := by rw [← hW0]; exact ((Below.refl _ _).alloc (Nat.le_refl _) _)
  have HB := hide hb_W0
  clear hb_W0
  have zz : w.heap.size < W0.heap.size := by rw [← hW0]; simp
  have z0 : W0.cell? ⟨w.heap.size, 0, none⟩ = some (.slice o1 n1 c1) := by rw [← hW0]; simp [go_sem]
  have z1 : W0.cell? ⟨w.heap.size, 1, none⟩ = some (.slice o2 n2 c2) := by rw [← hW0]; simp [go_sem]
  have z2 : W0.cell? ⟨w.heap.size, 2, none⟩ = some (.int .i64 i) := by rw [← hW0]; simp [go_sem]
  have z3 : W0.cell? ⟨w.heap.size, 3, none⟩ = some (.int .i64 l) := by rw [← hW0]; simp [go_sem]
  have z4 : W0.cell? ⟨w.heap.size, 4, none⟩ = some (.bool d) := by rw [← hW0]; simp [go_sem]
  have z5 : W0.cell? ⟨w.heap.size, 5, none⟩ = some (.int .i64 a) := by rw [← hW0]; simp [go_sem]
  have z6 : W0.cell? ⟨w.heap.size, 6, none⟩ = some (.int .i64 p) := by rw [← hW0]; simp [go_sem]
  have z7 : W0.cell? ⟨w.heap.size, 7, none⟩ = some (.int .i64 f) := by rw [← hW0]; simp [go_sem]
  have z8 : W0.cell? ⟨w.heap.size, 8, none⟩ = some (.int .i64 s) := by rw [← hW0]; simp [go_sem]
  have z9 : W0.cell? ⟨w.heap.size, 9, none⟩ = some (.slice o3 n3 c3) := by rw [← hW0]; simp [go_sem]
  have z10 : W0.cell? ⟨w.heap.size, 10, none⟩ = some (.slice (some ⟨bg, fg, none⟩) gl cg) := by rw [← hW0]; simp [go_sem]
  have z11 : W0.cell? ⟨w.heap.size, 11, none⟩ = some (.int .i64 (k : Int)) := by rw [← hW0]; simp [go_sem]
  have z12 : W0.cell? ⟨w.heap.size, 12, none⟩ = some (.int .i64 st) := by rw [← hW0]; simp [go_sem]
  have z13 : W0.cell? ⟨w.heap.size, 13, none⟩ = some (.int .i64 now) := by rw [← hW0]; simp [go_sem]
  have HH := hide (fun pp : Grown W0 => visHere_any o1 o2 o3 n1 c1 n2 c2 n3 c3 bg fg gl cg k i l d a p f s st now sb sf pp.v hk hgl (Nat.lt_of_lt_of_le (Nat.lt_of_lt_of_le zg HB.out.size) pp.b.size) ((pp.b.cell (p := ⟨bg, fg + k * 2, none⟩) (Nat.lt_of_lt_of_le zg HB.out.size)).trans ((HB.out.cell (p := ⟨bg, fg + k * 2, none⟩) zg).trans hs0)) ((pp.b.cell (p := ⟨bg, fg + k * 2 + 1, none⟩) (Nat.lt_of_lt_of_le zg HB.out.size)).trans ((HB.out.cell (p := ⟨bg, fg + k * 2 + 1, none⟩) zg).trans hs1)))
  clear hs0 hs1
  have G0 := Grown.cell z0 zz
  have G1 := Grown.cell z1 zz
  have G2 := Grown.cell z2 zz
  have G3 := Grown.cell z3 zz
  have G4 := Grown.cell z4 zz
  have G5 := Grown.cell z5 zz
  have G6 := Grown.cell z6 zz
  have G7 := Grown.cell z7 zz
  have G8 := Grown.cell z8 zz
  have G9 := Grown.cell z9 zz
  have G10 := Grown.cell z10 zz
  have G11 := Grown.cell z11 zz
  have G12 := Grown.cell z12 zz
  have G13 := Grown.cell z13 zz
  by_cases h1 : sb = i
  · subst h1
    have HE := hide (if_pos rfl : (if sb = sb then (-1 : Int) else 6) = -1)
    have hfd := segF0 sb sf
    go_enter Tryz.func57, Tryz.ntmps57
    go_wp2
    (refine wp_region_grown (by kernel_rfl) (by kernel_rfl) ?_; intro hne9; (repeat (go_big_quiet_step ((go_at_call 88; exact grown_of _ (HH.out _))))); (with_reducible refine wpQuiet_nil ?_); intro _ hw9; obtain ⟨pq, hw8⟩ := hw9; subst hw8)
    go_wp2
    go_ret
    first | exact ⟨rfl, HB.out.trans (pq.b.mono HB.out.size)⟩ | exact ⟨ret_int HE.out.symm, HB.out.trans (pq.b.mono HB.out.size)⟩
  · skip
    have HE := hide (if_neg h1 : (if sb = i then (-1 : Int) else 6) = 6)
    have hfd := segF0 sb sf
    go_enter Tryz.func57, Tryz.ntmps57
    go_wp2
    (refine wp_region_grown (by kernel_rfl) (by kernel_rfl) ?_; intro hne9; (repeat (go_big_quiet_step ((go_at_call 88; exact grown_of _ (HH.out _))))); (with_reducible refine wpQuiet_nil ?_); intro _ hw9; obtain ⟨pq, hw8⟩ := hw9; subst hw8)
    go_wp2
    go_ret
    first | exact ⟨rfl, HB.out.trans (pq.b.mono HB.out.size)⟩ | exact ⟨ret_int HE.out.symm, HB.out.trans (pq.b.mono HB.out.size)⟩

set_option maxRecDepth 20000 in
set_option maxHeartbeats 4000000 in
theorem oldI_any (o1 o2 o3 : Option Addr) (n1 c1 n2 c2 n3 c3 bg fg gl cg k : Nat) (i l : Int) (d : Bool) (a p f s st now : Int) (w : World) (hn3 : n3 ≤ maxLen) (hpk : packetOkB a p f s n3 = true) (hn0 : 0 ≤ now) (hn1 : now ≤ 100000) (hst0 : 0 ≤ st) (hst1 : st ≤ 100000) :
    Calls Tryz.prog 58 #[visV (.slice o1 n1 c1) (.slice o2 n2 c2) i l d a p f s (.slice o3 n3 c3) (.slice (some ⟨bg, fg, none⟩) gl cg) (k : Int) st now] w fun e w' => e = .returned (.int .i64 (if (bits .and .i64 f 3 == 1) = true ∧ 10 < now - st then 4 else -1)) ∧ Below w.heap.size w w' := by
  have hw1 : IntKind.i64.wrap (now - st) = now - st := by rw [IntKind.wrap_i64]; omega
  obtain ⟨W0, hW0⟩ : ∃ W, (w.alloc (.cells #[.slice o1 n1 c1, .slice o2 n2 c2, .int .i64 i, .int .i64 l, .bool d, .int .i64 a, .int .i64 p, .int .i64 f, .int .i64 s, .slice o3 n3 c3, .slice (some ⟨bg, fg, none⟩) gl cg, .int .i64 (k : Int), .int .i64 st, .int .i64 now] 78)) = W := ⟨_, rfl⟩
  have hb_W0 : Below w.heap.size w W0 := by rw [← hW0]; exact ((Below.refl _ _).alloc (Nat.le_refl _) _)
  have HB := hide hb_W0
  clear hb_W0
  have zz : w.heap.size < W0.heap.size := by rw [← hW0]; simp
  have z0 : W0.cell? ⟨w.heap.size, 0, none⟩ = some (.slice o1 n1 c1) := by rw [← hW0]; simp [go_sem]
  have z1 : W0.cell? ⟨w.heap.size, 1, none⟩ = some (.slice o2 n2 c2) := by rw [← hW0]; simp [go_sem]
  have z2 : W0.cell? ⟨w.heap.size, 2, none⟩ = some (.int .i64 i) := by rw [← hW0]; simp [go_sem]
  have z3 : W0.cell? ⟨w.heap.size, 3, none⟩ = some (.int .i64 l) := by rw [← hW0]; simp [go_sem]
  have z4 : W0.cell? ⟨w.heap.size, 4, none⟩ = some (.bool d) := by rw [← hW0]; simp [go_sem]
  have z5 : W0.cell? ⟨w.heap.size, 5, none⟩ = some (.int .i64 a) := by rw [← hW0]; simp [go_sem]
  have z6 : W0.cell? ⟨w.heap.size, 6, none⟩ = some (.int .i64 p) := by rw [← hW0]; simp [go_sem]
  have z7 : W0.cell? ⟨w.heap.size, 7, none⟩ = some (.int .i64 f) := by rw [← hW0]; simp [go_sem]
  have z8 : W0.cell? ⟨w.heap.size, 8, none⟩ = some (.int .i64 s) := by rw [← hW0]; simp [go_sem]
  have z9 : W0.cell? ⟨w.heap.size, 9, none⟩ = some (.slice o3 n3 c3) := by rw [← hW0]; simp [go_sem]
  have z10 : W0.cell? ⟨w.heap.size, 10, none⟩ = some (.slice (some ⟨bg, fg, none⟩) gl cg) := by rw [← hW0]; simp [go_sem]
  have z11 : W0.cell? ⟨w.heap.size, 11, none⟩ = some (.int .i64 (k : Int)) := by rw [← hW0]; simp [go_sem]
  have z12 : W0.cell? ⟨w.heap.size, 12, none⟩ = some (.int .i64 st) := by rw [← hW0]; simp [go_sem]
  have z13 : W0.cell? ⟨w.heap.size, 13, none⟩ = some (.int .i64 now) := by rw [← hW0]; simp [go_sem]
  have H1 := hide (implOpens_any a p f s o3 n3 c3 W0 hn3)
  rw [← opensB_yes hpk] at H1
  generalize (bits .and .i64 f 3 == 1) = op at *
  cases op with
  | false =>
    go_enter Tryz.func58, Tryz.ntmps58
    go_wp2_with fail
    refine (H1.out).mono ?_
    rintro e v1 ⟨rfl, hb⟩
    replace z0 := bC hb z0 zz
    replace z1 := bC hb z1 zz
    replace z2 := bC hb z2 zz
    replace z3 := bC hb z3 zz
    replace z4 := bC hb z4 zz
    replace z5 := bC hb z5 zz
    replace z6 := bC hb z6 zz
    replace z7 := bC hb z7 zz
    replace z8 := bC hb z8 zz
    replace z9 := bC hb z9 zz
    replace z10 := bC hb z10 zz
    replace z11 := bC hb z11 zz
    replace z12 := bC hb z12 zz
    replace z13 := bC hb z13 zz
    replace zz := Nat.lt_of_lt_of_le zz hb.size
    replace HB := hide (HB.out.trans (hb.mono HB.out.size))
    clear hb
    go_wp2
    all_goals go_ret
    all_goals refine ⟨ret_int ?_, HB.out⟩
    all_goals first | rfl | (exfalso; simp_all; done) | simp
  | true =>
    go_enter Tryz.func58, Tryz.ntmps58
    go_wp2_with fail
    refine (H1.out).mono ?_
    rintro e v1 ⟨rfl, hb⟩
    replace z0 := bC hb z0 zz
    replace z1 := bC hb z1 zz
    replace z2 := bC hb z2 zz
    replace z3 := bC hb z3 zz
    replace z4 := bC hb z4 zz
    replace z5 := bC hb z5 zz
    replace z6 := bC hb z6 zz
    replace z7 := bC hb z7 zz
    replace z8 := bC hb z8 zz
    replace z9 := bC hb z9 zz
    replace z10 := bC hb z10 zz
    replace z11 := bC hb z11 zz
    replace z12 := bC hb z12 zz
    replace z13 := bC hb z13 zz
    replace zz := Nat.lt_of_lt_of_le zz hb.size
    replace HB := hide (HB.out.trans (hb.mono HB.out.size))
    clear hb
    go_wp2
    all_goals go_ret
    all_goals refine ⟨ret_int ?_, HB.out⟩
    all_goals first | rfl | (exfalso; omega) | (exfalso; simp_all; omega) | (split <;> first | rfl | omega | (simp_all; omega))

set_option maxRecDepth 20000 in
set_option maxHeartbeats 4000000 in
theorem ownI_any (o1 o2 o3 : Option Addr) (n1 c1 n2 c2 n3 c3 bg fg gl cg k : Nat) (i l : Int) (d : Bool) (a p f s st now : Int) (sb sf : Int) (w : World) (hk : k < gl) (hgl : gl ≤ 1048576) (zg : bg < w.heap.size) (hs0 : w.cell? ⟨bg, fg + k * 2, none⟩ = some (.int .i64 sb)) (hs1 : w.cell? ⟨bg, fg + k * 2 + 1, none⟩ = some (.int .i64 sf)) :
    Calls Tryz.prog 60 #[visV (.slice o1 n1 c1) (.slice o2 n2 c2) i l d a p f s (.slice o3 n3 c3) (.slice (some ⟨bg, fg, none⟩) gl cg) (k : Int) st now] w fun e w' => e = .returned (.int .i64 (if sf = 0 then (if lastB k gl = true then 3 else 2) else -1)) ∧ Below w.heap.size w w' := by
  obtain ⟨W0, hW0⟩ : ∃ W, (w.alloc (.cells #[.slice o1 n1 c1, .slice o2 n2 c2, .int .i64 i, .int .i64 l, .bool d, .int .i64 a, .int .i64 p, .int .i64 f, .int .i64 s, .slice o3 n3 c3, .slice (some ⟨bg, fg, none⟩) gl cg, .int .i64 (k : Int), .int .i64 st, .int .i64 now] 78)) = W := ⟨_, rfl⟩
  have hb_W0 : Below w.heap.size w W0 := by rw [← hW0]; exact ((Below.refl _ _).alloc (Nat.le_refl _) _)
  have HB := hide hb_W0
  clear hb_W0
  have zz : w.heap.size < W0.heap.size := by rw [← hW0]; simp
  have z0 : W0.cell? ⟨w.heap.size, 0, none⟩ = some (.slice o1 n1 c1) := by rw [← hW0]; simp [go_sem]
  have z1 : W0.cell? ⟨w.heap.size, 1, none⟩ = some (.slice o2 n2 c2) := by rw [← hW0]; simp [go_sem]
  have z2 : W0.cell? ⟨w.heap.size, 2, none⟩ = some (.int .i64 i) := by rw [← hW0]; simp [go_sem]
  have z3 : W0.cell? ⟨w.heap.size, 3, none⟩ = some (.int .i64 l) := by rw [← hW0]; simp [go_sem]
  have z4 : W0.cell? ⟨w.heap.size, 4, none⟩ = some (.bool d) := by rw [← hW0]; simp [go_sem]
  have z5 : W0.cell? ⟨w.heap.size, 5, none⟩ = some (.int .i64 a) := by rw [← hW0]; simp [go_sem]
  have z6 : W0.cell? ⟨w.heap.size, 6, none⟩ = some (.int .i64 p) := by rw [← hW0]; simp [go_sem]
  have z7 : W0.cell? ⟨w.heap.size, 7, none⟩ = some (.int .i64 f) := by rw [← hW0]; simp [go_sem]
  have z8 : W0.cell? ⟨w.heap.size, 8, none⟩ = some (.int .i64 s) := by rw [← hW0]; simp [go_sem]
  have z9 : W0.cell? ⟨w.heap.size, 9, none⟩ = some (.slice o3 n3 c3) := by rw [← hW0]; simp [go_sem]
  have z10 : W0.cell? ⟨w.heap.size, 10, none⟩ = some (.slice (some ⟨bg, fg, none⟩) gl cg) := by rw [← hW0]; simp [go_sem]
  have z11 : W0.cell? ⟨w.heap.size, 11, none⟩ = some (.int .i64 (k : Int)) := by rw [← hW0]; simp [go_sem]
  have z12 : W0.cell? ⟨w.heap.size, 12, none⟩ = some (.int .i64 st) := by rw [← hW0]; simp [go_sem]
  have z13 : W0.cell? ⟨w.heap.size, 13, none⟩ = some (.int .i64 now) := by rw [← hW0]; simp [go_sem]
  have H1 := hide (visHere_any o1 o2 o3 n1 c1 n2 c2 n3 c3 bg fg gl cg k i l d a p f s st now sb sf W0 hk hgl (Nat.lt_of_lt_of_le zg HB.out.size) ((HB.out.cell (p := ⟨bg, fg + k * 2, none⟩) zg).trans hs0) ((HB.out.cell (p := ⟨bg, fg + k * 2 + 1, none⟩) zg).trans hs1))
  clear hs0 hs1
  have H2 := hide (fun W => visLast_any o1 o2 o3 n1 c1 n2 c2 n3 c3 bg fg gl cg k i l d a p f s st now W hk hgl)
  obtain ⟨lb, hlb⟩ : ∃ q, lastB k gl = q := ⟨_, rfl⟩
  rw [hlb] at H2 ⊢
  clear hlb
  by_cases h0 : sf = 0
  · subst h0
    cases lb with
    | false =>
      have hfd := segF1 sb 0
      go_enter Tryz.func60, Tryz.ntmps60
      go_wp2_with fail
      refine (H1.out).mono ?_
      rintro e v1 ⟨rfl, hb⟩
      replace z0 := bC hb z0 zz
      replace z1 := bC hb z1 zz
      replace z2 := bC hb z2 zz
      replace z3 := bC hb z3 zz
      replace z4 := bC hb z4 zz
      replace z5 := bC hb z5 zz
      replace z6 := bC hb z6 zz
      replace z7 := bC hb z7 zz
      replace z8 := bC hb z8 zz
      replace z9 := bC hb z9 zz
      replace z10 := bC hb z10 zz
      replace z11 := bC hb z11 zz
      replace z12 := bC hb z12 zz
      replace z13 := bC hb z13 zz
      replace zz := Nat.lt_of_lt_of_le zz hb.size
      replace HB := hide (HB.out.trans (hb.mono HB.out.size))
      clear hb
      go_wp2_with fail
      refine (H2.out _).mono ?_
      rintro e v2 ⟨rfl, hb⟩
      replace z0 := bC hb z0 zz
      replace z1 := bC hb z1 zz
      replace z2 := bC hb z2 zz
      replace z3 := bC hb z3 zz
      replace z4 := bC hb z4 zz
      replace z5 := bC hb z5 zz
      replace z6 := bC hb z6 zz
      replace z7 := bC hb z7 zz
      replace z8 := bC hb z8 zz
      replace z9 := bC hb z9 zz
      replace z10 := bC hb z10 zz
      replace z11 := bC hb z11 zz
      replace z12 := bC hb z12 zz
      replace z13 := bC hb z13 zz
      replace zz := Nat.lt_of_lt_of_le zz hb.size
      replace HB := hide (HB.out.trans (hb.mono HB.out.size))
      clear hb
      go_wp2
      go_ret
      exact ⟨rfl, HB.out⟩
    | true =>
      have hfd := segF1 sb 0
      go_enter Tryz.func60, Tryz.ntmps60
      go_wp2_with fail
      refine (H1.out).mono ?_
      rintro e v1 ⟨rfl, hb⟩
      replace z0 := bC hb z0 zz
      replace z1 := bC hb z1 zz
      replace z2 := bC hb z2 zz
      replace z3 := bC hb z3 zz
      replace z4 := bC hb z4 zz
      replace z5 := bC hb z5 zz
      replace z6 := bC hb z6 zz
      replace z7 := bC hb z7 zz
      replace z8 := bC hb z8 zz
      replace z9 := bC hb z9 zz
      replace z10 := bC hb z10 zz
      replace z11 := bC hb z11 zz
      replace z12 := bC hb z12 zz
      replace z13 := bC hb z13 zz
      replace zz := Nat.lt_of_lt_of_le zz hb.size
      replace HB := hide (HB.out.trans (hb.mono HB.out.size))
      clear hb
      go_wp2_with fail
      refine (H2.out _).mono ?_
      rintro e v2 ⟨rfl, hb⟩
      replace z0 := bC hb z0 zz
      replace z1 := bC hb z1 zz
      replace z2 := bC hb z2 zz
      replace z3 := bC hb z3 zz
      replace z4 := bC hb z4 zz
      replace z5 := bC hb z5 zz
      replace z6 := bC hb z6 zz
      replace z7 := bC hb z7 zz
      replace z8 := bC hb z8 zz
      replace z9 := bC hb z9 zz
      replace z10 := bC hb z10 zz
      replace z11 := bC hb z11 zz
      replace z12 := bC hb z12 zz
      replace z13 := bC hb z13 zz
      replace zz := Nat.lt_of_lt_of_le zz hb.size
      replace HB := hide (HB.out.trans (hb.mono HB.out.size))
      clear hb
      go_wp2
      go_ret
      exact ⟨rfl, HB.out⟩
  · rw [if_neg h0]
    have hfd := segF1 sb sf
    go_enter Tryz.func60, Tryz.ntmps60
    go_wp2_with fail
    refine (H1.out).mono ?_
    rintro e v1 ⟨rfl, hb⟩
    replace z0 := bC hb z0 zz
    replace z1 := bC hb z1 zz
    replace z2 := bC hb z2 zz
    replace z3 := bC hb z3 zz
    replace z4 := bC hb z4 zz
    replace z5 := bC hb z5 zz
    replace z6 := bC hb z6 zz
    replace z7 := bC hb z7 zz
    replace z8 := bC hb z8 zz
    replace z9 := bC hb z9 zz
    replace z10 := bC hb z10 zz
    replace z11 := bC hb z11 zz
    replace z12 := bC hb z12 zz
    replace z13 := bC hb z13 zz
    replace zz := Nat.lt_of_lt_of_le zz hb.size
    replace HB := hide (HB.out.trans (hb.mono HB.out.size))
    clear hb
    go_wp2
    go_ret
    exact ⟨rfl, HB.out⟩

set_option maxRecDepth 20000 in
set_option maxHeartbeats 4000000 in
theorem beginI_any (g base n1 : Nat) (c : List Sl) (o2 o3 : Option Addr) (n2 c2 n3 c3 bg fg gl cg k : Nat) (i l : Int) (d : Bool) (a p f s st now : Int) (w : World) (hc0 : 0 < c.length) (hc1 : c.length ≤ 1048576) (hfl : flowOkB a p = true) (hn0 : 0 ≤ now) (hn1 : now ≤ 100000) (ho : w.ownsRow base CellT 5 (.slice (some ⟨g, 0, none⟩) c.length n1) c.length (c.flatMap layS.cs)) :
    Calls Tryz.prog 63 #[visV (.slice (some ⟨g, 0, none⟩) c.length n1) (.slice o2 n2 c2) i l d a p f s (.slice o3 n3 c3) (.slice (some ⟨bg, fg, none⟩) gl cg) (k : Int) st now] w fun e w' => e = .returned (.int .i64 1) ∧ w'.ownsRow base CellT 5 (.slice (some ⟨g, 0, none⟩) c.length n1) c.length ((putL c a p s (now + 50)).flatMap layS.cs) ∧ Stp g (g + 1) w w' := by
  have HO := hide ho
  clear ho
  obtain ⟨W0, hW0⟩ : ∃ W, (w.alloc (.cells #[.slice (some ⟨g, 0, none⟩) c.length n1, .slice o2 n2 c2, .int .i64 i, .int .i64 l, .bool d, .int .i64 a, .int .i64 p, .int .i64 f, .int .i64 s, .slice o3 n3 c3, .slice (some ⟨bg, fg, none⟩) gl cg, .int .i64 (k : Int), .int .i64 st, .int .i64 now] 78)) = W := ⟨_, rfl⟩
  have hb_W0 : Below w.heap.size w W0 := by rw [← hW0]; exact ((Below.refl _ _).alloc (Nat.le_refl _) _)
  have HB := hide hb_W0
  clear hb_W0
  have zz : w.heap.size < W0.heap.size := by rw [← hW0]; simp
  have z0 : W0.cell? ⟨w.heap.size, 0, none⟩ = some (.slice (some ⟨g, 0, none⟩) c.length n1) := by rw [← hW0]; simp [go_sem]
  have z1 : W0.cell? ⟨w.heap.size, 1, none⟩ = some (.slice o2 n2 c2) := by rw [← hW0]; simp [go_sem]
  have z2 : W0.cell? ⟨w.heap.size, 2, none⟩ = some (.int .i64 i) := by rw [← hW0]; simp [go_sem]
  have z3 : W0.cell? ⟨w.heap.size, 3, none⟩ = some (.int .i64 l) := by rw [← hW0]; simp [go_sem]
  have z4 : W0.cell? ⟨w.heap.size, 4, none⟩ = some (.bool d) := by rw [← hW0]; simp [go_sem]
  have z5 : W0.cell? ⟨w.heap.size, 5, none⟩ = some (.int .i64 a) := by rw [← hW0]; simp [go_sem]
  have z6 : W0.cell? ⟨w.heap.size, 6, none⟩ = some (.int .i64 p) := by rw [← hW0]; simp [go_sem]
  have z7 : W0.cell? ⟨w.heap.size, 7, none⟩ = some (.int .i64 f) := by rw [← hW0]; simp [go_sem]
  have z8 : W0.cell? ⟨w.heap.size, 8, none⟩ = some (.int .i64 s) := by rw [← hW0]; simp [go_sem]
  have z9 : W0.cell? ⟨w.heap.size, 9, none⟩ = some (.slice o3 n3 c3) := by rw [← hW0]; simp [go_sem]
  have z10 : W0.cell? ⟨w.heap.size, 10, none⟩ = some (.slice (some ⟨bg, fg, none⟩) gl cg) := by rw [← hW0]; simp [go_sem]
  have z11 : W0.cell? ⟨w.heap.size, 11, none⟩ = some (.int .i64 (k : Int)) := by rw [← hW0]; simp [go_sem]
  have z12 : W0.cell? ⟨w.heap.size, 12, none⟩ = some (.int .i64 st) := by rw [← hW0]; simp [go_sem]
  have z13 : W0.cell? ⟨w.heap.size, 13, none⟩ = some (.int .i64 now) := by rw [← hW0]; simp [go_sem]
  have H1 := hide (keepI_any g n1 base c a p f s now o3 n3 c3 W0 hc0 hc1 hfl hn0 hn1 (own_kept HO.out HB.out))
  have HS0 : Hid (Stp g (g + 1) w W0) := Stp.of HB.out
  generalize putL c a p s (now + 50) = tl at *
  go_enter Tryz.func63, Tryz.ntmps63
  go_wp2_with fail
  refine H1.out.mono ?_
  rintro e v1 ⟨⟨v, rfl⟩, ho1, st1⟩
  have HO1 := hide ho1
  have HS1 : Hid (Stp g (g + 1) w v1) := HS0.out.trans st1
  clear ho1 st1 H1
  go_wp2
  go_ret
  exact ⟨rfl, HO1.out, HS1.out⟩

end Go.Proofs.YtmkgbmmibjgeaaaGreat

