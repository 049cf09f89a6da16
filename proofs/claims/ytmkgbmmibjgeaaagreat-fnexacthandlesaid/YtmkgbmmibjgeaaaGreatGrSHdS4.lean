/- Several texts in one: SHdI3, SHdI4, SHdI5, SHdI6, SHdI7, SHdS4. -/
import Derived.Test.YtmkgbmmibjgeaaaGreatGrSHdI2
import Derived.Deep.RegionHeld3
import Derived.Test.YtmkgbmmibjgeaaaGreatGrSHdS
import Derived.Test.YtmkgbmmibjgeaaaGreatGrSCarr2
/- The program's rules: what is refused, and what is passed on. -/
namespace Go.Proofs.YtmkgbmmibjgeaaaGreat
open Go.ChangeShapes Go.WideShapes Go.ChangeAt Go.RowKit Go.Joins
set_option linter.unusedVariables false
set_option linter.unusedSimpArgs false

def refuseB (mc mt : List Sl) (d : Bool) (a p : Int) (k gl : Nat) : Bool := lastB k gl && ((endL mt a p).2 || !roomB mc d)
set_option maxRecDepth 20000 in
set_option maxHeartbeats 8000000 in
theorem refuseI_any (g h c1 c2 : Nat) (mc mt : List Sl) (o3 : Option Addr) (n3 c3 bg fg gl cg k : Nat) (i l : Int) (d : Bool) (a p f s st now : Int) (w : World) (hk : k < gl) (hgl : gl ≤ 1048576) (hfl : flowOkB a p = true) (hc0 : 0 < mc.length) (hc1 : mc.length ≤ 1048576) (ht0 : 0 < mt.length) (ht1 : mt.length ≤ 1048576) (zg : g < w.heap.size) (zh : h < w.heap.size) (hC : Row w g 0 mc) (hT : Row w h 0 mt) :
    Calls Tryz.prog 61 #[visV (.slice (some ⟨g, 0, none⟩) mc.length c1) (.slice (some ⟨h, 0, none⟩) mt.length c2) i l d a p f s (.slice o3 n3 c3) (.slice (some ⟨bg, fg, none⟩) gl cg) (k : Int) st now] w fun e w' => e = .returned (.int .i64 (if refuseB mc mt d a p k gl = true then 3 else -1)) ∧ Below w.heap.size w w' := by
  have HC := hide hC
  have HT := hide hT
  clear hC hT
  obtain ⟨W0, hW0⟩ : ∃ W, (w.alloc (.cells #[.slice (some ⟨g, 0, none⟩) mc.length c1, .slice (some ⟨h, 0, none⟩) mt.length c2, .int .i64 i, .int .i64 l, .bool d, .int .i64 a, .int .i64 p, .int .i64 f, .int .i64 s, .slice o3 n3 c3, .slice (some ⟨bg, fg, none⟩) gl cg, .int .i64 (k : Int), .int .i64 st, .int .i64 now] 78)) = W := ⟨_, rfl⟩
  have hb_W0 : Below w.heap.size w W0 := by rw [← hW0]; exact ((Below.refl _ _).alloc (Nat.le_refl _) _)
  have HB := hide hb_W0
  clear hb_W0
  have zz : w.heap.size < W0.heap.size := by rw [← hW0]; simp
  have z0 : W0.cell? ⟨w.heap.size, 0, none⟩ = some (.slice (some ⟨g, 0, none⟩) mc.length c1) := by rw [← hW0]; simp [go_sem]
  have z1 : W0.cell? ⟨w.heap.size, 1, none⟩ = some (.slice (some ⟨h, 0, none⟩) mt.length c2) := by rw [← hW0]; simp [go_sem]
  have z2 : W0.cell? ⟨w.heap.size, 2, none⟩ = some (.int .i64 i) := by rw [← hW0]; simp [go_sem]
  have z3 : W0.cell? ⟨w.heap.size, 3, none⟩ = some (.int .i64 l) := by rw [← hW0]; simp [go_sem]
  have z4 : W0.cell? ⟨w.heap.size, 4, none⟩ = some (.bool d) := by rw [← hW0]; simp [go_sem]
  have z5 : W0.cell? ⟨w.heap.size, 5, none⟩ = some (.int .i64 a) := by rw [← hW0]; simp [go_sem]
  have z6 : W0.cell? ⟨w.heap.size, 6, none⟩ = some (.int .i64 p) := by rw [← hW0]; simp [go_sem]
  have z7 : W0.cell? ⟨w.heap.size, 7, none⟩ = some (.int .i64 f) := by rw [← hW0]; simp [go_sem]
  have z8 : W0.cell? ⟨w.heap.size, 8, none⟩ = some (.int .i64 s) := by rw [← hW0]; simp [go_sem]
  have z9 : W0.cell? ⟨w.heap.size, 9, none⟩ = some (.slice o3 n3 c3) := by rw [← hW0]; simp [go_sem]
  have z10 : W0.cell? ⟨w.heap.size, 10, none⟩ = some (.slice (some ⟨bg, fg, none⟩) gl cg) := by rw [← hW0]; simp [go_sem]
  have z11 : W0.cell? ⟨w.heap.size, 11, none⟩ = some (.int .i64 (k : Int)) := by rw [← hW0]; simp [go_sem]
  have z12 : W0.cell? ⟨w.heap.size, 12, none⟩ = some (.int .i64 st) := by rw [← hW0]; simp [go_sem]
  have z13 : W0.cell? ⟨w.heap.size, 13, none⟩ = some (.int .i64 now) := by rw [← hW0]; simp [go_sem]
  have HF := hide (fun pp : Grown W0 => visFlow_any (some ⟨g, 0, none⟩) (some ⟨h, 0, none⟩) o3 mc.length c1 mt.length c2 n3 c3 bg fg gl cg k i l d a p f s st now pp.v)
  have HL := hide (fun pp : Grown W0 => visLast_any (some ⟨g, 0, none⟩) (some ⟨h, 0, none⟩) o3 mc.length c1 mt.length c2 n3 c3 bg fg gl cg k i l d a p f s st now pp.v hk hgl)
  have HS := hide (fun pp : Grown W0 => shunsI_any h 0 c2 mt a p pp.v ht0 ht1 hfl (Nat.lt_of_lt_of_le (Nat.lt_of_lt_of_le zh HB.out.size) pp.b.size) (Row.kept (Row.kept HT.out HB.out zh) pp.b (Nat.lt_of_lt_of_le zh HB.out.size)))
  have HRm := hide (fun pp : Grown W0 => hasRoomI_any g 0 c1 mc (some ⟨h, 0, none⟩) mt.length c2 i l d pp.v (Nat.lt_of_lt_of_le (Nat.lt_of_lt_of_le zg HB.out.size) pp.b.size) (Row.kept (Row.kept HC.out HB.out zg) pp.b (Nat.lt_of_lt_of_le zg HB.out.size)) hc1)
  have HCt := hide (fun pp : Grown W0 => countI_any g 0 c1 mc pp.v (Nat.lt_of_lt_of_le (Nat.lt_of_lt_of_le zg HB.out.size) pp.b.size) (Row.kept (Row.kept HC.out HB.out zg) pp.b (Nat.lt_of_lt_of_le zg HB.out.size)) hc1)
  have HE := hide (show refuseB mc mt d a p k gl = (lastB k gl && ((endL mt a p).2 || !roomB mc d)) from rfl)
  obtain ⟨lb, hlb⟩ : ∃ q, lastB k gl = q := ⟨_, rfl⟩
  obtain ⟨sh, hsh⟩ : ∃ q, (endL mt a p).2 = q := ⟨_, rfl⟩
  obtain ⟨rm, hrm⟩ : ∃ q, roomB mc d = q := ⟨_, rfl⟩
  rw [hlb] at HL HE
  rw [hsh] at HS HE
  rw [hrm] at HRm HE
  obtain ⟨rb, hrb⟩ : ∃ q, refuseB mc mt d a p k gl = q := ⟨_, rfl⟩
  rw [hrb] at HE ⊢
  clear hlb hsh hrm hrb
  have G0 := Grown.cell z0 zz
  have G1 := Grown.cell z1 zz
  have G2 := Grown.cell z2 zz
  have G3 := Grown.cell z3 zz
  have G4 := Grown.cell z4 zz
  have G5 := Grown.cell z5 zz
  have G6 := Grown.cell z6 zz
  have G7 := Grown.cell z7 zz
  have G8 := Grown.cell z8 zz
  have G9 := Grown.cell z9 zz
  have G10 := Grown.cell z10 zz
  have G11 := Grown.cell z11 zz
  have G12 := Grown.cell z12 zz
  have G13 := Grown.cell z13 zz
  cases lb <;> cases sh <;> cases rm
  all_goals (
    have hrb := HE.out
    simp at hrb
    subst hrb
    go_enter Tryz.func61, Tryz.ntmps61
    go_wp2
    (refine wp_region_grown (by kernel_rfl) (by kernel_rfl) ?_; intro hne9; (repeat (go_big_quiet_step (first | (go_at_call 95; exact grown_of _ (HL.out _)) | (go_at_call 90; exact grown_of _ (HF.out _)) | (go_at_call 96; exact grown_of _ (HS.out _)) | (go_at_call 97; exact grown_of _ (HRm.out _)) | (go_at_call 98; exact grown_of _ (HCt.out _))))); (with_reducible refine wpQuiet_nil ?_); intro _ hw9; obtain ⟨pq, hw8⟩ := hw9; subst hw8)
    go_wp2
    go_ret
    exact ⟨rfl, HB.out.trans (pq.b.mono HB.out.size)⟩)

end Go.Proofs.YtmkgbmmibjgeaaaGreat

/- The program's rule: what is passed on is shunned. -/
namespace Go.Proofs.YtmkgbmmibjgeaaaGreat
open Go.ChangeShapes Go.WideShapes Go.ChangeAt Go.RowKit Go.Joins
set_option linter.unusedVariables false
set_option linter.unusedSimpArgs false

def gladI (mc mt : List Sl) (d : Bool) (l a p : Int) : Bool := !(endL mt a p).2 && roomB mc d && decide ((countL mc : Int) < l)
def passV (mc mt : List Sl) (d : Bool) (l a p : Int) (k gl : Nat) : Int := if (lastB k gl || gladI mc mt d l a p) = true then -1 else if 0 ≤ (endL mt a p).1 then 2 else 5
def passT (mc mt : List Sl) (d : Bool) (l a p now : Int) (k gl : Nat) : List Sl := if (lastB k gl || gladI mc mt d l a p) = true then mt else putL mt a p 0 (now + 21)
set_option maxRecDepth 20000 in
set_option maxHeartbeats 16000000 in
theorem passI_sh (g h c1 c2 : Nat) (mc mt : List Sl) (o3 : Option Addr) (n3 c3 bg fg gl cg k : Nat) (i l : Int) (d : Bool) (a p f s st now : Int) (base : Nat) (w : World) (hk : k < gl) (hgl : gl ≤ 1048576) (hfl : flowOkB a p = true) (hc0 : 0 < mc.length) (hc1 : mc.length ≤ 1048576) (ht0 : 0 < mt.length) (ht1 : mt.length ≤ 1048576) (hn0 : 0 ≤ now) (hn1 : now ≤ 100000) (zg : g < w.heap.size) (hC : Row w g 0 mc) (ho : w.ownsRow base CellT 5 (.slice (some ⟨h, 0, none⟩) mt.length c2) mt.length (mt.flatMap layS.cs)) (e1 : (endL mt a p).2 = true) :
    Calls Tryz.prog 62 #[visV (.slice (some ⟨g, 0, none⟩) mc.length c1) (.slice (some ⟨h, 0, none⟩) mt.length c2) i l d a p f s (.slice o3 n3 c3) (.slice (some ⟨bg, fg, none⟩) gl cg) (k : Int) st now] w fun e w' => e = .returned (.int .i64 (passV mc mt d l a p k gl)) ∧ w'.ownsRow base CellT 5 (.slice (some ⟨h, 0, none⟩) mt.length c2) mt.length ((passT mc mt d l a p now k gl).flatMap layS.cs) ∧ Stp h (h + 1) w w' := by
  have HC := hide hC
  have HT : Hid (Row w h 0 mt) := rd_of_own ho rfl
  have zh : h < w.heap.size := (ho.lt h rfl).2
  have HO := hide ho
  clear hC ho
  obtain ⟨W0, hW0⟩ : ∃ W, (w.alloc (.cells #[.slice (some ⟨g, 0, none⟩) mc.length c1, .slice (some ⟨h, 0, none⟩) mt.length c2, .int .i64 i, .int .i64 l, .bool d, .int .i64 a, .int .i64 p, .int .i64 f, .int .i64 s, .slice o3 n3 c3, .slice (some ⟨bg, fg, none⟩) gl cg, .int .i64 (k : Int), .int .i64 st, .int .i64 now] 78)) = W := ⟨_, rfl⟩
  have hb_W0 : Below w.heap.size w W0 := by rw [← hW0]; exact ((Below.refl _ _).alloc (Nat.le_refl _) _)
  have HB := hide hb_W0
  clear hb_W0
  have zz : w.heap.size < W0.heap.size := by rw [← hW0]; simp
  have z0 : W0.cell? ⟨w.heap.size, 0, none⟩ = some (.slice (some ⟨g, 0, none⟩) mc.length c1) := by rw [← hW0]; simp [go_sem]
  have z1 : W0.cell? ⟨w.heap.size, 1, none⟩ = some (.slice (some ⟨h, 0, none⟩) mt.length c2) := by rw [← hW0]; simp [go_sem]
  have z2 : W0.cell? ⟨w.heap.size, 2, none⟩ = some (.int .i64 i) := by rw [← hW0]; simp [go_sem]
  have z3 : W0.cell? ⟨w.heap.size, 3, none⟩ = some (.int .i64 l) := by rw [← hW0]; simp [go_sem]
  have z4 : W0.cell? ⟨w.heap.size, 4, none⟩ = some (.bool d) := by rw [← hW0]; simp [go_sem]
  have z5 : W0.cell? ⟨w.heap.size, 5, none⟩ = some (.int .i64 a) := by rw [← hW0]; simp [go_sem]
  have z6 : W0.cell? ⟨w.heap.size, 6, none⟩ = some (.int .i64 p) := by rw [← hW0]; simp [go_sem]
  have z7 : W0.cell? ⟨w.heap.size, 7, none⟩ = some (.int .i64 f) := by rw [← hW0]; simp [go_sem]
  have z8 : W0.cell? ⟨w.heap.size, 8, none⟩ = some (.int .i64 s) := by rw [← hW0]; simp [go_sem]
  have z9 : W0.cell? ⟨w.heap.size, 9, none⟩ = some (.slice o3 n3 c3) := by rw [← hW0]; simp [go_sem]
  have z10 : W0.cell? ⟨w.heap.size, 10, none⟩ = some (.slice (some ⟨bg, fg, none⟩) gl cg) := by rw [← hW0]; simp [go_sem]
  have z11 : W0.cell? ⟨w.heap.size, 11, none⟩ = some (.int .i64 (k : Int)) := by rw [← hW0]; simp [go_sem]
  have z12 : W0.cell? ⟨w.heap.size, 12, none⟩ = some (.int .i64 st) := by rw [← hW0]; simp [go_sem]
  have z13 : W0.cell? ⟨w.heap.size, 13, none⟩ = some (.int .i64 now) := by rw [← hW0]; simp [go_sem]
  have HF := hide (fun pp : Grown W0 => visFlow_any (some ⟨g, 0, none⟩) (some ⟨h, 0, none⟩) o3 mc.length c1 mt.length c2 n3 c3 bg fg gl cg k i l d a p f s st now pp.v)
  have HL := hide (fun pp : Grown W0 => visLast_any (some ⟨g, 0, none⟩) (some ⟨h, 0, none⟩) o3 mc.length c1 mt.length c2 n3 c3 bg fg gl cg k i l d a p f s st now pp.v hk hgl)
  have HS := hide (fun pp : Grown W0 => shunsI_any h 0 c2 mt a p pp.v ht0 ht1 hfl (Nat.lt_of_lt_of_le (Nat.lt_of_lt_of_le zh HB.out.size) pp.b.size) (Row.kept (Row.kept HT.out HB.out zh) pp.b (Nat.lt_of_lt_of_le zh HB.out.size)))
  have HRm := hide (fun pp : Grown W0 => hasRoomI_any g 0 c1 mc (some ⟨h, 0, none⟩) mt.length c2 i l d pp.v (Nat.lt_of_lt_of_le (Nat.lt_of_lt_of_le zg HB.out.size) pp.b.size) (Row.kept (Row.kept HC.out HB.out zg) pp.b (Nat.lt_of_lt_of_le zg HB.out.size)) hc1)
  have HCt := hide (fun pp : Grown W0 => countI_any g 0 c1 mc pp.v (Nat.lt_of_lt_of_le (Nat.lt_of_lt_of_le zg HB.out.size) pp.b.size) (Row.kept (Row.kept HC.out HB.out zg) pp.b (Nat.lt_of_lt_of_le zg HB.out.size)) hc1)
  have HLv := hide (fun W => visLast_any (some ⟨g, 0, none⟩) (some ⟨h, 0, none⟩) o3 mc.length c1 mt.length c2 n3 c3 bg fg gl cg k i l d a p f s st now W hk hgl)
  have HFv := hide (fun W => visFlow_any (some ⟨g, 0, none⟩) (some ⟨h, 0, none⟩) o3 mc.length c1 mt.length c2 n3 c3 bg fg gl cg k i l d a p f s st now W)
  have HSh := hide (fun W ho => shunI_any h c2 base mt a p now W ht0 ht1 hfl hn0 hn1 ho)
  have HV := hide (show passV mc mt d l a p k gl = if (lastB k gl || (!(endL mt a p).2 && roomB mc d && decide ((countL mc : Int) < l))) = true then -1 else if 0 ≤ (endL mt a p).1 then 2 else 5 from rfl)
  have HPT := hide (show passT mc mt d l a p now k gl = if (lastB k gl || (!(endL mt a p).2 && roomB mc d && decide ((countL mc : Int) < l))) = true then mt else putL mt a p 0 (now + 21) from rfl)
  obtain ⟨lb, hlb⟩ : ∃ q, lastB k gl = q := ⟨_, rfl⟩
  obtain ⟨sh, hsh⟩ : ∃ q, (endL mt a p).2 = q := ⟨_, rfl⟩
  obtain ⟨rm, hrm⟩ : ∃ q, roomB mc d = q := ⟨_, rfl⟩
  obtain ⟨nc, hnc⟩ : ∃ q, countL mc = q := ⟨_, rfl⟩
  rw [hlb] at HLv HV HPT
  rw [hsh] at HS HV HPT
  rw [hrm] at HRm HV HPT
  rw [hnc] at HCt HV HPT
  have hsv := hsh
  have hrv := hrm
  have hnv := hnc
  clear hlb hsh hrm hnc HL
  obtain ⟨pv, hpv⟩ : ∃ q, passV mc mt d l a p k gl = q := ⟨_, rfl⟩
  obtain ⟨pt, hpt⟩ : ∃ q, passT mc mt d l a p now k gl = q := ⟨_, rfl⟩
  rw [hpv] at HV ⊢
  rw [hpt] at HPT ⊢
  clear hpv hpt
  have G0 := Grown.cell z0 zz
  have G1 := Grown.cell z1 zz
  have G2 := Grown.cell z2 zz
  have G3 := Grown.cell z3 zz
  have G4 := Grown.cell z4 zz
  have G5 := Grown.cell z5 zz
  have G6 := Grown.cell z6 zz
  have G7 := Grown.cell z7 zz
  have G8 := Grown.cell z8 zz
  have G9 := Grown.cell z9 zz
  have G10 := Grown.cell z10 zz
  have G11 := Grown.cell z11 zz
  have G12 := Grown.cell z12 zz
  have G13 := Grown.cell z13 zz
  obtain rfl := hsv.symm.trans e1
  clear e1
  try clear hsv
  try clear hrv
  try clear hnv
  cases lb with
  | false =>
    go_enter Tryz.func62, Tryz.ntmps62
    go_wp2
    (refine wp_region_grown (by kernel_rfl) (by kernel_rfl) ?_; intro hne9; (repeat (go_big_quiet_step (first | (go_at_call 90; exact grown_of _ (HF.out _)) | (go_at_call 96; exact grown_of _ (HS.out _)) | (go_at_call 97; exact grown_of _ (HRm.out _)) | (go_at_call 98; exact grown_of _ (HCt.out _))))); (with_reducible refine wpQuiet_nil ?_); intro _ hw9; obtain ⟨pq, hw8⟩ := hw9; subst hw8)
    obtain ⟨u1, hu1⟩ : ∃ W, pq.v = W := ⟨_, rfl⟩
    have hb := pq.b
    rw [hu1] at hb ⊢
    clear G0 G1 G2 G3 G4 G5 G6 G7 G8 G9 G10 G11 G12 G13 HF HS HRm HCt
    replace z0 := bC hb z0 zz
    replace z1 := bC hb z1 zz
    replace z2 := bC hb z2 zz
    replace z3 := bC hb z3 zz
    replace z4 := bC hb z4 zz
    replace z5 := bC hb z5 zz
    replace z6 := bC hb z6 zz
    replace z7 := bC hb z7 zz
    replace z8 := bC hb z8 zz
    replace z9 := bC hb z9 zz
    replace z10 := bC hb z10 zz
    replace z11 := bC hb z11 zz
    replace z12 := bC hb z12 zz
    replace z13 := bC hb z13 zz
    replace zz := Nat.lt_of_lt_of_le zz hb.size
    replace HB := hide (HB.out.trans (hb.mono HB.out.size))
    clear hb
    clear hu1 pq
    go_wp2_with fail
    refine (HLv.out u1).mono ?_
    rintro e v1 ⟨rfl, hb⟩
    replace z0 := bC hb z0 zz
    replace z1 := bC hb z1 zz
    replace z2 := bC hb z2 zz
    replace z3 := bC hb z3 zz
    replace z4 := bC hb z4 zz
    replace z5 := bC hb z5 zz
    replace z6 := bC hb z6 zz
    replace z7 := bC hb z7 zz
    replace z8 := bC hb z8 zz
    replace z9 := bC hb z9 zz
    replace z10 := bC hb z10 zz
    replace z11 := bC hb z11 zz
    replace z12 := bC hb z12 zz
    replace z13 := bC hb z13 zz
    replace zz := Nat.lt_of_lt_of_le zz hb.size
    replace HB := hide (HB.out.trans (hb.mono HB.out.size))
    clear hb
    by_cases hok : 0 ≤ (endL mt a p).1
    · rw [decide_eq_true hok] at HSh
      have hv := HV.out
      have ht := HPT.out
      simp [hok] at hv ht
      subst hv
      subst ht
      clear hok
      go_wp2
      go_region_held3 (fun w' => w'.cell? ⟨w.heap.size, 0, none⟩ = some (.slice (some ⟨g, 0, none⟩) mc.length c1) ∧ w'.cell? ⟨w.heap.size, 1, none⟩ = some (.slice (some ⟨h, 0, none⟩) mt.length c2) ∧ w'.cell? ⟨w.heap.size, 2, none⟩ = some (.int .i64 i) ∧ w'.cell? ⟨w.heap.size, 3, none⟩ = some (.int .i64 l) ∧ w'.cell? ⟨w.heap.size, 4, none⟩ = some (.bool d) ∧ w'.cell? ⟨w.heap.size, 5, none⟩ = some (.int .i64 a) ∧ w'.cell? ⟨w.heap.size, 6, none⟩ = some (.int .i64 p) ∧ w'.cell? ⟨w.heap.size, 7, none⟩ = some (.int .i64 f) ∧ w'.cell? ⟨w.heap.size, 8, none⟩ = some (.int .i64 s) ∧ w'.cell? ⟨w.heap.size, 9, none⟩ = some (.slice o3 n3 c3) ∧ w'.cell? ⟨w.heap.size, 10, none⟩ = some (.slice (some ⟨bg, fg, none⟩) gl cg) ∧ w'.cell? ⟨w.heap.size, 11, none⟩ = some (.int .i64 (k : Int)) ∧ w'.cell? ⟨w.heap.size, 12, none⟩ = some (.int .i64 st) ∧ w'.cell? ⟨w.heap.size, 13, none⟩ = some (.int .i64 now)) (first | with_reducible exact ⟨qz0, qz1, qz2, qz3, qz4, qz5, qz6, qz7, qz8, qz9, qz10, qz11, qz12, qz13⟩ | with_reducible exact ⟨pz0, pz1, pz2, pz3, pz4, pz5, pz6, pz7, pz8, pz9, pz10, pz11, pz12, pz13⟩ | exact ⟨z0, z1, z2, z3, z4, z5, z6, z7, z8, z9, z10, z11, z12, z13⟩ | go_keep) (first | (go_at_call 90; (with_reducible refine (HFv.out v1.drew).mono ?_); rintro e x0 ⟨rfl, hb⟩; have hx0 : Below v1.heap.size v1 x0 := (Below.drew (Below.refl _ _)).trans hb; have sx0 := hx0.size; clear hb; have pz0 := (hx0.cell (p := ⟨w.heap.size, 0, none⟩) zz).trans z0; have pz1 := (hx0.cell (p := ⟨w.heap.size, 1, none⟩) zz).trans z1; have pz2 := (hx0.cell (p := ⟨w.heap.size, 2, none⟩) zz).trans z2; have pz3 := (hx0.cell (p := ⟨w.heap.size, 3, none⟩) zz).trans z3; have pz4 := (hx0.cell (p := ⟨w.heap.size, 4, none⟩) zz).trans z4; have pz5 := (hx0.cell (p := ⟨w.heap.size, 5, none⟩) zz).trans z5; have pz6 := (hx0.cell (p := ⟨w.heap.size, 6, none⟩) zz).trans z6; have pz7 := (hx0.cell (p := ⟨w.heap.size, 7, none⟩) zz).trans z7; have pz8 := (hx0.cell (p := ⟨w.heap.size, 8, none⟩) zz).trans z8; have pz9 := (hx0.cell (p := ⟨w.heap.size, 9, none⟩) zz).trans z9; have pz10 := (hx0.cell (p := ⟨w.heap.size, 10, none⟩) zz).trans z10; have pz11 := (hx0.cell (p := ⟨w.heap.size, 11, none⟩) zz).trans z11; have pz12 := (hx0.cell (p := ⟨w.heap.size, 12, none⟩) zz).trans z12; have pz13 := (hx0.cell (p := ⟨w.heap.size, 13, none⟩) zz).trans z13) | (go_at_call 93; (with_reducible refine (HSh.out x0 (own_kept (own_kept HO.out HB.out) hx0)).mono ?_); rintro e x1 ⟨rfl, ho1, st1⟩; have HO1 := hide ho1; have HST := hide ((Stp.of HB.out).trans ((Stp.of hx0).trans st1)); have qz0 : x1.cell? ⟨w.heap.size, 0, none⟩ = some (.slice (some ⟨g, 0, none⟩) mc.length c1) := st1.cell pz0 (by omega) (.inr (by omega)); have qz1 : x1.cell? ⟨w.heap.size, 1, none⟩ = some (.slice (some ⟨h, 0, none⟩) mt.length c2) := st1.cell pz1 (by omega) (.inr (by omega)); have qz2 : x1.cell? ⟨w.heap.size, 2, none⟩ = some (.int .i64 i) := st1.cell pz2 (by omega) (.inr (by omega)); have qz3 : x1.cell? ⟨w.heap.size, 3, none⟩ = some (.int .i64 l) := st1.cell pz3 (by omega) (.inr (by omega)); have qz4 : x1.cell? ⟨w.heap.size, 4, none⟩ = some (.bool d) := st1.cell pz4 (by omega) (.inr (by omega)); have qz5 : x1.cell? ⟨w.heap.size, 5, none⟩ = some (.int .i64 a) := st1.cell pz5 (by omega) (.inr (by omega)); have qz6 : x1.cell? ⟨w.heap.size, 6, none⟩ = some (.int .i64 p) := st1.cell pz6 (by omega) (.inr (by omega)); have qz7 : x1.cell? ⟨w.heap.size, 7, none⟩ = some (.int .i64 f) := st1.cell pz7 (by omega) (.inr (by omega)); have qz8 : x1.cell? ⟨w.heap.size, 8, none⟩ = some (.int .i64 s) := st1.cell pz8 (by omega) (.inr (by omega)); have qz9 : x1.cell? ⟨w.heap.size, 9, none⟩ = some (.slice o3 n3 c3) := st1.cell pz9 (by omega) (.inr (by omega)); have qz10 : x1.cell? ⟨w.heap.size, 10, none⟩ = some (.slice (some ⟨bg, fg, none⟩) gl cg) := st1.cell pz10 (by omega) (.inr (by omega)); have qz11 : x1.cell? ⟨w.heap.size, 11, none⟩ = some (.int .i64 (k : Int)) := st1.cell pz11 (by omega) (.inr (by omega)); have qz12 : x1.cell? ⟨w.heap.size, 12, none⟩ = some (.int .i64 st) := st1.cell pz12 (by omega) (.inr (by omega)); have qz13 : x1.cell? ⟨w.heap.size, 13, none⟩ = some (.int .i64 now) := st1.cell pz13 (by omega) (.inr (by omega)); clear ho1 st1) | fail)
      go_wp2
      go_ret
      exact ⟨rfl, HO1.out, HST.out⟩
    · rw [decide_eq_false hok] at HSh
      have hv := HV.out
      have ht := HPT.out
      simp [hok] at hv ht
      subst hv
      subst ht
      clear hok
      go_wp2
      go_region_held3 (fun w' => w'.cell? ⟨w.heap.size, 0, none⟩ = some (.slice (some ⟨g, 0, none⟩) mc.length c1) ∧ w'.cell? ⟨w.heap.size, 1, none⟩ = some (.slice (some ⟨h, 0, none⟩) mt.length c2) ∧ w'.cell? ⟨w.heap.size, 2, none⟩ = some (.int .i64 i) ∧ w'.cell? ⟨w.heap.size, 3, none⟩ = some (.int .i64 l) ∧ w'.cell? ⟨w.heap.size, 4, none⟩ = some (.bool d) ∧ w'.cell? ⟨w.heap.size, 5, none⟩ = some (.int .i64 a) ∧ w'.cell? ⟨w.heap.size, 6, none⟩ = some (.int .i64 p) ∧ w'.cell? ⟨w.heap.size, 7, none⟩ = some (.int .i64 f) ∧ w'.cell? ⟨w.heap.size, 8, none⟩ = some (.int .i64 s) ∧ w'.cell? ⟨w.heap.size, 9, none⟩ = some (.slice o3 n3 c3) ∧ w'.cell? ⟨w.heap.size, 10, none⟩ = some (.slice (some ⟨bg, fg, none⟩) gl cg) ∧ w'.cell? ⟨w.heap.size, 11, none⟩ = some (.int .i64 (k : Int)) ∧ w'.cell? ⟨w.heap.size, 12, none⟩ = some (.int .i64 st) ∧ w'.cell? ⟨w.heap.size, 13, none⟩ = some (.int .i64 now)) (first | with_reducible exact ⟨qz0, qz1, qz2, qz3, qz4, qz5, qz6, qz7, qz8, qz9, qz10, qz11, qz12, qz13⟩ | with_reducible exact ⟨pz0, pz1, pz2, pz3, pz4, pz5, pz6, pz7, pz8, pz9, pz10, pz11, pz12, pz13⟩ | exact ⟨z0, z1, z2, z3, z4, z5, z6, z7, z8, z9, z10, z11, z12, z13⟩ | go_keep) (first | (go_at_call 90; (with_reducible refine (HFv.out v1.drew).mono ?_); rintro e x0 ⟨rfl, hb⟩; have hx0 : Below v1.heap.size v1 x0 := (Below.drew (Below.refl _ _)).trans hb; have sx0 := hx0.size; clear hb; have pz0 := (hx0.cell (p := ⟨w.heap.size, 0, none⟩) zz).trans z0; have pz1 := (hx0.cell (p := ⟨w.heap.size, 1, none⟩) zz).trans z1; have pz2 := (hx0.cell (p := ⟨w.heap.size, 2, none⟩) zz).trans z2; have pz3 := (hx0.cell (p := ⟨w.heap.size, 3, none⟩) zz).trans z3; have pz4 := (hx0.cell (p := ⟨w.heap.size, 4, none⟩) zz).trans z4; have pz5 := (hx0.cell (p := ⟨w.heap.size, 5, none⟩) zz).trans z5; have pz6 := (hx0.cell (p := ⟨w.heap.size, 6, none⟩) zz).trans z6; have pz7 := (hx0.cell (p := ⟨w.heap.size, 7, none⟩) zz).trans z7; have pz8 := (hx0.cell (p := ⟨w.heap.size, 8, none⟩) zz).trans z8; have pz9 := (hx0.cell (p := ⟨w.heap.size, 9, none⟩) zz).trans z9; have pz10 := (hx0.cell (p := ⟨w.heap.size, 10, none⟩) zz).trans z10; have pz11 := (hx0.cell (p := ⟨w.heap.size, 11, none⟩) zz).trans z11; have pz12 := (hx0.cell (p := ⟨w.heap.size, 12, none⟩) zz).trans z12; have pz13 := (hx0.cell (p := ⟨w.heap.size, 13, none⟩) zz).trans z13) | (go_at_call 93; (with_reducible refine (HSh.out x0 (own_kept (own_kept HO.out HB.out) hx0)).mono ?_); rintro e x1 ⟨rfl, ho1, st1⟩; have HO1 := hide ho1; have HST := hide ((Stp.of HB.out).trans ((Stp.of hx0).trans st1)); have qz0 : x1.cell? ⟨w.heap.size, 0, none⟩ = some (.slice (some ⟨g, 0, none⟩) mc.length c1) := st1.cell pz0 (by omega) (.inr (by omega)); have qz1 : x1.cell? ⟨w.heap.size, 1, none⟩ = some (.slice (some ⟨h, 0, none⟩) mt.length c2) := st1.cell pz1 (by omega) (.inr (by omega)); have qz2 : x1.cell? ⟨w.heap.size, 2, none⟩ = some (.int .i64 i) := st1.cell pz2 (by omega) (.inr (by omega)); have qz3 : x1.cell? ⟨w.heap.size, 3, none⟩ = some (.int .i64 l) := st1.cell pz3 (by omega) (.inr (by omega)); have qz4 : x1.cell? ⟨w.heap.size, 4, none⟩ = some (.bool d) := st1.cell pz4 (by omega) (.inr (by omega)); have qz5 : x1.cell? ⟨w.heap.size, 5, none⟩ = some (.int .i64 a) := st1.cell pz5 (by omega) (.inr (by omega)); have qz6 : x1.cell? ⟨w.heap.size, 6, none⟩ = some (.int .i64 p) := st1.cell pz6 (by omega) (.inr (by omega)); have qz7 : x1.cell? ⟨w.heap.size, 7, none⟩ = some (.int .i64 f) := st1.cell pz7 (by omega) (.inr (by omega)); have qz8 : x1.cell? ⟨w.heap.size, 8, none⟩ = some (.int .i64 s) := st1.cell pz8 (by omega) (.inr (by omega)); have qz9 : x1.cell? ⟨w.heap.size, 9, none⟩ = some (.slice o3 n3 c3) := st1.cell pz9 (by omega) (.inr (by omega)); have qz10 : x1.cell? ⟨w.heap.size, 10, none⟩ = some (.slice (some ⟨bg, fg, none⟩) gl cg) := st1.cell pz10 (by omega) (.inr (by omega)); have qz11 : x1.cell? ⟨w.heap.size, 11, none⟩ = some (.int .i64 (k : Int)) := st1.cell pz11 (by omega) (.inr (by omega)); have qz12 : x1.cell? ⟨w.heap.size, 12, none⟩ = some (.int .i64 st) := st1.cell pz12 (by omega) (.inr (by omega)); have qz13 : x1.cell? ⟨w.heap.size, 13, none⟩ = some (.int .i64 now) := st1.cell pz13 (by omega) (.inr (by omega)); clear ho1 st1) | fail)
      go_wp2
      go_ret
      exact ⟨rfl, HO1.out, HST.out⟩
  | true =>
    go_enter Tryz.func62, Tryz.ntmps62
    go_wp2
    (refine wp_region_grown (by kernel_rfl) (by kernel_rfl) ?_; intro hne9; (repeat (go_big_quiet_step (first | (go_at_call 90; exact grown_of _ (HF.out _)) | (go_at_call 96; exact grown_of _ (HS.out _)) | (go_at_call 97; exact grown_of _ (HRm.out _)) | (go_at_call 98; exact grown_of _ (HCt.out _))))); (with_reducible refine wpQuiet_nil ?_); intro _ hw9; obtain ⟨pq, hw8⟩ := hw9; subst hw8)
    obtain ⟨u1, hu1⟩ : ∃ W, pq.v = W := ⟨_, rfl⟩
    have hb := pq.b
    rw [hu1] at hb ⊢
    clear G0 G1 G2 G3 G4 G5 G6 G7 G8 G9 G10 G11 G12 G13 HF HS HRm HCt
    replace z0 := bC hb z0 zz
    replace z1 := bC hb z1 zz
    replace z2 := bC hb z2 zz
    replace z3 := bC hb z3 zz
    replace z4 := bC hb z4 zz
    replace z5 := bC hb z5 zz
    replace z6 := bC hb z6 zz
    replace z7 := bC hb z7 zz
    replace z8 := bC hb z8 zz
    replace z9 := bC hb z9 zz
    replace z10 := bC hb z10 zz
    replace z11 := bC hb z11 zz
    replace z12 := bC hb z12 zz
    replace z13 := bC hb z13 zz
    replace zz := Nat.lt_of_lt_of_le zz hb.size
    replace HB := hide (HB.out.trans (hb.mono HB.out.size))
    clear hb
    clear hu1 pq
    go_wp2_with fail
    refine (HLv.out u1).mono ?_
    rintro e v1 ⟨rfl, hb⟩
    replace z0 := bC hb z0 zz
    replace z1 := bC hb z1 zz
    replace z2 := bC hb z2 zz
    replace z3 := bC hb z3 zz
    replace z4 := bC hb z4 zz
    replace z5 := bC hb z5 zz
    replace z6 := bC hb z6 zz
    replace z7 := bC hb z7 zz
    replace z8 := bC hb z8 zz
    replace z9 := bC hb z9 zz
    replace z10 := bC hb z10 zz
    replace z11 := bC hb z11 zz
    replace z12 := bC hb z12 zz
    replace z13 := bC hb z13 zz
    replace zz := Nat.lt_of_lt_of_le zz hb.size
    replace HB := hide (HB.out.trans (hb.mono HB.out.size))
    clear hb
    have hv := HV.out
    have ht := HPT.out
    simp at hv ht
    subst hv
    subst ht
    go_wp2
    go_ret
    exact ⟨rfl, own_kept HO.out HB.out, Stp.of HB.out⟩
set_option maxRecDepth 20000 in
set_option maxHeartbeats 16000000 in
theorem passI_rm (g h c1 c2 : Nat) (mc mt : List Sl) (o3 : Option Addr) (n3 c3 bg fg gl cg k : Nat) (i l : Int) (d : Bool) (a p f s st now : Int) (base : Nat) (w : World) (hk : k < gl) (hgl : gl ≤ 1048576) (hfl : flowOkB a p = true) (hc0 : 0 < mc.length) (hc1 : mc.length ≤ 1048576) (ht0 : 0 < mt.length) (ht1 : mt.length ≤ 1048576) (hn0 : 0 ≤ now) (hn1 : now ≤ 100000) (zg : g < w.heap.size) (hC : Row w g 0 mc) (ho : w.ownsRow base CellT 5 (.slice (some ⟨h, 0, none⟩) mt.length c2) mt.length (mt.flatMap layS.cs)) (e1 : (endL mt a p).2 = false) (e2 : roomB mc d = false) :
    Calls Tryz.prog 62 #[visV (.slice (some ⟨g, 0, none⟩) mc.length c1) (.slice (some ⟨h, 0, none⟩) mt.length c2) i l d a p f s (.slice o3 n3 c3) (.slice (some ⟨bg, fg, none⟩) gl cg) (k : Int) st now] w fun e w' => e = .returned (.int .i64 (passV mc mt d l a p k gl)) ∧ w'.ownsRow base CellT 5 (.slice (some ⟨h, 0, none⟩) mt.length c2) mt.length ((passT mc mt d l a p now k gl).flatMap layS.cs) ∧ Stp h (h + 1) w w' := by
  have HC := hide hC
  have HT : Hid (Row w h 0 mt) := rd_of_own ho rfl
  have zh : h < w.heap.size := (ho.lt h rfl).2
  have HO := hide ho
  clear hC ho
  obtain ⟨W0, hW0⟩ : ∃ W, (w.alloc (.cells #[.slice (some ⟨g, 0, none⟩) mc.length c1, .slice (some ⟨h, 0, none⟩) mt.length c2, .int .i64 i, .int .i64 l, .bool d, .int .i64 a, .int .i64 p, .int .i64 f, .int .i64 s, .slice o3 n3 c3, .slice (some ⟨bg, fg, none⟩) gl cg, .int .i64 (k : Int), .int .i64 st, .int .i64 now] 78)) = W := ⟨_, rfl⟩
  have hb_W0 : Below w.heap.size w W0 := by rw [← hW0]; exact ((Below.refl _ _).alloc (Nat.le_refl _) _)
  have HB := hide hb_W0
  clear hb_W0
  have zz : w.heap.size < W0.heap.size := by rw [← hW0]; simp
  have z0 : W0.cell? ⟨w.heap.size, 0, none⟩ = some (.slice (some ⟨g, 0, none⟩) mc.length c1) := by rw [← hW0]; simp [go_sem]
  have z1 : W0.cell? ⟨w.heap.size, 1, none⟩ = some (.slice (some ⟨h, 0, none⟩) mt.length c2) := by rw [← hW0]; simp [go_sem]
  have z2 : W0.cell? ⟨w.heap.size, 2, none⟩ = some (.int .i64 i) := by rw [← hW0]; simp [go_sem]
  have z3 : W0.cell? ⟨w.heap.size, 3, none⟩ = some (.int .i64 l) := by rw [← hW0]; simp [go_sem]
  have z4 : W0.cell? ⟨w.heap.size, 4, none⟩ = some (.bool d) := by rw [← hW0]; simp [go_sem]
  have z5 : W0.cell? ⟨w.heap.size, 5, none⟩ = some (.int .i64 a) := by rw [← hW0]; simp [go_sem]
  have z6 : W0.cell? ⟨w.heap.size, 6, none⟩ = some (.int .i64 p) := by rw [← hW0]; simp [go_sem]
  have z7 : W0.cell? ⟨w.heap.size, 7, none⟩ = some (.int .i64 f) := by rw [← hW0]; simp [go_sem]
  have z8 : W0.cell? ⟨w.heap.size, 8, none⟩ = some (.int .i64 s) := by rw [← hW0]; simp [go_sem]
  have z9 : W0.cell? ⟨w.heap.size, 9, none⟩ = some (.slice o3 n3 c3) := by rw [← hW0]; simp [go_sem]
  have z10 : W0.cell? ⟨w.heap.size, 10, none⟩ = some (.slice (some ⟨bg, fg, none⟩) gl cg) := by rw [← hW0]; simp [go_sem]
  have z11 : W0.cell? ⟨w.heap.size, 11, none⟩ = some (.int .i64 (k : Int)) := by rw [← hW0]; simp [go_sem]
  have z12 : W0.cell? ⟨w.heap.size, 12, none⟩ = some (.int .i64 st) := by rw [← hW0]; simp [go_sem]
  have z13 : W0.cell? ⟨w.heap.size, 13, none⟩ = some (.int .i64 now) := by rw [← hW0]; simp [go_sem]
  have HF := hide (fun pp : Grown W0 => visFlow_any (some ⟨g, 0, none⟩) (some ⟨h, 0, none⟩) o3 mc.length c1 mt.length c2 n3 c3 bg fg gl cg k i l d a p f s st now pp.v)
  have HL := hide (fun pp : Grown W0 => visLast_any (some ⟨g, 0, none⟩) (some ⟨h, 0, none⟩) o3 mc.length c1 mt.length c2 n3 c3 bg fg gl cg k i l d a p f s st now pp.v hk hgl)
  have HS := hide (fun pp : Grown W0 => shunsI_any h 0 c2 mt a p pp.v ht0 ht1 hfl (Nat.lt_of_lt_of_le (Nat.lt_of_lt_of_le zh HB.out.size) pp.b.size) (Row.kept (Row.kept HT.out HB.out zh) pp.b (Nat.lt_of_lt_of_le zh HB.out.size)))
  have HRm := hide (fun pp : Grown W0 => hasRoomI_any g 0 c1 mc (some ⟨h, 0, none⟩) mt.length c2 i l d pp.v (Nat.lt_of_lt_of_le (Nat.lt_of_lt_of_le zg HB.out.size) pp.b.size) (Row.kept (Row.kept HC.out HB.out zg) pp.b (Nat.lt_of_lt_of_le zg HB.out.size)) hc1)
  have HCt := hide (fun pp : Grown W0 => countI_any g 0 c1 mc pp.v (Nat.lt_of_lt_of_le (Nat.lt_of_lt_of_le zg HB.out.size) pp.b.size) (Row.kept (Row.kept HC.out HB.out zg) pp.b (Nat.lt_of_lt_of_le zg HB.out.size)) hc1)
  have HLv := hide (fun W => visLast_any (some ⟨g, 0, none⟩) (some ⟨h, 0, none⟩) o3 mc.length c1 mt.length c2 n3 c3 bg fg gl cg k i l d a p f s st now W hk hgl)
  have HFv := hide (fun W => visFlow_any (some ⟨g, 0, none⟩) (some ⟨h, 0, none⟩) o3 mc.length c1 mt.length c2 n3 c3 bg fg gl cg k i l d a p f s st now W)
  have HSh := hide (fun W ho => shunI_any h c2 base mt a p now W ht0 ht1 hfl hn0 hn1 ho)
  have HV := hide (show passV mc mt d l a p k gl = if (lastB k gl || (!(endL mt a p).2 && roomB mc d && decide ((countL mc : Int) < l))) = true then -1 else if 0 ≤ (endL mt a p).1 then 2 else 5 from rfl)
  have HPT := hide (show passT mc mt d l a p now k gl = if (lastB k gl || (!(endL mt a p).2 && roomB mc d && decide ((countL mc : Int) < l))) = true then mt else putL mt a p 0 (now + 21) from rfl)
  obtain ⟨lb, hlb⟩ : ∃ q, lastB k gl = q := ⟨_, rfl⟩
  obtain ⟨sh, hsh⟩ : ∃ q, (endL mt a p).2 = q := ⟨_, rfl⟩
  obtain ⟨rm, hrm⟩ : ∃ q, roomB mc d = q := ⟨_, rfl⟩
  obtain ⟨nc, hnc⟩ : ∃ q, countL mc = q := ⟨_, rfl⟩
  rw [hlb] at HLv HV HPT
  rw [hsh] at HS HV HPT
  rw [hrm] at HRm HV HPT
  rw [hnc] at HCt HV HPT
  have hsv := hsh
  have hrv := hrm
  have hnv := hnc
  clear hlb hsh hrm hnc HL
  obtain ⟨pv, hpv⟩ : ∃ q, passV mc mt d l a p k gl = q := ⟨_, rfl⟩
  obtain ⟨pt, hpt⟩ : ∃ q, passT mc mt d l a p now k gl = q := ⟨_, rfl⟩
  rw [hpv] at HV ⊢
  rw [hpt] at HPT ⊢
  clear hpv hpt
  have G0 := Grown.cell z0 zz
  have G1 := Grown.cell z1 zz
  have G2 := Grown.cell z2 zz
  have G3 := Grown.cell z3 zz
  have G4 := Grown.cell z4 zz
  have G5 := Grown.cell z5 zz
  have G6 := Grown.cell z6 zz
  have G7 := Grown.cell z7 zz
  have G8 := Grown.cell z8 zz
  have G9 := Grown.cell z9 zz
  have G10 := Grown.cell z10 zz
  have G11 := Grown.cell z11 zz
  have G12 := Grown.cell z12 zz
  have G13 := Grown.cell z13 zz
  obtain rfl := hsv.symm.trans e1
  obtain rfl := hrv.symm.trans e2
  clear e1 e2
  try clear hsv
  try clear hrv
  try clear hnv
  cases lb with
  | false =>
    go_enter Tryz.func62, Tryz.ntmps62
    go_wp2
    (refine wp_region_grown (by kernel_rfl) (by kernel_rfl) ?_; intro hne9; (repeat (go_big_quiet_step (first | (go_at_call 90; exact grown_of _ (HF.out _)) | (go_at_call 96; exact grown_of _ (HS.out _)) | (go_at_call 97; exact grown_of _ (HRm.out _)) | (go_at_call 98; exact grown_of _ (HCt.out _))))); (with_reducible refine wpQuiet_nil ?_); intro _ hw9; obtain ⟨pq, hw8⟩ := hw9; subst hw8)
    obtain ⟨u1, hu1⟩ : ∃ W, pq.v = W := ⟨_, rfl⟩
    have hb := pq.b
    rw [hu1] at hb ⊢
    clear G0 G1 G2 G3 G4 G5 G6 G7 G8 G9 G10 G11 G12 G13 HF HS HRm HCt
    replace z0 := bC hb z0 zz
    replace z1 := bC hb z1 zz
    replace z2 := bC hb z2 zz
    replace z3 := bC hb z3 zz
    replace z4 := bC hb z4 zz
    replace z5 := bC hb z5 zz
    replace z6 := bC hb z6 zz
    replace z7 := bC hb z7 zz
    replace z8 := bC hb z8 zz
    replace z9 := bC hb z9 zz
    replace z10 := bC hb z10 zz
    replace z11 := bC hb z11 zz
    replace z12 := bC hb z12 zz
    replace z13 := bC hb z13 zz
    replace zz := Nat.lt_of_lt_of_le zz hb.size
    replace HB := hide (HB.out.trans (hb.mono HB.out.size))
    clear hb
    clear hu1 pq
    go_wp2_with fail
    refine (HLv.out u1).mono ?_
    rintro e v1 ⟨rfl, hb⟩
    replace z0 := bC hb z0 zz
    replace z1 := bC hb z1 zz
    replace z2 := bC hb z2 zz
    replace z3 := bC hb z3 zz
    replace z4 := bC hb z4 zz
    replace z5 := bC hb z5 zz
    replace z6 := bC hb z6 zz
    replace z7 := bC hb z7 zz
    replace z8 := bC hb z8 zz
    replace z9 := bC hb z9 zz
    replace z10 := bC hb z10 zz
    replace z11 := bC hb z11 zz
    replace z12 := bC hb z12 zz
    replace z13 := bC hb z13 zz
    replace zz := Nat.lt_of_lt_of_le zz hb.size
    replace HB := hide (HB.out.trans (hb.mono HB.out.size))
    clear hb
    by_cases hok : 0 ≤ (endL mt a p).1
    · rw [decide_eq_true hok] at HSh
      have hv := HV.out
      have ht := HPT.out
      simp [hok] at hv ht
      subst hv
      subst ht
      clear hok
      go_wp2
      go_region_held3 (fun w' => w'.cell? ⟨w.heap.size, 0, none⟩ = some (.slice (some ⟨g, 0, none⟩) mc.length c1) ∧ w'.cell? ⟨w.heap.size, 1, none⟩ = some (.slice (some ⟨h, 0, none⟩) mt.length c2) ∧ w'.cell? ⟨w.heap.size, 2, none⟩ = some (.int .i64 i) ∧ w'.cell? ⟨w.heap.size, 3, none⟩ = some (.int .i64 l) ∧ w'.cell? ⟨w.heap.size, 4, none⟩ = some (.bool d) ∧ w'.cell? ⟨w.heap.size, 5, none⟩ = some (.int .i64 a) ∧ w'.cell? ⟨w.heap.size, 6, none⟩ = some (.int .i64 p) ∧ w'.cell? ⟨w.heap.size, 7, none⟩ = some (.int .i64 f) ∧ w'.cell? ⟨w.heap.size, 8, none⟩ = some (.int .i64 s) ∧ w'.cell? ⟨w.heap.size, 9, none⟩ = some (.slice o3 n3 c3) ∧ w'.cell? ⟨w.heap.size, 10, none⟩ = some (.slice (some ⟨bg, fg, none⟩) gl cg) ∧ w'.cell? ⟨w.heap.size, 11, none⟩ = some (.int .i64 (k : Int)) ∧ w'.cell? ⟨w.heap.size, 12, none⟩ = some (.int .i64 st) ∧ w'.cell? ⟨w.heap.size, 13, none⟩ = some (.int .i64 now)) (first | with_reducible exact ⟨qz0, qz1, qz2, qz3, qz4, qz5, qz6, qz7, qz8, qz9, qz10, qz11, qz12, qz13⟩ | with_reducible exact ⟨pz0, pz1, pz2, pz3, pz4, pz5, pz6, pz7, pz8, pz9, pz10, pz11, pz12, pz13⟩ | exact ⟨z0, z1, z2, z3, z4, z5, z6, z7, z8, z9, z10, z11, z12, z13⟩ | go_keep) (first | (go_at_call 90; (with_reducible refine (HFv.out v1.drew).mono ?_); rintro e x0 ⟨rfl, hb⟩; have hx0 : Below v1.heap.size v1 x0 := (Below.drew (Below.refl _ _)).trans hb; have sx0 := hx0.size; clear hb; have pz0 := (hx0.cell (p := ⟨w.heap.size, 0, none⟩) zz).trans z0; have pz1 := (hx0.cell (p := ⟨w.heap.size, 1, none⟩) zz).trans z1; have pz2 := (hx0.cell (p := ⟨w.heap.size, 2, none⟩) zz).trans z2; have pz3 := (hx0.cell (p := ⟨w.heap.size, 3, none⟩) zz).trans z3; have pz4 := (hx0.cell (p := ⟨w.heap.size, 4, none⟩) zz).trans z4; have pz5 := (hx0.cell (p := ⟨w.heap.size, 5, none⟩) zz).trans z5; have pz6 := (hx0.cell (p := ⟨w.heap.size, 6, none⟩) zz).trans z6; have pz7 := (hx0.cell (p := ⟨w.heap.size, 7, none⟩) zz).trans z7; have pz8 := (hx0.cell (p := ⟨w.heap.size, 8, none⟩) zz).trans z8; have pz9 := (hx0.cell (p := ⟨w.heap.size, 9, none⟩) zz).trans z9; have pz10 := (hx0.cell (p := ⟨w.heap.size, 10, none⟩) zz).trans z10; have pz11 := (hx0.cell (p := ⟨w.heap.size, 11, none⟩) zz).trans z11; have pz12 := (hx0.cell (p := ⟨w.heap.size, 12, none⟩) zz).trans z12; have pz13 := (hx0.cell (p := ⟨w.heap.size, 13, none⟩) zz).trans z13) | (go_at_call 93; (with_reducible refine (HSh.out x0 (own_kept (own_kept HO.out HB.out) hx0)).mono ?_); rintro e x1 ⟨rfl, ho1, st1⟩; have HO1 := hide ho1; have HST := hide ((Stp.of HB.out).trans ((Stp.of hx0).trans st1)); have qz0 : x1.cell? ⟨w.heap.size, 0, none⟩ = some (.slice (some ⟨g, 0, none⟩) mc.length c1) := st1.cell pz0 (by omega) (.inr (by omega)); have qz1 : x1.cell? ⟨w.heap.size, 1, none⟩ = some (.slice (some ⟨h, 0, none⟩) mt.length c2) := st1.cell pz1 (by omega) (.inr (by omega)); have qz2 : x1.cell? ⟨w.heap.size, 2, none⟩ = some (.int .i64 i) := st1.cell pz2 (by omega) (.inr (by omega)); have qz3 : x1.cell? ⟨w.heap.size, 3, none⟩ = some (.int .i64 l) := st1.cell pz3 (by omega) (.inr (by omega)); have qz4 : x1.cell? ⟨w.heap.size, 4, none⟩ = some (.bool d) := st1.cell pz4 (by omega) (.inr (by omega)); have qz5 : x1.cell? ⟨w.heap.size, 5, none⟩ = some (.int .i64 a) := st1.cell pz5 (by omega) (.inr (by omega)); have qz6 : x1.cell? ⟨w.heap.size, 6, none⟩ = some (.int .i64 p) := st1.cell pz6 (by omega) (.inr (by omega)); have qz7 : x1.cell? ⟨w.heap.size, 7, none⟩ = some (.int .i64 f) := st1.cell pz7 (by omega) (.inr (by omega)); have qz8 : x1.cell? ⟨w.heap.size, 8, none⟩ = some (.int .i64 s) := st1.cell pz8 (by omega) (.inr (by omega)); have qz9 : x1.cell? ⟨w.heap.size, 9, none⟩ = some (.slice o3 n3 c3) := st1.cell pz9 (by omega) (.inr (by omega)); have qz10 : x1.cell? ⟨w.heap.size, 10, none⟩ = some (.slice (some ⟨bg, fg, none⟩) gl cg) := st1.cell pz10 (by omega) (.inr (by omega)); have qz11 : x1.cell? ⟨w.heap.size, 11, none⟩ = some (.int .i64 (k : Int)) := st1.cell pz11 (by omega) (.inr (by omega)); have qz12 : x1.cell? ⟨w.heap.size, 12, none⟩ = some (.int .i64 st) := st1.cell pz12 (by omega) (.inr (by omega)); have qz13 : x1.cell? ⟨w.heap.size, 13, none⟩ = some (.int .i64 now) := st1.cell pz13 (by omega) (.inr (by omega)); clear ho1 st1) | fail)
      go_wp2
      go_ret
      exact ⟨rfl, HO1.out, HST.out⟩
    · rw [decide_eq_false hok] at HSh
      have hv := HV.out
      have ht := HPT.out
      simp [hok] at hv ht
      subst hv
      subst ht
      clear hok
      go_wp2
      go_region_held3 (fun w' => w'.cell? ⟨w.heap.size, 0, none⟩ = some (.slice (some ⟨g, 0, none⟩) mc.length c1) ∧ w'.cell? ⟨w.heap.size, 1, none⟩ = some (.slice (some ⟨h, 0, none⟩) mt.length c2) ∧ w'.cell? ⟨w.heap.size, 2, none⟩ = some (.int .i64 i) ∧ w'.cell? ⟨w.heap.size, 3, none⟩ = some (.int .i64 l) ∧ w'.cell? ⟨w.heap.size, 4, none⟩ = some (.bool d) ∧ w'.cell? ⟨w.heap.size, 5, none⟩ = some (.int .i64 a) ∧ w'.cell? ⟨w.heap.size, 6, none⟩ = some (.int .i64 p) ∧ w'.cell? ⟨w.heap.size, 7, none⟩ = some (.int .i64 f) ∧ w'.cell? ⟨w.heap.size, 8, none⟩ = some (.int .i64 s) ∧ w'.cell? ⟨w.heap.size, 9, none⟩ = some (.slice o3 n3 c3) ∧ w'.cell? ⟨w.heap.size, 10, none⟩ = some (.slice (some ⟨bg, fg, none⟩) gl cg) ∧ w'.cell? ⟨w.heap.size, 11, none⟩ = some (.int .i64 (k : Int)) ∧ w'.cell? ⟨w.heap.size, 12, none⟩ = some (.int .i64 st) ∧ w'.cell? ⟨w.heap.size, 13, none⟩ = some (.int .i64 now)) (first | with_reducible exact ⟨qz0, qz1, qz2, qz3, qz4, qz5, qz6, qz7, qz8, qz9, qz10, qz11, qz12, qz13⟩ | with_reducible exact ⟨pz0, pz1, pz2, pz3, pz4, pz5, pz6, pz7, pz8, pz9, pz10, pz11, pz12, pz13⟩ | exact ⟨z0, z1, z2, z3, z4, z5, z6, z7, z8, z9, z10, z11, z12, z13⟩ | go_keep) (first | (go_at_call 90; (with_reducible refine (HFv.out v1.drew).mono ?_); rintro e x0 ⟨rfl, hb⟩; have hx0 : Below v1.heap.size v1 x0 := (Below.drew (Below.refl _ _)).trans hb; have sx0 := hx0.size; clear hb; have pz0 := (hx0.cell (p := ⟨w.heap.size, 0, none⟩) zz).trans z0; have pz1 := (hx0.cell (p := ⟨w.heap.size, 1, none⟩) zz).trans z1; have pz2 := (hx0.cell (p := ⟨w.heap.size, 2, none⟩) zz).trans z2; have pz3 := (hx0.cell (p := ⟨w.heap.size, 3, none⟩) zz).trans z3; have pz4 := (hx0.cell (p := ⟨w.heap.size, 4, none⟩) zz).trans z4; have pz5 := (hx0.cell (p := ⟨w.heap.size, 5, none⟩) zz).trans z5; have pz6 := (hx0.cell (p := ⟨w.heap.size, 6, none⟩) zz).trans z6; have pz7 := (hx0.cell (p := ⟨w.heap.size, 7, none⟩) zz).trans z7; have pz8 := (hx0.cell (p := ⟨w.heap.size, 8, none⟩) zz).trans z8; have pz9 := (hx0.cell (p := ⟨w.heap.size, 9, none⟩) zz).trans z9; have pz10 := (hx0.cell (p := ⟨w.heap.size, 10, none⟩) zz).trans z10; have pz11 := (hx0.cell (p := ⟨w.heap.size, 11, none⟩) zz).trans z11; have pz12 := (hx0.cell (p := ⟨w.heap.size, 12, none⟩) zz).trans z12; have pz13 := (hx0.cell (p := ⟨w.heap.size, 13, none⟩) zz).trans z13) | (go_at_call 93; (with_reducible refine (HSh.out x0 (own_kept (own_kept HO.out HB.out) hx0)).mono ?_); rintro e x1 ⟨rfl, ho1, st1⟩; have HO1 := hide ho1; have HST := hide ((Stp.of HB.out).trans ((Stp.of hx0).trans st1)); have qz0 : x1.cell? ⟨w.heap.size, 0, none⟩ = some (.slice (some ⟨g, 0, none⟩) mc.length c1) := st1.cell pz0 (by omega) (.inr (by omega)); have qz1 : x1.cell? ⟨w.heap.size, 1, none⟩ = some (.slice (some ⟨h, 0, none⟩) mt.length c2) := st1.cell pz1 (by omega) (.inr (by omega)); have qz2 : x1.cell? ⟨w.heap.size, 2, none⟩ = some (.int .i64 i) := st1.cell pz2 (by omega) (.inr (by omega)); have qz3 : x1.cell? ⟨w.heap.size, 3, none⟩ = some (.int .i64 l) := st1.cell pz3 (by omega) (.inr (by omega)); have qz4 : x1.cell? ⟨w.heap.size, 4, none⟩ = some (.bool d) := st1.cell pz4 (by omega) (.inr (by omega)); have qz5 : x1.cell? ⟨w.heap.size, 5, none⟩ = some (.int .i64 a) := st1.cell pz5 (by omega) (.inr (by omega)); have qz6 : x1.cell? ⟨w.heap.size, 6, none⟩ = some (.int .i64 p) := st1.cell pz6 (by omega) (.inr (by omega)); have qz7 : x1.cell? ⟨w.heap.size, 7, none⟩ = some (.int .i64 f) := st1.cell pz7 (by omega) (.inr (by omega)); have qz8 : x1.cell? ⟨w.heap.size, 8, none⟩ = some (.int .i64 s) := st1.cell pz8 (by omega) (.inr (by omega)); have qz9 : x1.cell? ⟨w.heap.size, 9, none⟩ = some (.slice o3 n3 c3) := st1.cell pz9 (by omega) (.inr (by omega)); have qz10 : x1.cell? ⟨w.heap.size, 10, none⟩ = some (.slice (some ⟨bg, fg, none⟩) gl cg) := st1.cell pz10 (by omega) (.inr (by omega)); have qz11 : x1.cell? ⟨w.heap.size, 11, none⟩ = some (.int .i64 (k : Int)) := st1.cell pz11 (by omega) (.inr (by omega)); have qz12 : x1.cell? ⟨w.heap.size, 12, none⟩ = some (.int .i64 st) := st1.cell pz12 (by omega) (.inr (by omega)); have qz13 : x1.cell? ⟨w.heap.size, 13, none⟩ = some (.int .i64 now) := st1.cell pz13 (by omega) (.inr (by omega)); clear ho1 st1) | fail)
      go_wp2
      go_ret
      exact ⟨rfl, HO1.out, HST.out⟩
  | true =>
    go_enter Tryz.func62, Tryz.ntmps62
    go_wp2
    (refine wp_region_grown (by kernel_rfl) (by kernel_rfl) ?_; intro hne9; (repeat (go_big_quiet_step (first | (go_at_call 90; exact grown_of _ (HF.out _)) | (go_at_call 96; exact grown_of _ (HS.out _)) | (go_at_call 97; exact grown_of _ (HRm.out _)) | (go_at_call 98; exact grown_of _ (HCt.out _))))); (with_reducible refine wpQuiet_nil ?_); intro _ hw9; obtain ⟨pq, hw8⟩ := hw9; subst hw8)
    obtain ⟨u1, hu1⟩ : ∃ W, pq.v = W := ⟨_, rfl⟩
    have hb := pq.b
    rw [hu1] at hb ⊢
    clear G0 G1 G2 G3 G4 G5 G6 G7 G8 G9 G10 G11 G12 G13 HF HS HRm HCt
    replace z0 := bC hb z0 zz
    replace z1 := bC hb z1 zz
    replace z2 := bC hb z2 zz
    replace z3 := bC hb z3 zz
    replace z4 := bC hb z4 zz
    replace z5 := bC hb z5 zz
    replace z6 := bC hb z6 zz
    replace z7 := bC hb z7 zz
    replace z8 := bC hb z8 zz
    replace z9 := bC hb z9 zz
    replace z10 := bC hb z10 zz
    replace z11 := bC hb z11 zz
    replace z12 := bC hb z12 zz
    replace z13 := bC hb z13 zz
    replace zz := Nat.lt_of_lt_of_le zz hb.size
    replace HB := hide (HB.out.trans (hb.mono HB.out.size))
    clear hb
    clear hu1 pq
    go_wp2_with fail
    refine (HLv.out u1).mono ?_
    rintro e v1 ⟨rfl, hb⟩
    replace z0 := bC hb z0 zz
    replace z1 := bC hb z1 zz
    replace z2 := bC hb z2 zz
    replace z3 := bC hb z3 zz
    replace z4 := bC hb z4 zz
    replace z5 := bC hb z5 zz
    replace z6 := bC hb z6 zz
    replace z7 := bC hb z7 zz
    replace z8 := bC hb z8 zz
    replace z9 := bC hb z9 zz
    replace z10 := bC hb z10 zz
    replace z11 := bC hb z11 zz
    replace z12 := bC hb z12 zz
    replace z13 := bC hb z13 zz
    replace zz := Nat.lt_of_lt_of_le zz hb.size
    replace HB := hide (HB.out.trans (hb.mono HB.out.size))
    clear hb
    have hv := HV.out
    have ht := HPT.out
    simp at hv ht
    subst hv
    subst ht
    go_wp2
    go_ret
    exact ⟨rfl, own_kept HO.out HB.out, Stp.of HB.out⟩
set_option maxRecDepth 20000 in
set_option maxHeartbeats 16000000 in
theorem passI_gl (g h c1 c2 : Nat) (mc mt : List Sl) (o3 : Option Addr) (n3 c3 bg fg gl cg k : Nat) (i l : Int) (d : Bool) (a p f s st now : Int) (base : Nat) (w : World) (hk : k < gl) (hgl : gl ≤ 1048576) (hfl : flowOkB a p = true) (hc0 : 0 < mc.length) (hc1 : mc.length ≤ 1048576) (ht0 : 0 < mt.length) (ht1 : mt.length ≤ 1048576) (hn0 : 0 ≤ now) (hn1 : now ≤ 100000) (zg : g < w.heap.size) (hC : Row w g 0 mc) (ho : w.ownsRow base CellT 5 (.slice (some ⟨h, 0, none⟩) mt.length c2) mt.length (mt.flatMap layS.cs)) (e1 : (endL mt a p).2 = false) (e2 : roomB mc d = true) (e3 : (countL mc : Int) < l) :
    Calls Tryz.prog 62 #[visV (.slice (some ⟨g, 0, none⟩) mc.length c1) (.slice (some ⟨h, 0, none⟩) mt.length c2) i l d a p f s (.slice o3 n3 c3) (.slice (some ⟨bg, fg, none⟩) gl cg) (k : Int) st now] w fun e w' => e = .returned (.int .i64 (passV mc mt d l a p k gl)) ∧ w'.ownsRow base CellT 5 (.slice (some ⟨h, 0, none⟩) mt.length c2) mt.length ((passT mc mt d l a p now k gl).flatMap layS.cs) ∧ Stp h (h + 1) w w' := by
  have HC := hide hC
  have HT : Hid (Row w h 0 mt) := rd_of_own ho rfl
  have zh : h < w.heap.size := (ho.lt h rfl).2
  have HO := hide ho
  clear hC ho
  obtain ⟨W0, hW0⟩ : ∃ W, (w.alloc (.cells #[.slice (some ⟨g, 0, none⟩) mc.length c1, .slice (some ⟨h, 0, none⟩) mt.length c2, .int .i64 i, .int .i64 l, .bool d, .int .i64 a, .int .i64 p, .int .i64 f, .int .i64 s, .slice o3 n3 c3, .slice (some ⟨bg, fg, none⟩) gl cg, .int .i64 (k : Int), .int .i64 st, .int .i64 now] 78)) = W := ⟨_, rfl⟩
  have hb_W0 : Below w.heap.size w W0 := by rw [← hW0]; exact ((Below.refl _ _).alloc (Nat.le_refl _) _)
  have HB := hide hb_W0
  clear hb_W0
  have zz : w.heap.size < W0.heap.size := by rw [← hW0]; simp
  have z0 : W0.cell? ⟨w.heap.size, 0, none⟩ = some (.slice (some ⟨g, 0, none⟩) mc.length c1) := by rw [← hW0]; simp [go_sem]
  have z1 : W0.cell? ⟨w.heap.size, 1, none⟩ = some (.slice (some ⟨h, 0, none⟩) mt.length c2) := by rw [← hW0]; simp [go_sem]
  have z2 : W0.cell? ⟨w.heap.size, 2, none⟩ = some (.int .i64 i) := by rw [← hW0]; simp [go_sem]
  have z3 : W0.cell? ⟨w.heap.size, 3, none⟩ = some (.int .i64 l) := by rw [← hW0]; simp [go_sem]
  have z4 : W0.cell? ⟨w.heap.size, 4, none⟩ = some (.bool d) := by rw [← hW0]; simp [go_sem]
  have z5 : W0.cell? ⟨w.heap.size, 5, none⟩ = some (.int .i64 a) := by rw [← hW0]; simp [go_sem]
  have z6 : W0.cell? ⟨w.heap.size, 6, none⟩ = some (.int .i64 p) := by rw [← hW0]; simp [go_sem]
  have z7 : W0.cell? ⟨w.heap.size, 7, none⟩ = some (.int .i64 f) := by rw [← hW0]; simp [go_sem]
  have z8 : W0.cell? ⟨w.heap.size, 8, none⟩ = some (.int .i64 s) := by rw [← hW0]; simp [go_sem]
  have z9 : W0.cell? ⟨w.heap.size, 9, none⟩ = some (.slice o3 n3 c3) := by rw [← hW0]; simp [go_sem]
  have z10 : W0.cell? ⟨w.heap.size, 10, none⟩ = some (.slice (some ⟨bg, fg, none⟩) gl cg) := by rw [← hW0]; simp [go_sem]
  have z11 : W0.cell? ⟨w.heap.size, 11, none⟩ = some (.int .i64 (k : Int)) := by rw [← hW0]; simp [go_sem]
  have z12 : W0.cell? ⟨w.heap.size, 12, none⟩ = some (.int .i64 st) := by rw [← hW0]; simp [go_sem]
  have z13 : W0.cell? ⟨w.heap.size, 13, none⟩ = some (.int .i64 now) := by rw [← hW0]; simp [go_sem]
  have HF := hide (fun pp : Grown W0 => visFlow_any (some ⟨g, 0, none⟩) (some ⟨h, 0, none⟩) o3 mc.length c1 mt.length c2 n3 c3 bg fg gl cg k i l d a p f s st now pp.v)
  have HL := hide (fun pp : Grown W0 => visLast_any (some ⟨g, 0, none⟩) (some ⟨h, 0, none⟩) o3 mc.length c1 mt.length c2 n3 c3 bg fg gl cg k i l d a p f s st now pp.v hk hgl)
  have HS := hide (fun pp : Grown W0 => shunsI_any h 0 c2 mt a p pp.v ht0 ht1 hfl (Nat.lt_of_lt_of_le (Nat.lt_of_lt_of_le zh HB.out.size) pp.b.size) (Row.kept (Row.kept HT.out HB.out zh) pp.b (Nat.lt_of_lt_of_le zh HB.out.size)))
  have HRm := hide (fun pp : Grown W0 => hasRoomI_any g 0 c1 mc (some ⟨h, 0, none⟩) mt.length c2 i l d pp.v (Nat.lt_of_lt_of_le (Nat.lt_of_lt_of_le zg HB.out.size) pp.b.size) (Row.kept (Row.kept HC.out HB.out zg) pp.b (Nat.lt_of_lt_of_le zg HB.out.size)) hc1)
  have HCt := hide (fun pp : Grown W0 => countI_any g 0 c1 mc pp.v (Nat.lt_of_lt_of_le (Nat.lt_of_lt_of_le zg HB.out.size) pp.b.size) (Row.kept (Row.kept HC.out HB.out zg) pp.b (Nat.lt_of_lt_of_le zg HB.out.size)) hc1)
  have HLv := hide (fun W => visLast_any (some ⟨g, 0, none⟩) (some ⟨h, 0, none⟩) o3 mc.length c1 mt.length c2 n3 c3 bg fg gl cg k i l d a p f s st now W hk hgl)
  have HFv := hide (fun W => visFlow_any (some ⟨g, 0, none⟩) (some ⟨h, 0, none⟩) o3 mc.length c1 mt.length c2 n3 c3 bg fg gl cg k i l d a p f s st now W)
  have HSh := hide (fun W ho => shunI_any h c2 base mt a p now W ht0 ht1 hfl hn0 hn1 ho)
  have HV := hide (show passV mc mt d l a p k gl = if (lastB k gl || (!(endL mt a p).2 && roomB mc d && decide ((countL mc : Int) < l))) = true then -1 else if 0 ≤ (endL mt a p).1 then 2 else 5 from rfl)
  have HPT := hide (show passT mc mt d l a p now k gl = if (lastB k gl || (!(endL mt a p).2 && roomB mc d && decide ((countL mc : Int) < l))) = true then mt else putL mt a p 0 (now + 21) from rfl)
  obtain ⟨lb, hlb⟩ : ∃ q, lastB k gl = q := ⟨_, rfl⟩
  obtain ⟨sh, hsh⟩ : ∃ q, (endL mt a p).2 = q := ⟨_, rfl⟩
  obtain ⟨rm, hrm⟩ : ∃ q, roomB mc d = q := ⟨_, rfl⟩
  obtain ⟨nc, hnc⟩ : ∃ q, countL mc = q := ⟨_, rfl⟩
  rw [hlb] at HLv HV HPT
  rw [hsh] at HS HV HPT
  rw [hrm] at HRm HV HPT
  rw [hnc] at HCt HV HPT
  have hsv := hsh
  have hrv := hrm
  have hnv := hnc
  clear hlb hsh hrm hnc HL
  obtain ⟨pv, hpv⟩ : ∃ q, passV mc mt d l a p k gl = q := ⟨_, rfl⟩
  obtain ⟨pt, hpt⟩ : ∃ q, passT mc mt d l a p now k gl = q := ⟨_, rfl⟩
  rw [hpv] at HV ⊢
  rw [hpt] at HPT ⊢
  clear hpv hpt
  have G0 := Grown.cell z0 zz
  have G1 := Grown.cell z1 zz
  have G2 := Grown.cell z2 zz
  have G3 := Grown.cell z3 zz
  have G4 := Grown.cell z4 zz
  have G5 := Grown.cell z5 zz
  have G6 := Grown.cell z6 zz
  have G7 := Grown.cell z7 zz
  have G8 := Grown.cell z8 zz
  have G9 := Grown.cell z9 zz
  have G10 := Grown.cell z10 zz
  have G11 := Grown.cell z11 zz
  have G12 := Grown.cell z12 zz
  have G13 := Grown.cell z13 zz
  obtain rfl := hsv.symm.trans e1
  obtain rfl := hrv.symm.trans e2
  have hlt := e3
  rw [hnv] at hlt
  rw [decide_eq_true hlt] at HV HPT
  clear e3
  clear e1 e2
  try clear hsv
  try clear hrv
  try clear hnv
  cases lb with
  | false =>
    go_enter Tryz.func62, Tryz.ntmps62
    go_wp2
    (refine wp_region_grown (by kernel_rfl) (by kernel_rfl) ?_; intro hne9; (repeat (go_big_quiet_step (first | (go_at_call 90; exact grown_of _ (HF.out _)) | (go_at_call 96; exact grown_of _ (HS.out _)) | (go_at_call 97; exact grown_of _ (HRm.out _)) | (go_at_call 98; exact grown_of _ (HCt.out _))))); (with_reducible refine wpQuiet_nil ?_); intro _ hw9; obtain ⟨pq, hw8⟩ := hw9; subst hw8)
    obtain ⟨u1, hu1⟩ : ∃ W, pq.v = W := ⟨_, rfl⟩
    have hb := pq.b
    rw [hu1] at hb ⊢
    clear G0 G1 G2 G3 G4 G5 G6 G7 G8 G9 G10 G11 G12 G13 HF HS HRm HCt
    replace z0 := bC hb z0 zz
    replace z1 := bC hb z1 zz
    replace z2 := bC hb z2 zz
    replace z3 := bC hb z3 zz
    replace z4 := bC hb z4 zz
    replace z5 := bC hb z5 zz
    replace z6 := bC hb z6 zz
    replace z7 := bC hb z7 zz
    replace z8 := bC hb z8 zz
    replace z9 := bC hb z9 zz
    replace z10 := bC hb z10 zz
    replace z11 := bC hb z11 zz
    replace z12 := bC hb z12 zz
    replace z13 := bC hb z13 zz
    replace zz := Nat.lt_of_lt_of_le zz hb.size
    replace HB := hide (HB.out.trans (hb.mono HB.out.size))
    clear hb
    clear hu1 pq
    go_wp2_with fail
    refine (HLv.out u1).mono ?_
    rintro e v1 ⟨rfl, hb⟩
    replace z0 := bC hb z0 zz
    replace z1 := bC hb z1 zz
    replace z2 := bC hb z2 zz
    replace z3 := bC hb z3 zz
    replace z4 := bC hb z4 zz
    replace z5 := bC hb z5 zz
    replace z6 := bC hb z6 zz
    replace z7 := bC hb z7 zz
    replace z8 := bC hb z8 zz
    replace z9 := bC hb z9 zz
    replace z10 := bC hb z10 zz
    replace z11 := bC hb z11 zz
    replace z12 := bC hb z12 zz
    replace z13 := bC hb z13 zz
    replace zz := Nat.lt_of_lt_of_le zz hb.size
    replace HB := hide (HB.out.trans (hb.mono HB.out.size))
    clear hb
    have hv := HV.out
    have ht := HPT.out
    simp at hv ht
    subst hv
    subst ht
    go_wp2
    go_ret
    exact ⟨rfl, own_kept HO.out HB.out, Stp.of HB.out⟩
  | true =>
    go_enter Tryz.func62, Tryz.ntmps62
    go_wp2
    (refine wp_region_grown (by kernel_rfl) (by kernel_rfl) ?_; intro hne9; (repeat (go_big_quiet_step (first | (go_at_call 90; exact grown_of _ (HF.out _)) | (go_at_call 96; exact grown_of _ (HS.out _)) | (go_at_call 97; exact grown_of _ (HRm.out _)) | (go_at_call 98; exact grown_of _ (HCt.out _))))); (with_reducible refine wpQuiet_nil ?_); intro _ hw9; obtain ⟨pq, hw8⟩ := hw9; subst hw8)
    obtain ⟨u1, hu1⟩ : ∃ W, pq.v = W := ⟨_, rfl⟩
    have hb := pq.b
    rw [hu1] at hb ⊢
    clear G0 G1 G2 G3 G4 G5 G6 G7 G8 G9 G10 G11 G12 G13 HF HS HRm HCt
    replace z0 := bC hb z0 zz
    replace z1 := bC hb z1 zz
    replace z2 := bC hb z2 zz
    replace z3 := bC hb z3 zz
    replace z4 := bC hb z4 zz
    replace z5 := bC hb z5 zz
    replace z6 := bC hb z6 zz
    replace z7 := bC hb z7 zz
    replace z8 := bC hb z8 zz
    replace z9 := bC hb z9 zz
    replace z10 := bC hb z10 zz
    replace z11 := bC hb z11 zz
    replace z12 := bC hb z12 zz
    replace z13 := bC hb z13 zz
    replace zz := Nat.lt_of_lt_of_le zz hb.size
    replace HB := hide (HB.out.trans (hb.mono HB.out.size))
    clear hb
    clear hu1 pq
    go_wp2_with fail
    refine (HLv.out u1).mono ?_
    rintro e v1 ⟨rfl, hb⟩
    replace z0 := bC hb z0 zz
    replace z1 := bC hb z1 zz
    replace z2 := bC hb z2 zz
    replace z3 := bC hb z3 zz
    replace z4 := bC hb z4 zz
    replace z5 := bC hb z5 zz
    replace z6 := bC hb z6 zz
    replace z7 := bC hb z7 zz
    replace z8 := bC hb z8 zz
    replace z9 := bC hb z9 zz
    replace z10 := bC hb z10 zz
    replace z11 := bC hb z11 zz
    replace z12 := bC hb z12 zz
    replace z13 := bC hb z13 zz
    replace zz := Nat.lt_of_lt_of_le zz hb.size
    replace HB := hide (HB.out.trans (hb.mono HB.out.size))
    clear hb
    have hv := HV.out
    have ht := HPT.out
    simp at hv ht
    subst hv
    subst ht
    go_wp2
    go_ret
    exact ⟨rfl, own_kept HO.out HB.out, Stp.of HB.out⟩
set_option maxRecDepth 20000 in
set_option maxHeartbeats 16000000 in
theorem passI_li (g h c1 c2 : Nat) (mc mt : List Sl) (o3 : Option Addr) (n3 c3 bg fg gl cg k : Nat) (i l : Int) (d : Bool) (a p f s st now : Int) (base : Nat) (w : World) (hk : k < gl) (hgl : gl ≤ 1048576) (hfl : flowOkB a p = true) (hc0 : 0 < mc.length) (hc1 : mc.length ≤ 1048576) (ht0 : 0 < mt.length) (ht1 : mt.length ≤ 1048576) (hn0 : 0 ≤ now) (hn1 : now ≤ 100000) (zg : g < w.heap.size) (hC : Row w g 0 mc) (ho : w.ownsRow base CellT 5 (.slice (some ⟨h, 0, none⟩) mt.length c2) mt.length (mt.flatMap layS.cs)) (e1 : (endL mt a p).2 = false) (e2 : roomB mc d = true) (e3 : ¬ ((countL mc : Int) < l)) :
    Calls Tryz.prog 62 #[visV (.slice (some ⟨g, 0, none⟩) mc.length c1) (.slice (some ⟨h, 0, none⟩) mt.length c2) i l d a p f s (.slice o3 n3 c3) (.slice (some ⟨bg, fg, none⟩) gl cg) (k : Int) st now] w fun e w' => e = .returned (.int .i64 (passV mc mt d l a p k gl)) ∧ w'.ownsRow base CellT 5 (.slice (some ⟨h, 0, none⟩) mt.length c2) mt.length ((passT mc mt d l a p now k gl).flatMap layS.cs) ∧ Stp h (h + 1) w w' := by
  have HC := hide hC
  have HT : Hid (Row w h 0 mt) := rd_of_own ho rfl
  have zh : h < w.heap.size := (ho.lt h rfl).2
  have HO := hide ho
  clear hC ho
  obtain ⟨W0, hW0⟩ : ∃ W, (w.alloc (.cells #[.slice (some ⟨g, 0, none⟩) mc.length c1, .slice (some ⟨h, 0, none⟩) mt.length c2, .int .i64 i, .int .i64 l, .bool d, .int .i64 a, .int .i64 p, .int .i64 f, .int .i64 s, .slice o3 n3 c3, .slice (some ⟨bg, fg, none⟩) gl cg, .int .i64 (k : Int), .int .i64 st, .int .i64 now] 78)) = W := ⟨_, rfl⟩
  have hb_W0 : Below w.heap.size w W0 := by rw [← hW0]; exact ((Below.refl _ _).alloc (Nat.le_refl _) _)
  have HB := hide hb_W0
  clear hb_W0
  have zz : w.heap.size < W0.heap.size := by rw [← hW0]; simp
  have z0 : W0.cell? ⟨w.heap.size, 0, none⟩ = some (.slice (some ⟨g, 0, none⟩) mc.length c1) := by rw [← hW0]; simp [go_sem]
  have z1 : W0.cell? ⟨w.heap.size, 1, none⟩ = some (.slice (some ⟨h, 0, none⟩) mt.length c2) := by rw [← hW0]; simp [go_sem]
  have z2 : W0.cell? ⟨w.heap.size, 2, none⟩ = some (.int .i64 i) := by rw [← hW0]; simp [go_sem]
  have z3 : W0.cell? ⟨w.heap.size, 3, none⟩ = some (.int .i64 l) := by rw [← hW0]; simp [go_sem]
  have z4 : W0.cell? ⟨w.heap.size, 4, none⟩ = some (.bool d) := by rw [← hW0]; simp [go_sem]
  have z5 : W0.cell? ⟨w.heap.size, 5, none⟩ = some (.int .i64 a) := by rw [← hW0]; simp [go_sem]
  have z6 : W0.cell? ⟨w.heap.size, 6, none⟩ = some (.int .i64 p) := by rw [← hW0]; simp [go_sem]
  have z7 : W0.cell? ⟨w.heap.size, 7, none⟩ = some (.int .i64 f) := by rw [← hW0]; simp [go_sem]
  have z8 : W0.cell? ⟨w.heap.size, 8, none⟩ = some (.int .i64 s) := by rw [← hW0]; simp [go_sem]
  have z9 : W0.cell? ⟨w.heap.size, 9, none⟩ = some (.slice o3 n3 c3) := by rw [← hW0]; simp [go_sem]
  have z10 : W0.cell? ⟨w.heap.size, 10, none⟩ = some (.slice (some ⟨bg, fg, none⟩) gl cg) := by rw [← hW0]; simp [go_sem]
  have z11 : W0.cell? ⟨w.heap.size, 11, none⟩ = some (.int .i64 (k : Int)) := by rw [← hW0]; simp [go_sem]
  have z12 : W0.cell? ⟨w.heap.size, 12, none⟩ = some (.int .i64 st) := by rw [← hW0]; simp [go_sem]
  have z13 : W0.cell? ⟨w.heap.size, 13, none⟩ = some (.int .i64 now) := by rw [← hW0]; simp [go_sem]
  have HF := hide (fun pp : Grown W0 => visFlow_any (some ⟨g, 0, none⟩) (some ⟨h, 0, none⟩) o3 mc.length c1 mt.length c2 n3 c3 bg fg gl cg k i l d a p f s st now pp.v)
  have HL := hide (fun pp : Grown W0 => visLast_any (some ⟨g, 0, none⟩) (some ⟨h, 0, none⟩) o3 mc.length c1 mt.length c2 n3 c3 bg fg gl cg k i l d a p f s st now pp.v hk hgl)
  have HS := hide (fun pp : Grown W0 => shunsI_any h 0 c2 mt a p pp.v ht0 ht1 hfl (Nat.lt_of_lt_of_le (Nat.lt_of_lt_of_le zh HB.out.size) pp.b.size) (Row.kept (Row.kept HT.out HB.out zh) pp.b (Nat.lt_of_lt_of_le zh HB.out.size)))
  have HRm := hide (fun pp : Grown W0 => hasRoomI_any g 0 c1 mc (some ⟨h, 0, none⟩) mt.length c2 i l d pp.v (Nat.lt_of_lt_of_le (Nat.lt_of_lt_of_le zg HB.out.size) pp.b.size) (Row.kept (Row.kept HC.out HB.out zg) pp.b (Nat.lt_of_lt_of_le zg HB.out.size)) hc1)
  have HCt := hide (fun pp : Grown W0 => countI_any g 0 c1 mc pp.v (Nat.lt_of_lt_of_le (Nat.lt_of_lt_of_le zg HB.out.size) pp.b.size) (Row.kept (Row.kept HC.out HB.out zg) pp.b (Nat.lt_of_lt_of_le zg HB.out.size)) hc1)
  have HLv := hide (fun W => visLast_any (some ⟨g, 0, none⟩) (some ⟨h, 0, none⟩) o3 mc.length c1 mt.length c2 n3 c3 bg fg gl cg k i l d a p f s st now W hk hgl)
  have HFv := hide (fun W => visFlow_any (some ⟨g, 0, none⟩) (some ⟨h, 0, none⟩) o3 mc.length c1 mt.length c2 n3 c3 bg fg gl cg k i l d a p f s st now W)
  have HSh := hide (fun W ho => shunI_any h c2 base mt a p now W ht0 ht1 hfl hn0 hn1 ho)
  have HV := hide (show passV mc mt d l a p k gl = if (lastB k gl || (!(endL mt a p).2 && roomB mc d && decide ((countL mc : Int) < l))) = true then -1 else if 0 ≤ (endL mt a p).1 then 2 else 5 from rfl)
  have HPT := hide (show passT mc mt d l a p now k gl = if (lastB k gl || (!(endL mt a p).2 && roomB mc d && decide ((countL mc : Int) < l))) = true then mt else putL mt a p 0 (now + 21) from rfl)
  obtain ⟨lb, hlb⟩ : ∃ q, lastB k gl = q := ⟨_, rfl⟩
  obtain ⟨sh, hsh⟩ : ∃ q, (endL mt a p).2 = q := ⟨_, rfl⟩
  obtain ⟨rm, hrm⟩ : ∃ q, roomB mc d = q := ⟨_, rfl⟩
  obtain ⟨nc, hnc⟩ : ∃ q, countL mc = q := ⟨_, rfl⟩
  rw [hlb] at HLv HV HPT
  rw [hsh] at HS HV HPT
  rw [hrm] at HRm HV HPT
  rw [hnc] at HCt HV HPT
  have hsv := hsh
  have hrv := hrm
  have hnv := hnc
  clear hlb hsh hrm hnc HL
  obtain ⟨pv, hpv⟩ : ∃ q, passV mc mt d l a p k gl = q := ⟨_, rfl⟩
  obtain ⟨pt, hpt⟩ : ∃ q, passT mc mt d l a p now k gl = q := ⟨_, rfl⟩
  rw [hpv] at HV ⊢
  rw [hpt] at HPT ⊢
  clear hpv hpt
  have G0 := Grown.cell z0 zz
  have G1 := Grown.cell z1 zz
  have G2 := Grown.cell z2 zz
  have G3 := Grown.cell z3 zz
  have G4 := Grown.cell z4 zz
  have G5 := Grown.cell z5 zz
  have G6 := Grown.cell z6 zz
  have G7 := Grown.cell z7 zz
  have G8 := Grown.cell z8 zz
  have G9 := Grown.cell z9 zz
  have G10 := Grown.cell z10 zz
  have G11 := Grown.cell z11 zz
  have G12 := Grown.cell z12 zz
  have G13 := Grown.cell z13 zz
  obtain rfl := hsv.symm.trans e1
  obtain rfl := hrv.symm.trans e2
  have hlt := e3
  rw [hnv] at hlt
  rw [decide_eq_false hlt] at HV HPT
  clear e3
  clear e1 e2
  try clear hsv
  try clear hrv
  try clear hnv
  cases lb with
  | false =>
    go_enter Tryz.func62, Tryz.ntmps62
    go_wp2
    (refine wp_region_grown (by kernel_rfl) (by kernel_rfl) ?_; intro hne9; (repeat (go_big_quiet_step (first | (go_at_call 90; exact grown_of _ (HF.out _)) | (go_at_call 96; exact grown_of _ (HS.out _)) | (go_at_call 97; exact grown_of _ (HRm.out _)) | (go_at_call 98; exact grown_of _ (HCt.out _))))); (with_reducible refine wpQuiet_nil ?_); intro _ hw9; obtain ⟨pq, hw8⟩ := hw9; subst hw8)
    obtain ⟨u1, hu1⟩ : ∃ W, pq.v = W := ⟨_, rfl⟩
    have hb := pq.b
    rw [hu1] at hb ⊢
    clear G0 G1 G2 G3 G4 G5 G6 G7 G8 G9 G10 G11 G12 G13 HF HS HRm HCt
    replace z0 := bC hb z0 zz
    replace z1 := bC hb z1 zz
    replace z2 := bC hb z2 zz
    replace z3 := bC hb z3 zz
    replace z4 := bC hb z4 zz
    replace z5 := bC hb z5 zz
    replace z6 := bC hb z6 zz
    replace z7 := bC hb z7 zz
    replace z8 := bC hb z8 zz
    replace z9 := bC hb z9 zz
    replace z10 := bC hb z10 zz
    replace z11 := bC hb z11 zz
    replace z12 := bC hb z12 zz
    replace z13 := bC hb z13 zz
    replace zz := Nat.lt_of_lt_of_le zz hb.size
    replace HB := hide (HB.out.trans (hb.mono HB.out.size))
    clear hb
    clear hu1 pq
    go_wp2_with fail
    refine (HLv.out u1).mono ?_
    rintro e v1 ⟨rfl, hb⟩
    replace z0 := bC hb z0 zz
    replace z1 := bC hb z1 zz
    replace z2 := bC hb z2 zz
    replace z3 := bC hb z3 zz
    replace z4 := bC hb z4 zz
    replace z5 := bC hb z5 zz
    replace z6 := bC hb z6 zz
    replace z7 := bC hb z7 zz
    replace z8 := bC hb z8 zz
    replace z9 := bC hb z9 zz
    replace z10 := bC hb z10 zz
    replace z11 := bC hb z11 zz
    replace z12 := bC hb z12 zz
    replace z13 := bC hb z13 zz
    replace zz := Nat.lt_of_lt_of_le zz hb.size
    replace HB := hide (HB.out.trans (hb.mono HB.out.size))
    clear hb
    by_cases hok : 0 ≤ (endL mt a p).1
    · rw [decide_eq_true hok] at HSh
      have hv := HV.out
      have ht := HPT.out
      simp [hok] at hv ht
      subst hv
      subst ht
      clear hok
      go_wp2
      go_region_held3 (fun w' => w'.cell? ⟨w.heap.size, 0, none⟩ = some (.slice (some ⟨g, 0, none⟩) mc.length c1) ∧ w'.cell? ⟨w.heap.size, 1, none⟩ = some (.slice (some ⟨h, 0, none⟩) mt.length c2) ∧ w'.cell? ⟨w.heap.size, 2, none⟩ = some (.int .i64 i) ∧ w'.cell? ⟨w.heap.size, 3, none⟩ = some (.int .i64 l) ∧ w'.cell? ⟨w.heap.size, 4, none⟩ = some (.bool d) ∧ w'.cell? ⟨w.heap.size, 5, none⟩ = some (.int .i64 a) ∧ w'.cell? ⟨w.heap.size, 6, none⟩ = some (.int .i64 p) ∧ w'.cell? ⟨w.heap.size, 7, none⟩ = some (.int .i64 f) ∧ w'.cell? ⟨w.heap.size, 8, none⟩ = some (.int .i64 s) ∧ w'.cell? ⟨w.heap.size, 9, none⟩ = some (.slice o3 n3 c3) ∧ w'.cell? ⟨w.heap.size, 10, none⟩ = some (.slice (some ⟨bg, fg, none⟩) gl cg) ∧ w'.cell? ⟨w.heap.size, 11, none⟩ = some (.int .i64 (k : Int)) ∧ w'.cell? ⟨w.heap.size, 12, none⟩ = some (.int .i64 st) ∧ w'.cell? ⟨w.heap.size, 13, none⟩ = some (.int .i64 now)) (first | with_reducible exact ⟨qz0, qz1, qz2, qz3, qz4, qz5, qz6, qz7, qz8, qz9, qz10, qz11, qz12, qz13⟩ | with_reducible exact ⟨pz0, pz1, pz2, pz3, pz4, pz5, pz6, pz7, pz8, pz9, pz10, pz11, pz12, pz13⟩ | exact ⟨z0, z1, z2, z3, z4, z5, z6, z7, z8, z9, z10, z11, z12, z13⟩ | go_keep) (first | (go_at_call 90; (with_reducible refine (HFv.out v1.drew).mono ?_); rintro e x0 ⟨rfl, hb⟩; have hx0 : Below v1.heap.size v1 x0 := (Below.drew (Below.refl _ _)).trans hb; have sx0 := hx0.size; clear hb; have pz0 := (hx0.cell (p := ⟨w.heap.size, 0, none⟩) zz).trans z0; have pz1 := (hx0.cell (p := ⟨w.heap.size, 1, none⟩) zz).trans z1; have pz2 := (hx0.cell (p := ⟨w.heap.size, 2, none⟩) zz).trans z2; have pz3 := (hx0.cell (p := ⟨w.heap.size, 3, none⟩) zz).trans z3; have pz4 := (hx0.cell (p := ⟨w.heap.size, 4, none⟩) zz).trans z4; have pz5 := (hx0.cell (p := ⟨w.heap.size, 5, none⟩) zz).trans z5; have pz6 := (hx0.cell (p := ⟨w.heap.size, 6, none⟩) zz).trans z6; have pz7 := (hx0.cell (p := ⟨w.heap.size, 7, none⟩) zz).trans z7; have pz8 := (hx0.cell (p := ⟨w.heap.size, 8, none⟩) zz).trans z8; have pz9 := (hx0.cell (p := ⟨w.heap.size, 9, none⟩) zz).trans z9; have pz10 := (hx0.cell (p := ⟨w.heap.size, 10, none⟩) zz).trans z10; have pz11 := (hx0.cell (p := ⟨w.heap.size, 11, none⟩) zz).trans z11; have pz12 := (hx0.cell (p := ⟨w.heap.size, 12, none⟩) zz).trans z12; have pz13 := (hx0.cell (p := ⟨w.heap.size, 13, none⟩) zz).trans z13) | (go_at_call 93; (with_reducible refine (HSh.out x0 (own_kept (own_kept HO.out HB.out) hx0)).mono ?_); rintro e x1 ⟨rfl, ho1, st1⟩; have HO1 := hide ho1; have HST := hide ((Stp.of HB.out).trans ((Stp.of hx0).trans st1)); have qz0 : x1.cell? ⟨w.heap.size, 0, none⟩ = some (.slice (some ⟨g, 0, none⟩) mc.length c1) := st1.cell pz0 (by omega) (.inr (by omega)); have qz1 : x1.cell? ⟨w.heap.size, 1, none⟩ = some (.slice (some ⟨h, 0, none⟩) mt.length c2) := st1.cell pz1 (by omega) (.inr (by omega)); have qz2 : x1.cell? ⟨w.heap.size, 2, none⟩ = some (.int .i64 i) := st1.cell pz2 (by omega) (.inr (by omega)); have qz3 : x1.cell? ⟨w.heap.size, 3, none⟩ = some (.int .i64 l) := st1.cell pz3 (by omega) (.inr (by omega)); have qz4 : x1.cell? ⟨w.heap.size, 4, none⟩ = some (.bool d) := st1.cell pz4 (by omega) (.inr (by omega)); have qz5 : x1.cell? ⟨w.heap.size, 5, none⟩ = some (.int .i64 a) := st1.cell pz5 (by omega) (.inr (by omega)); have qz6 : x1.cell? ⟨w.heap.size, 6, none⟩ = some (.int .i64 p) := st1.cell pz6 (by omega) (.inr (by omega)); have qz7 : x1.cell? ⟨w.heap.size, 7, none⟩ = some (.int .i64 f) := st1.cell pz7 (by omega) (.inr (by omega)); have qz8 : x1.cell? ⟨w.heap.size, 8, none⟩ = some (.int .i64 s) := st1.cell pz8 (by omega) (.inr (by omega)); have qz9 : x1.cell? ⟨w.heap.size, 9, none⟩ = some (.slice o3 n3 c3) := st1.cell pz9 (by omega) (.inr (by omega)); have qz10 : x1.cell? ⟨w.heap.size, 10, none⟩ = some (.slice (some ⟨bg, fg, none⟩) gl cg) := st1.cell pz10 (by omega) (.inr (by omega)); have qz11 : x1.cell? ⟨w.heap.size, 11, none⟩ = some (.int .i64 (k : Int)) := st1.cell pz11 (by omega) (.inr (by omega)); have qz12 : x1.cell? ⟨w.heap.size, 12, none⟩ = some (.int .i64 st) := st1.cell pz12 (by omega) (.inr (by omega)); have qz13 : x1.cell? ⟨w.heap.size, 13, none⟩ = some (.int .i64 now) := st1.cell pz13 (by omega) (.inr (by omega)); clear ho1 st1) | fail)
      go_wp2
      go_ret
      exact ⟨rfl, HO1.out, HST.out⟩
    · rw [decide_eq_false hok] at HSh
      have hv := HV.out
      have ht := HPT.out
      simp [hok] at hv ht
      subst hv
      subst ht
      clear hok
      go_wp2
      go_region_held3 (fun w' => w'.cell? ⟨w.heap.size, 0, none⟩ = some (.slice (some ⟨g, 0, none⟩) mc.length c1) ∧ w'.cell? ⟨w.heap.size, 1, none⟩ = some (.slice (some ⟨h, 0, none⟩) mt.length c2) ∧ w'.cell? ⟨w.heap.size, 2, none⟩ = some (.int .i64 i) ∧ w'.cell? ⟨w.heap.size, 3, none⟩ = some (.int .i64 l) ∧ w'.cell? ⟨w.heap.size, 4, none⟩ = some (.bool d) ∧ w'.cell? ⟨w.heap.size, 5, none⟩ = some (.int .i64 a) ∧ w'.cell? ⟨w.heap.size, 6, none⟩ = some (.int .i64 p) ∧ w'.cell? ⟨w.heap.size, 7, none⟩ = some (.int .i64 f) ∧ w'.cell? ⟨w.heap.size, 8, none⟩ = some (.int .i64 s) ∧ w'.cell? ⟨w.heap.size, 9, none⟩ = some (.slice o3 n3 c3) ∧ w'.cell? ⟨w.heap.size, 10, none⟩ = some (.slice (some ⟨bg, fg, none⟩) gl cg) ∧ w'.cell? ⟨w.heap.size, 11, none⟩ = some (.int .i64 (k : Int)) ∧ w'.cell? ⟨w.heap.size, 12, none⟩ = some (.int .i64 st) ∧ w'.cell? ⟨w.heap.size, 13, none⟩ = some (.int .i64 now)) (first | with_reducible exact ⟨qz0, qz1, qz2, qz3, qz4, qz5, qz6, qz7, qz8, qz9, qz10, qz11, qz12, qz13⟩ | with_reducible exact ⟨pz0, pz1, pz2, pz3, pz4, pz5, pz6, pz7, pz8, pz9, pz10, pz11, pz12, pz13⟩ | exact ⟨z0, z1, z2, z3, z4, z5, z6, z7, z8, z9, z10, z11, z12, z13⟩ | go_keep) (first | (go_at_call 90; (with_reducible refine (HFv.out v1.drew).mono ?_); rintro e x0 ⟨rfl, hb⟩; have hx0 : Below v1.heap.size v1 x0 := (Below.drew (Below.refl _ _)).trans hb; have sx0 := hx0.size; clear hb; have pz0 := (hx0.cell (p := ⟨w.heap.size, 0, none⟩) zz).trans z0; have pz1 := (hx0.cell (p := ⟨w.heap.size, 1, none⟩) zz).trans z1; have pz2 := (hx0.cell (p := ⟨w.heap.size, 2, none⟩) zz).trans z2; have pz3 := (hx0.cell (p := ⟨w.heap.size, 3, none⟩) zz).trans z3; have pz4 := (hx0.cell (p := ⟨w.heap.size, 4, none⟩) zz).trans z4; have pz5 := (hx0.cell (p := ⟨w.heap.size, 5, none⟩) zz).trans z5; have pz6 := (hx0.cell (p := ⟨w.heap.size, 6, none⟩) zz).trans z6; have pz7 := (hx0.cell (p := ⟨w.heap.size, 7, none⟩) zz).trans z7; have pz8 := (hx0.cell (p := ⟨w.heap.size, 8, none⟩) zz).trans z8; have pz9 := (hx0.cell (p := ⟨w.heap.size, 9, none⟩) zz).trans z9; have pz10 := (hx0.cell (p := ⟨w.heap.size, 10, none⟩) zz).trans z10; have pz11 := (hx0.cell (p := ⟨w.heap.size, 11, none⟩) zz).trans z11; have pz12 := (hx0.cell (p := ⟨w.heap.size, 12, none⟩) zz).trans z12; have pz13 := (hx0.cell (p := ⟨w.heap.size, 13, none⟩) zz).trans z13) | (go_at_call 93; (with_reducible refine (HSh.out x0 (own_kept (own_kept HO.out HB.out) hx0)).mono ?_); rintro e x1 ⟨rfl, ho1, st1⟩; have HO1 := hide ho1; have HST := hide ((Stp.of HB.out).trans ((Stp.of hx0).trans st1)); have qz0 : x1.cell? ⟨w.heap.size, 0, none⟩ = some (.slice (some ⟨g, 0, none⟩) mc.length c1) := st1.cell pz0 (by omega) (.inr (by omega)); have qz1 : x1.cell? ⟨w.heap.size, 1, none⟩ = some (.slice (some ⟨h, 0, none⟩) mt.length c2) := st1.cell pz1 (by omega) (.inr (by omega)); have qz2 : x1.cell? ⟨w.heap.size, 2, none⟩ = some (.int .i64 i) := st1.cell pz2 (by omega) (.inr (by omega)); have qz3 : x1.cell? ⟨w.heap.size, 3, none⟩ = some (.int .i64 l) := st1.cell pz3 (by omega) (.inr (by omega)); have qz4 : x1.cell? ⟨w.heap.size, 4, none⟩ = some (.bool d) := st1.cell pz4 (by omega) (.inr (by omega)); have qz5 : x1.cell? ⟨w.heap.size, 5, none⟩ = some (.int .i64 a) := st1.cell pz5 (by omega) (.inr (by omega)); have qz6 : x1.cell? ⟨w.heap.size, 6, none⟩ = some (.int .i64 p) := st1.cell pz6 (by omega) (.inr (by omega)); have qz7 : x1.cell? ⟨w.heap.size, 7, none⟩ = some (.int .i64 f) := st1.cell pz7 (by omega) (.inr (by omega)); have qz8 : x1.cell? ⟨w.heap.size, 8, none⟩ = some (.int .i64 s) := st1.cell pz8 (by omega) (.inr (by omega)); have qz9 : x1.cell? ⟨w.heap.size, 9, none⟩ = some (.slice o3 n3 c3) := st1.cell pz9 (by omega) (.inr (by omega)); have qz10 : x1.cell? ⟨w.heap.size, 10, none⟩ = some (.slice (some ⟨bg, fg, none⟩) gl cg) := st1.cell pz10 (by omega) (.inr (by omega)); have qz11 : x1.cell? ⟨w.heap.size, 11, none⟩ = some (.int .i64 (k : Int)) := st1.cell pz11 (by omega) (.inr (by omega)); have qz12 : x1.cell? ⟨w.heap.size, 12, none⟩ = some (.int .i64 st) := st1.cell pz12 (by omega) (.inr (by omega)); have qz13 : x1.cell? ⟨w.heap.size, 13, none⟩ = some (.int .i64 now) := st1.cell pz13 (by omega) (.inr (by omega)); clear ho1 st1) | fail)
      go_wp2
      go_ret
      exact ⟨rfl, HO1.out, HST.out⟩
  | true =>
    go_enter Tryz.func62, Tryz.ntmps62
    go_wp2
    (refine wp_region_grown (by kernel_rfl) (by kernel_rfl) ?_; intro hne9; (repeat (go_big_quiet_step (first | (go_at_call 90; exact grown_of _ (HF.out _)) | (go_at_call 96; exact grown_of _ (HS.out _)) | (go_at_call 97; exact grown_of _ (HRm.out _)) | (go_at_call 98; exact grown_of _ (HCt.out _))))); (with_reducible refine wpQuiet_nil ?_); intro _ hw9; obtain ⟨pq, hw8⟩ := hw9; subst hw8)
    obtain ⟨u1, hu1⟩ : ∃ W, pq.v = W := ⟨_, rfl⟩
    have hb := pq.b
    rw [hu1] at hb ⊢
    clear G0 G1 G2 G3 G4 G5 G6 G7 G8 G9 G10 G11 G12 G13 HF HS HRm HCt
    replace z0 := bC hb z0 zz
    replace z1 := bC hb z1 zz
    replace z2 := bC hb z2 zz
    replace z3 := bC hb z3 zz
    replace z4 := bC hb z4 zz
    replace z5 := bC hb z5 zz
    replace z6 := bC hb z6 zz
    replace z7 := bC hb z7 zz
    replace z8 := bC hb z8 zz
    replace z9 := bC hb z9 zz
    replace z10 := bC hb z10 zz
    replace z11 := bC hb z11 zz
    replace z12 := bC hb z12 zz
    replace z13 := bC hb z13 zz
    replace zz := Nat.lt_of_lt_of_le zz hb.size
    replace HB := hide (HB.out.trans (hb.mono HB.out.size))
    clear hb
    clear hu1 pq
    go_wp2_with fail
    refine (HLv.out u1).mono ?_
    rintro e v1 ⟨rfl, hb⟩
    replace z0 := bC hb z0 zz
    replace z1 := bC hb z1 zz
    replace z2 := bC hb z2 zz
    replace z3 := bC hb z3 zz
    replace z4 := bC hb z4 zz
    replace z5 := bC hb z5 zz
    replace z6 := bC hb z6 zz
    replace z7 := bC hb z7 zz
    replace z8 := bC hb z8 zz
    replace z9 := bC hb z9 zz
    replace z10 := bC hb z10 zz
    replace z11 := bC hb z11 zz
    replace z12 := bC hb z12 zz
    replace z13 := bC hb z13 zz
    replace zz := Nat.lt_of_lt_of_le zz hb.size
    replace HB := hide (HB.out.trans (hb.mono HB.out.size))
    clear hb
    have hv := HV.out
    have ht := HPT.out
    simp at hv ht
    subst hv
    subst ht
    go_wp2
    go_ret
    exact ⟨rfl, own_kept HO.out HB.out, Stp.of HB.out⟩
set_option maxRecDepth 20000 in
set_option maxHeartbeats 16000000 in
theorem passI_any (g h c1 c2 : Nat) (mc mt : List Sl) (o3 : Option Addr) (n3 c3 bg fg gl cg k : Nat) (i l : Int) (d : Bool) (a p f s st now : Int) (base : Nat) (w : World) (hk : k < gl) (hgl : gl ≤ 1048576) (hfl : flowOkB a p = true) (hc0 : 0 < mc.length) (hc1 : mc.length ≤ 1048576) (ht0 : 0 < mt.length) (ht1 : mt.length ≤ 1048576) (hn0 : 0 ≤ now) (hn1 : now ≤ 100000) (zg : g < w.heap.size) (hC : Row w g 0 mc) (ho : w.ownsRow base CellT 5 (.slice (some ⟨h, 0, none⟩) mt.length c2) mt.length (mt.flatMap layS.cs))  :
    Calls Tryz.prog 62 #[visV (.slice (some ⟨g, 0, none⟩) mc.length c1) (.slice (some ⟨h, 0, none⟩) mt.length c2) i l d a p f s (.slice o3 n3 c3) (.slice (some ⟨bg, fg, none⟩) gl cg) (k : Int) st now] w fun e w' => e = .returned (.int .i64 (passV mc mt d l a p k gl)) ∧ w'.ownsRow base CellT 5 (.slice (some ⟨h, 0, none⟩) mt.length c2) mt.length ((passT mc mt d l a p now k gl).flatMap layS.cs) ∧ Stp h (h + 1) w w' := by
  cases e1 : (endL mt a p).2 with
  | true => exact passI_sh g h c1 c2 mc mt o3 n3 c3 bg fg gl cg k i l d a p f s st now base w hk hgl hfl hc0 hc1 ht0 ht1 hn0 hn1 zg hC ho e1
  | false =>
    cases e2 : roomB mc d with
    | false => exact passI_rm g h c1 c2 mc mt o3 n3 c3 bg fg gl cg k i l d a p f s st now base w hk hgl hfl hc0 hc1 ht0 ht1 hn0 hn1 zg hC ho e1 e2
    | true =>
      by_cases e3 : (countL mc : Int) < l
      · exact passI_gl g h c1 c2 mc mt o3 n3 c3 bg fg gl cg k i l d a p f s st now base w hk hgl hfl hc0 hc1 ht0 ht1 hn0 hn1 zg hC ho e1 e2 e3
      · exact passI_li g h c1 c2 mc mt o3 n3 c3 bg fg gl cg k i l d a p f s st now base w hk hgl hfl hc0 hc1 ht0 ht1 hn0 hn1 zg hC ho e1 e2 e3

end Go.Proofs.YtmkgbmmibjgeaaaGreat

/- The program's rule: what is of a flow that it has is taken; what ends it is the last. -/
namespace Go.Proofs.YtmkgbmmibjgeaaaGreat
open Go.ChangeShapes Go.WideShapes Go.ChangeAt Go.RowKit Go.Joins
set_option linter.unusedVariables false
set_option linter.unusedSimpArgs false

theorem hasAnyI_any (f x : Int) (w : World) : Calls Tryz.prog 91 #[.int .i64 f, .int .i64 x] w fun e w' => e = .returned (.bool (bits .and .i64 f x != 0)) ∧ w = w' := by
  go_enter Tryz.func91, Tryz.ntmps91
  go_wp2
  all_goals go_ret
  all_goals exact ⟨rfl, rfl⟩
def tkC (c : List Sl) (now a p f s : Int) : List Sl := if (endL c a p).2 = true then (if bits .and .i64 f 12 = 0 then putL c a p s (now + 50) else dropL c a p) else c
def tkT (c t : List Sl) (now a p f : Int) : List Sl := if (endL c a p).2 = true then (if bits .and .i64 f 12 = 0 then t else putL t a p 0 (now + 21)) else t

set_option maxRecDepth 20000 in
set_option maxHeartbeats 16000000 in
theorem takeI_no (g h c1 c2 : Nat) (mc mt : List Sl) (o3 : Option Addr) (n3 c3 bg fg gl cg k : Nat) (i l : Int) (d : Bool) (a p f s st now : Int) (lo mid hi : Nat) (w : World) (hfl : flowOkB a p = true) (hc0 : 0 < mc.length) (hc16 : mc.length ≤ 16) (ht0 : 0 < mt.length) (ht16 : mt.length ≤ 16) (hn0 : 0 ≤ now) (hn1 : now ≤ 100000) (hok : flowsOk mc) (hgm : g < mid) (hmh : mid ≤ h) (hhi : h < hi) (ho : w.ownsRow lo CellT 5 (.slice (some ⟨g, 0, none⟩) mc.length c1) mc.length (mc.flatMap layS.cs)) (hp : w.ownsRow mid CellT 5 (.slice (some ⟨h, 0, none⟩) mt.length c2) mt.length (mt.flatMap layS.cs)) (e1 : (endL mc a p).2 = false) :
    Calls Tryz.prog 59 #[visV (.slice (some ⟨g, 0, none⟩) mc.length c1) (.slice (some ⟨h, 0, none⟩) mt.length c2) i l d a p f s (.slice o3 n3 c3) (.slice (some ⟨bg, fg, none⟩) gl cg) (k : Int) st now] w fun e w' => e = .returned (.int .i64 (if (endL mc a p).2 = true then 0 else -1)) ∧ w'.ownsRow lo CellT 5 (.slice (some ⟨g, 0, none⟩) mc.length c1) mc.length ((tkC mc now a p f s).flatMap layS.cs) ∧ w'.ownsRow mid CellT 5 (.slice (some ⟨h, 0, none⟩) mt.length c2) mt.length ((tkT mc mt now a p f).flatMap layS.cs) ∧ Stp lo hi w w' := by
  have hlg := (ho.lt g rfl).1
  have zg := (ho.lt g rfl).2
  have zh := (hp.lt h rfl).2
  have HC : Hid (Row w g 0 mc) := rd_of_own ho rfl
  have HO := hide ho
  have HP := hide hp
  clear ho hp
  obtain ⟨W0, hW0⟩ : ∃ W, (w.alloc (.cells #[.slice (some ⟨g, 0, none⟩) mc.length c1, .slice (some ⟨h, 0, none⟩) mt.length c2, .int .i64 i, .int .i64 l, .bool d, .int .i64 a, .int .i64 p, .int .i64 f, .int .i64 s, .slice o3 n3 c3, .slice (some ⟨bg, fg, none⟩) gl cg, .int .i64 (k : Int), .int .i64 st, .int .i64 now] 78)) = W := ⟨_, rfl⟩
  have hb_W0 : Below w.heap.size w W0 := by rw [← hW0]; exact ((Below.refl _ _).alloc (Nat.le_refl _) _)
  have HB := hide hb_W0
  clear hb_W0
  have zz : w.heap.size < W0.heap.size := by rw [← hW0]; simp
  have z0 : W0.cell? ⟨w.heap.size, 0, none⟩ = some (.slice (some ⟨g, 0, none⟩) mc.length c1) := by rw [← hW0]; simp [go_sem]
  have z1 : W0.cell? ⟨w.heap.size, 1, none⟩ = some (.slice (some ⟨h, 0, none⟩) mt.length c2) := by rw [← hW0]; simp [go_sem]
  have z2 : W0.cell? ⟨w.heap.size, 2, none⟩ = some (.int .i64 i) := by rw [← hW0]; simp [go_sem]
  have z3 : W0.cell? ⟨w.heap.size, 3, none⟩ = some (.int .i64 l) := by rw [← hW0]; simp [go_sem]
  have z4 : W0.cell? ⟨w.heap.size, 4, none⟩ = some (.bool d) := by rw [← hW0]; simp [go_sem]
  have z5 : W0.cell? ⟨w.heap.size, 5, none⟩ = some (.int .i64 a) := by rw [← hW0]; simp [go_sem]
  have z6 : W0.cell? ⟨w.heap.size, 6, none⟩ = some (.int .i64 p) := by rw [← hW0]; simp [go_sem]
  have z7 : W0.cell? ⟨w.heap.size, 7, none⟩ = some (.int .i64 f) := by rw [← hW0]; simp [go_sem]
  have z8 : W0.cell? ⟨w.heap.size, 8, none⟩ = some (.int .i64 s) := by rw [← hW0]; simp [go_sem]
  have z9 : W0.cell? ⟨w.heap.size, 9, none⟩ = some (.slice o3 n3 c3) := by rw [← hW0]; simp [go_sem]
  have z10 : W0.cell? ⟨w.heap.size, 10, none⟩ = some (.slice (some ⟨bg, fg, none⟩) gl cg) := by rw [← hW0]; simp [go_sem]
  have z11 : W0.cell? ⟨w.heap.size, 11, none⟩ = some (.int .i64 (k : Int)) := by rw [← hW0]; simp [go_sem]
  have z12 : W0.cell? ⟨w.heap.size, 12, none⟩ = some (.int .i64 st) := by rw [← hW0]; simp [go_sem]
  have z13 : W0.cell? ⟨w.heap.size, 13, none⟩ = some (.int .i64 now) := by rw [← hW0]; simp [go_sem]
  have HF := hide (fun pp : Grown W0 => visFlow_any (some ⟨g, 0, none⟩) (some ⟨h, 0, none⟩) o3 mc.length c1 mt.length c2 n3 c3 bg fg gl cg k i l d a p f s st now pp.v)
  have HFv := hide (fun W => visFlow_any (some ⟨g, 0, none⟩) (some ⟨h, 0, none⟩) o3 mc.length c1 mt.length c2 n3 c3 bg fg gl cg k i l d a p f s st now W)
  have HH := hide (fun pp : Grown W0 => hasI_any g 0 c1 mc a p pp.v hc0 (by omega) hfl (Nat.lt_of_lt_of_le (Nat.lt_of_lt_of_le zg HB.out.size) pp.b.size) (Row.kept (Row.kept HC.out HB.out zg) pp.b (Nat.lt_of_lt_of_le zg HB.out.size)))
  have HAn := hide (fun W => hasAnyI_any f 12 W)
  have G0 := Grown.cell z0 zz
  have G1 := Grown.cell z1 zz
  have G2 := Grown.cell z2 zz
  have G3 := Grown.cell z3 zz
  have G4 := Grown.cell z4 zz
  have G5 := Grown.cell z5 zz
  have G6 := Grown.cell z6 zz
  have G7 := Grown.cell z7 zz
  have G8 := Grown.cell z8 zz
  have G9 := Grown.cell z9 zz
  have G10 := Grown.cell z10 zz
  have G11 := Grown.cell z11 zz
  have G12 := Grown.cell z12 zz
  have G13 := Grown.cell z13 zz
  rw [e1] at HH
  have H1 : Hid (tkC mc now a p f s = mc) := by unfold Hid tkC; rw [e1]; rfl
  have H2 : Hid (tkT mc mt now a p f = mt) := by unfold Hid tkT; rw [e1]; rfl
  rw [e1, H1.out, H2.out]
  clear e1
  go_enter Tryz.func59, Tryz.ntmps59
  go_wp2
  (refine wp_region_grown (by kernel_rfl) (by kernel_rfl) ?_; intro hne9; (repeat (go_big_quiet_step (first | (go_at_call 90; exact grown_of _ (HF.out _)) | (go_at_call 89; exact grown_of _ (HH.out _))))); (with_reducible refine wpQuiet_nil ?_); intro _ hw9; obtain ⟨pq, hw8⟩ := hw9; subst hw8)
  obtain ⟨u1, hu1⟩ : ∃ W, pq.v = W := ⟨_, rfl⟩
  have hb := pq.b
  rw [hu1] at hb ⊢
  clear G0 G1 G2 G3 G4 G5 G6 G7 G8 G9 G10 G11 G12 G13 HF HH
  replace z0 := bC hb z0 zz
  replace z1 := bC hb z1 zz
  replace z2 := bC hb z2 zz
  replace z3 := bC hb z3 zz
  replace z4 := bC hb z4 zz
  replace z5 := bC hb z5 zz
  replace z6 := bC hb z6 zz
  replace z7 := bC hb z7 zz
  replace z8 := bC hb z8 zz
  replace z9 := bC hb z9 zz
  replace z10 := bC hb z10 zz
  replace z11 := bC hb z11 zz
  replace z12 := bC hb z12 zz
  replace z13 := bC hb z13 zz
  replace zz := Nat.lt_of_lt_of_le zz hb.size
  replace HB := hide (HB.out.trans (hb.mono HB.out.size))
  clear hb
  clear hu1 pq
  go_wp2
  go_ret
  exact ⟨rfl, own_kept HO.out HB.out, own_kept HP.out HB.out, Stp.of HB.out⟩

set_option maxRecDepth 20000 in
set_option maxHeartbeats 16000000 in
theorem takeI_keep (g h c1 c2 : Nat) (mc mt : List Sl) (o3 : Option Addr) (n3 c3 bg fg gl cg k : Nat) (i l : Int) (d : Bool) (a p f s st now : Int) (lo mid hi : Nat) (w : World) (hfl : flowOkB a p = true) (hc0 : 0 < mc.length) (hc16 : mc.length ≤ 16) (ht0 : 0 < mt.length) (ht16 : mt.length ≤ 16) (hn0 : 0 ≤ now) (hn1 : now ≤ 100000) (hok : flowsOk mc) (hgm : g < mid) (hmh : mid ≤ h) (hhi : h < hi) (ho : w.ownsRow lo CellT 5 (.slice (some ⟨g, 0, none⟩) mc.length c1) mc.length (mc.flatMap layS.cs)) (hp : w.ownsRow mid CellT 5 (.slice (some ⟨h, 0, none⟩) mt.length c2) mt.length (mt.flatMap layS.cs)) (e1 : (endL mc a p).2 = true) (e2 : bits .and .i64 f 12 = 0) :
    Calls Tryz.prog 59 #[visV (.slice (some ⟨g, 0, none⟩) mc.length c1) (.slice (some ⟨h, 0, none⟩) mt.length c2) i l d a p f s (.slice o3 n3 c3) (.slice (some ⟨bg, fg, none⟩) gl cg) (k : Int) st now] w fun e w' => e = .returned (.int .i64 (if (endL mc a p).2 = true then 0 else -1)) ∧ w'.ownsRow lo CellT 5 (.slice (some ⟨g, 0, none⟩) mc.length c1) mc.length ((tkC mc now a p f s).flatMap layS.cs) ∧ w'.ownsRow mid CellT 5 (.slice (some ⟨h, 0, none⟩) mt.length c2) mt.length ((tkT mc mt now a p f).flatMap layS.cs) ∧ Stp lo hi w w' := by
  have hlg := (ho.lt g rfl).1
  have zg := (ho.lt g rfl).2
  have zh := (hp.lt h rfl).2
  have HC : Hid (Row w g 0 mc) := rd_of_own ho rfl
  have HO := hide ho
  have HP := hide hp
  clear ho hp
  obtain ⟨W0, hW0⟩ : ∃ W, (w.alloc (.cells #[.slice (some ⟨g, 0, none⟩) mc.length c1, .slice (some ⟨h, 0, none⟩) mt.length c2, .int .i64 i, .int .i64 l, .bool d, .int .i64 a, .int .i64 p, .int .i64 f, .int .i64 s, .slice o3 n3 c3, .slice (some ⟨bg, fg, none⟩) gl cg, .int .i64 (k : Int), .int .i64 st, .int .i64 now] 78)) = W := ⟨_, rfl⟩
  have hb_W0 : Below w.heap.size w W0 := by rw [← hW0]; exact ((Below.refl _ _).alloc (Nat.le_refl _) _)
  have HB := hide hb_W0
  clear hb_W0
  have zz : w.heap.size < W0.heap.size := by rw [← hW0]; simp
  have z0 : W0.cell? ⟨w.heap.size, 0, none⟩ = some (.slice (some ⟨g, 0, none⟩) mc.length c1) := by rw [← hW0]; simp [go_sem]
  have z1 : W0.cell? ⟨w.heap.size, 1, none⟩ = some (.slice (some ⟨h, 0, none⟩) mt.length c2) := by rw [← hW0]; simp [go_sem]
  have z2 : W0.cell? ⟨w.heap.size, 2, none⟩ = some (.int .i64 i) := by rw [← hW0]; simp [go_sem]
  have z3 : W0.cell? ⟨w.heap.size, 3, none⟩ = some (.int .i64 l) := by rw [← hW0]; simp [go_sem]
  have z4 : W0.cell? ⟨w.heap.size, 4, none⟩ = some (.bool d) := by rw [← hW0]; simp [go_sem]
  have z5 : W0.cell? ⟨w.heap.size, 5, none⟩ = some (.int .i64 a) := by rw [← hW0]; simp [go_sem]
  have z6 : W0.cell? ⟨w.heap.size, 6, none⟩ = some (.int .i64 p) := by rw [← hW0]; simp [go_sem]
  have z7 : W0.cell? ⟨w.heap.size, 7, none⟩ = some (.int .i64 f) := by rw [← hW0]; simp [go_sem]
  have z8 : W0.cell? ⟨w.heap.size, 8, none⟩ = some (.int .i64 s) := by rw [← hW0]; simp [go_sem]
  have z9 : W0.cell? ⟨w.heap.size, 9, none⟩ = some (.slice o3 n3 c3) := by rw [← hW0]; simp [go_sem]
  have z10 : W0.cell? ⟨w.heap.size, 10, none⟩ = some (.slice (some ⟨bg, fg, none⟩) gl cg) := by rw [← hW0]; simp [go_sem]
  have z11 : W0.cell? ⟨w.heap.size, 11, none⟩ = some (.int .i64 (k : Int)) := by rw [← hW0]; simp [go_sem]
  have z12 : W0.cell? ⟨w.heap.size, 12, none⟩ = some (.int .i64 st) := by rw [← hW0]; simp [go_sem]
  have z13 : W0.cell? ⟨w.heap.size, 13, none⟩ = some (.int .i64 now) := by rw [← hW0]; simp [go_sem]
  have HF := hide (fun pp : Grown W0 => visFlow_any (some ⟨g, 0, none⟩) (some ⟨h, 0, none⟩) o3 mc.length c1 mt.length c2 n3 c3 bg fg gl cg k i l d a p f s st now pp.v)
  have HFv := hide (fun W => visFlow_any (some ⟨g, 0, none⟩) (some ⟨h, 0, none⟩) o3 mc.length c1 mt.length c2 n3 c3 bg fg gl cg k i l d a p f s st now W)
  have HH := hide (fun pp : Grown W0 => hasI_any g 0 c1 mc a p pp.v hc0 (by omega) hfl (Nat.lt_of_lt_of_le (Nat.lt_of_lt_of_le zg HB.out.size) pp.b.size) (Row.kept (Row.kept HC.out HB.out zg) pp.b (Nat.lt_of_lt_of_le zg HB.out.size)))
  have HAn := hide (fun W => hasAnyI_any f 12 W)
  have G0 := Grown.cell z0 zz
  have G1 := Grown.cell z1 zz
  have G2 := Grown.cell z2 zz
  have G3 := Grown.cell z3 zz
  have G4 := Grown.cell z4 zz
  have G5 := Grown.cell z5 zz
  have G6 := Grown.cell z6 zz
  have G7 := Grown.cell z7 zz
  have G8 := Grown.cell z8 zz
  have G9 := Grown.cell z9 zz
  have G10 := Grown.cell z10 zz
  have G11 := Grown.cell z11 zz
  have G12 := Grown.cell z12 zz
  have G13 := Grown.cell z13 zz
  rw [e1] at HH
  have H1 : Hid (tkC mc now a p f s = putL mc a p s (now + 50)) := by unfold Hid tkC; rw [if_pos e1, if_pos e2]
  have H2 : Hid (tkT mc mt now a p f = mt) := by unfold Hid tkT; rw [if_pos e1, if_pos e2]
  rw [if_pos e1, H1.out, H2.out]
  have e3 : (bits .and .i64 f 12 != 0) = false := by rw [e2]; rfl
  rw [e3] at HAn
  clear e1 e2 e3
  go_enter Tryz.func59, Tryz.ntmps59
  go_wp2
  (refine wp_region_grown (by kernel_rfl) (by kernel_rfl) ?_; intro hne9; (repeat (go_big_quiet_step (first | (go_at_call 90; exact grown_of _ (HF.out _)) | (go_at_call 89; exact grown_of _ (HH.out _))))); (with_reducible refine wpQuiet_nil ?_); intro _ hw9; obtain ⟨pq, hw8⟩ := hw9; subst hw8)
  obtain ⟨u1, hu1⟩ : ∃ W, pq.v = W := ⟨_, rfl⟩
  have hb := pq.b
  rw [hu1] at hb ⊢
  clear G0 G1 G2 G3 G4 G5 G6 G7 G8 G9 G10 G11 G12 G13 HF HH
  replace z0 := bC hb z0 zz
  replace z1 := bC hb z1 zz
  replace z2 := bC hb z2 zz
  replace z3 := bC hb z3 zz
  replace z4 := bC hb z4 zz
  replace z5 := bC hb z5 zz
  replace z6 := bC hb z6 zz
  replace z7 := bC hb z7 zz
  replace z8 := bC hb z8 zz
  replace z9 := bC hb z9 zz
  replace z10 := bC hb z10 zz
  replace z11 := bC hb z11 zz
  replace z12 := bC hb z12 zz
  replace z13 := bC hb z13 zz
  replace zz := Nat.lt_of_lt_of_le zz hb.size
  replace HB := hide (HB.out.trans (hb.mono HB.out.size))
  clear hb
  clear hu1 pq
  go_wp2_with fail
  refine (HAn.out u1).mono ?_
  rintro e w9 ⟨rfl, rfl⟩
  go_wp2_with fail
  refine (keepI_any g c1 lo mc a p f s now o3 n3 c3 u1 hc0 (by omega) hfl hn0 hn1 (own_kept HO.out HB.out)).mono ?_
  rintro e v1 ⟨⟨v, rfl⟩, ho1, st1⟩
  have HO1 := hide ho1
  have HP1 : Hid (v1.ownsRow mid CellT 5 (.slice (some ⟨h, 0, none⟩) mt.length c2) mt.length (mt.flatMap layS.cs)) := (InRow.step (a := mid) (b := hi) ⟨own_kept HP.out HB.out, fun b e => by simp [Value.ownBlock] at e; omega⟩ st1 (.inl (by omega))).1
  have HS1 : Hid (Stp lo hi w v1) := (Stp.of HB.out).trans (st1.wide' (by omega) (by omega))
  clear ho1 st1
  go_wp2
  go_ret
  exact ⟨rfl, HO1.out, HP1.out, HS1.out⟩

set_option maxRecDepth 20000 in
set_option maxHeartbeats 16000000 in
theorem takeI_end (g h c1 c2 : Nat) (mc mt : List Sl) (o3 : Option Addr) (n3 c3 bg fg gl cg k : Nat) (i l : Int) (d : Bool) (a p f s st now : Int) (lo mid hi : Nat) (w : World) (hfl : flowOkB a p = true) (hc0 : 0 < mc.length) (hc16 : mc.length ≤ 16) (ht0 : 0 < mt.length) (ht16 : mt.length ≤ 16) (hn0 : 0 ≤ now) (hn1 : now ≤ 100000) (hok : flowsOk mc) (hgm : g < mid) (hmh : mid ≤ h) (hhi : h < hi) (ho : w.ownsRow lo CellT 5 (.slice (some ⟨g, 0, none⟩) mc.length c1) mc.length (mc.flatMap layS.cs)) (hp : w.ownsRow mid CellT 5 (.slice (some ⟨h, 0, none⟩) mt.length c2) mt.length (mt.flatMap layS.cs)) (e1 : (endL mc a p).2 = true) (e2 : ¬ (bits .and .i64 f 12 = 0)) :
    Calls Tryz.prog 59 #[visV (.slice (some ⟨g, 0, none⟩) mc.length c1) (.slice (some ⟨h, 0, none⟩) mt.length c2) i l d a p f s (.slice o3 n3 c3) (.slice (some ⟨bg, fg, none⟩) gl cg) (k : Int) st now] w fun e w' => e = .returned (.int .i64 (if (endL mc a p).2 = true then 0 else -1)) ∧ w'.ownsRow lo CellT 5 (.slice (some ⟨g, 0, none⟩) mc.length c1) mc.length ((tkC mc now a p f s).flatMap layS.cs) ∧ w'.ownsRow mid CellT 5 (.slice (some ⟨h, 0, none⟩) mt.length c2) mt.length ((tkT mc mt now a p f).flatMap layS.cs) ∧ Stp lo hi w w' := by
  have hlg := (ho.lt g rfl).1
  have zg := (ho.lt g rfl).2
  have zh := (hp.lt h rfl).2
  have HC : Hid (Row w g 0 mc) := rd_of_own ho rfl
  have HO := hide ho
  have HP := hide hp
  clear ho hp
  obtain ⟨W0, hW0⟩ : ∃ W, (w.alloc (.cells #[.slice (some ⟨g, 0, none⟩) mc.length c1, .slice (some ⟨h, 0, none⟩) mt.length c2, .int .i64 i, .int .i64 l, .bool d, .int .i64 a, .int .i64 p, .int .i64 f, .int .i64 s, .slice o3 n3 c3, .slice (some ⟨bg, fg, none⟩) gl cg, .int .i64 (k : Int), .int .i64 st, .int .i64 now] 78)) = W := ⟨_, rfl⟩
  have hb_W0 : Below w.heap.size w W0 := by rw [← hW0]; exact ((Below.refl _ _).alloc (Nat.le_refl _) _)
  have HB := hide hb_W0
  clear hb_W0
  have zz : w.heap.size < W0.heap.size := by rw [← hW0]; simp
  have z0 : W0.cell? ⟨w.heap.size, 0, none⟩ = some (.slice (some ⟨g, 0, none⟩) mc.length c1) := by rw [← hW0]; simp [go_sem]
  have z1 : W0.cell? ⟨w.heap.size, 1, none⟩ = some (.slice (some ⟨h, 0, none⟩) mt.length c2) := by rw [← hW0]; simp [go_sem]
  have z2 : W0.cell? ⟨w.heap.size, 2, none⟩ = some (.int .i64 i) := by rw [← hW0]; simp [go_sem]
  have z3 : W0.cell? ⟨w.heap.size, 3, none⟩ = some (.int .i64 l) := by rw [← hW0]; simp [go_sem]
  have z4 : W0.cell? ⟨w.heap.size, 4, none⟩ = some (.bool d) := by rw [← hW0]; simp [go_sem]
  have z5 : W0.cell? ⟨w.heap.size, 5, none⟩ = some (.int .i64 a) := by rw [← hW0]; simp [go_sem]
  have z6 : W0.cell? ⟨w.heap.size, 6, none⟩ = some (.int .i64 p) := by rw [← hW0]; simp [go_sem]
  have z7 : W0.cell? ⟨w.heap.size, 7, none⟩ = some (.int .i64 f) := by rw [← hW0]; simp [go_sem]
  have z8 : W0.cell? ⟨w.heap.size, 8, none⟩ = some (.int .i64 s) := by rw [← hW0]; simp [go_sem]
  have z9 : W0.cell? ⟨w.heap.size, 9, none⟩ = some (.slice o3 n3 c3) := by rw [← hW0]; simp [go_sem]
  have z10 : W0.cell? ⟨w.heap.size, 10, none⟩ = some (.slice (some ⟨bg, fg, none⟩) gl cg) := by rw [← hW0]; simp [go_sem]
  have z11 : W0.cell? ⟨w.heap.size, 11, none⟩ = some (.int .i64 (k : Int)) := by rw [← hW0]; simp [go_sem]
  have z12 : W0.cell? ⟨w.heap.size, 12, none⟩ = some (.int .i64 st) := by rw [← hW0]; simp [go_sem]
  have z13 : W0.cell? ⟨w.heap.size, 13, none⟩ = some (.int .i64 now) := by rw [← hW0]; simp [go_sem]
  have HF := hide (fun pp : Grown W0 => visFlow_any (some ⟨g, 0, none⟩) (some ⟨h, 0, none⟩) o3 mc.length c1 mt.length c2 n3 c3 bg fg gl cg k i l d a p f s st now pp.v)
  have HFv := hide (fun W => visFlow_any (some ⟨g, 0, none⟩) (some ⟨h, 0, none⟩) o3 mc.length c1 mt.length c2 n3 c3 bg fg gl cg k i l d a p f s st now W)
  have HH := hide (fun pp : Grown W0 => hasI_any g 0 c1 mc a p pp.v hc0 (by omega) hfl (Nat.lt_of_lt_of_le (Nat.lt_of_lt_of_le zg HB.out.size) pp.b.size) (Row.kept (Row.kept HC.out HB.out zg) pp.b (Nat.lt_of_lt_of_le zg HB.out.size)))
  have HAn := hide (fun W => hasAnyI_any f 12 W)
  have G0 := Grown.cell z0 zz
  have G1 := Grown.cell z1 zz
  have G2 := Grown.cell z2 zz
  have G3 := Grown.cell z3 zz
  have G4 := Grown.cell z4 zz
  have G5 := Grown.cell z5 zz
  have G6 := Grown.cell z6 zz
  have G7 := Grown.cell z7 zz
  have G8 := Grown.cell z8 zz
  have G9 := Grown.cell z9 zz
  have G10 := Grown.cell z10 zz
  have G11 := Grown.cell z11 zz
  have G12 := Grown.cell z12 zz
  have G13 := Grown.cell z13 zz
  rw [e1] at HH
  have H1 : Hid (tkC mc now a p f s = dropL mc a p) := by unfold Hid tkC; rw [if_pos e1, if_neg e2]
  have H2 : Hid (tkT mc mt now a p f = putL mt a p 0 (now + 21)) := by unfold Hid tkT; rw [if_pos e1, if_neg e2]
  rw [if_pos e1, H1.out, H2.out]
  have e3 : (bits .and .i64 f 12 != 0) = true := by simpa using e2
  rw [e3] at HAn
  have HDr := hide (fun W ho => drop_any g c1 lo mc a p W hc0 hc16 hfl hok ho)
  rw [e1] at HDr
  have HSh := hide (fun W ho => shunI_any h c2 mid mt a p now W ht0 (by omega) hfl hn0 hn1 ho)
  obtain ⟨tb, htb⟩ : ∃ q, decide (0 ≤ (endL mt a p).1) = q := ⟨_, rfl⟩
  rw [htb] at HSh
  clear e1 e2 e3 htb
  go_enter Tryz.func59, Tryz.ntmps59
  go_wp2
  (refine wp_region_grown (by kernel_rfl) (by kernel_rfl) ?_; intro hne9; (repeat (go_big_quiet_step (first | (go_at_call 90; exact grown_of _ (HF.out _)) | (go_at_call 89; exact grown_of _ (HH.out _))))); (with_reducible refine wpQuiet_nil ?_); intro _ hw9; obtain ⟨pq, hw8⟩ := hw9; subst hw8)
  obtain ⟨u1, hu1⟩ : ∃ W, pq.v = W := ⟨_, rfl⟩
  have hb := pq.b
  rw [hu1] at hb ⊢
  clear G0 G1 G2 G3 G4 G5 G6 G7 G8 G9 G10 G11 G12 G13 HF HH
  replace z0 := bC hb z0 zz
  replace z1 := bC hb z1 zz
  replace z2 := bC hb z2 zz
  replace z3 := bC hb z3 zz
  replace z4 := bC hb z4 zz
  replace z5 := bC hb z5 zz
  replace z6 := bC hb z6 zz
  replace z7 := bC hb z7 zz
  replace z8 := bC hb z8 zz
  replace z9 := bC hb z9 zz
  replace z10 := bC hb z10 zz
  replace z11 := bC hb z11 zz
  replace z12 := bC hb z12 zz
  replace z13 := bC hb z13 zz
  replace zz := Nat.lt_of_lt_of_le zz hb.size
  replace HB := hide (HB.out.trans (hb.mono HB.out.size))
  clear hb
  clear hu1 pq
  go_wp2_with fail
  refine (HAn.out u1).mono ?_
  rintro e w9 ⟨rfl, rfl⟩
  have hzz := zz
  go_wp2
  go_region_held3 (fun w' => w'.cell? ⟨w.heap.size, 0, none⟩ = some (.slice (some ⟨g, 0, none⟩) mc.length c1) ∧ w'.cell? ⟨w.heap.size, 1, none⟩ = some (.slice (some ⟨h, 0, none⟩) mt.length c2) ∧ w'.cell? ⟨w.heap.size, 2, none⟩ = some (.int .i64 i) ∧ w'.cell? ⟨w.heap.size, 3, none⟩ = some (.int .i64 l) ∧ w'.cell? ⟨w.heap.size, 4, none⟩ = some (.bool d) ∧ w'.cell? ⟨w.heap.size, 5, none⟩ = some (.int .i64 a) ∧ w'.cell? ⟨w.heap.size, 6, none⟩ = some (.int .i64 p) ∧ w'.cell? ⟨w.heap.size, 7, none⟩ = some (.int .i64 f) ∧ w'.cell? ⟨w.heap.size, 8, none⟩ = some (.int .i64 s) ∧ w'.cell? ⟨w.heap.size, 9, none⟩ = some (.slice o3 n3 c3) ∧ w'.cell? ⟨w.heap.size, 10, none⟩ = some (.slice (some ⟨bg, fg, none⟩) gl cg) ∧ w'.cell? ⟨w.heap.size, 11, none⟩ = some (.int .i64 (k : Int)) ∧ w'.cell? ⟨w.heap.size, 12, none⟩ = some (.int .i64 st) ∧ w'.cell? ⟨w.heap.size, 13, none⟩ = some (.int .i64 now)) (first | with_reducible exact ⟨qz0, qz1, qz2, qz3, qz4, qz5, qz6, qz7, qz8, qz9, qz10, qz11, qz12, qz13⟩ | with_reducible exact ⟨pz0, pz1, pz2, pz3, pz4, pz5, pz6, pz7, pz8, pz9, pz10, pz11, pz12, pz13⟩ | exact ⟨z0, z1, z2, z3, z4, z5, z6, z7, z8, z9, z10, z11, z12, z13⟩ | go_keep) (first | (go_at_call 90; (with_reducible refine (HFv.out u1.drew).mono ?_); rintro e x0 ⟨rfl, hb⟩; have hx0 : Below u1.heap.size u1 x0 := (Below.drew (Below.refl _ _)).trans hb; have sx0 := hx0.size; clear hb; have pz0 := (hx0.cell (p := ⟨w.heap.size, 0, none⟩) zz).trans z0; have pz1 := (hx0.cell (p := ⟨w.heap.size, 1, none⟩) zz).trans z1; have pz2 := (hx0.cell (p := ⟨w.heap.size, 2, none⟩) zz).trans z2; have pz3 := (hx0.cell (p := ⟨w.heap.size, 3, none⟩) zz).trans z3; have pz4 := (hx0.cell (p := ⟨w.heap.size, 4, none⟩) zz).trans z4; have pz5 := (hx0.cell (p := ⟨w.heap.size, 5, none⟩) zz).trans z5; have pz6 := (hx0.cell (p := ⟨w.heap.size, 6, none⟩) zz).trans z6; have pz7 := (hx0.cell (p := ⟨w.heap.size, 7, none⟩) zz).trans z7; have pz8 := (hx0.cell (p := ⟨w.heap.size, 8, none⟩) zz).trans z8; have pz9 := (hx0.cell (p := ⟨w.heap.size, 9, none⟩) zz).trans z9; have pz10 := (hx0.cell (p := ⟨w.heap.size, 10, none⟩) zz).trans z10; have pz11 := (hx0.cell (p := ⟨w.heap.size, 11, none⟩) zz).trans z11; have pz12 := (hx0.cell (p := ⟨w.heap.size, 12, none⟩) zz).trans z12; have pz13 := (hx0.cell (p := ⟨w.heap.size, 13, none⟩) zz).trans z13) | (go_at_call 92; (with_reducible refine (HDr.out x0 (own_kept (own_kept HO.out HB.out) hx0)).mono ?_); rintro e x1 ⟨rfl, ho1, st1⟩; have HO1 := hide ho1; have HSA : Hid (Stp lo hi w x1) := ((Stp.of HB.out).trans (Stp.of hx0)).trans (st1.wide' (by omega) (by omega)); have HP1 : Hid (x1.ownsRow mid CellT 5 (.slice (some ⟨h, 0, none⟩) mt.length c2) mt.length (mt.flatMap layS.cs)) := (InRow.step (a := mid) (b := hi) ⟨own_kept (own_kept HP.out HB.out) hx0, fun b e => (by simp [Value.ownBlock] at e; omega)⟩ st1 (.inl (by omega))).1; have sx1 := st1.size; have qz0 : x1.cell? ⟨w.heap.size, 0, none⟩ = some (.slice (some ⟨g, 0, none⟩) mc.length c1) := st1.cell pz0 (by omega) (.inr (by omega)); have qz1 : x1.cell? ⟨w.heap.size, 1, none⟩ = some (.slice (some ⟨h, 0, none⟩) mt.length c2) := st1.cell pz1 (by omega) (.inr (by omega)); have qz2 : x1.cell? ⟨w.heap.size, 2, none⟩ = some (.int .i64 i) := st1.cell pz2 (by omega) (.inr (by omega)); have qz3 : x1.cell? ⟨w.heap.size, 3, none⟩ = some (.int .i64 l) := st1.cell pz3 (by omega) (.inr (by omega)); have qz4 : x1.cell? ⟨w.heap.size, 4, none⟩ = some (.bool d) := st1.cell pz4 (by omega) (.inr (by omega)); have qz5 : x1.cell? ⟨w.heap.size, 5, none⟩ = some (.int .i64 a) := st1.cell pz5 (by omega) (.inr (by omega)); have qz6 : x1.cell? ⟨w.heap.size, 6, none⟩ = some (.int .i64 p) := st1.cell pz6 (by omega) (.inr (by omega)); have qz7 : x1.cell? ⟨w.heap.size, 7, none⟩ = some (.int .i64 f) := st1.cell pz7 (by omega) (.inr (by omega)); have qz8 : x1.cell? ⟨w.heap.size, 8, none⟩ = some (.int .i64 s) := st1.cell pz8 (by omega) (.inr (by omega)); have qz9 : x1.cell? ⟨w.heap.size, 9, none⟩ = some (.slice o3 n3 c3) := st1.cell pz9 (by omega) (.inr (by omega)); have qz10 : x1.cell? ⟨w.heap.size, 10, none⟩ = some (.slice (some ⟨bg, fg, none⟩) gl cg) := st1.cell pz10 (by omega) (.inr (by omega)); have qz11 : x1.cell? ⟨w.heap.size, 11, none⟩ = some (.int .i64 (k : Int)) := st1.cell pz11 (by omega) (.inr (by omega)); have qz12 : x1.cell? ⟨w.heap.size, 12, none⟩ = some (.int .i64 st) := st1.cell pz12 (by omega) (.inr (by omega)); have qz13 : x1.cell? ⟨w.heap.size, 13, none⟩ = some (.int .i64 now) := st1.cell pz13 (by omega) (.inr (by omega)); clear ho1 st1) | fail)
  have zx1 : w.heap.size < x1.heap.size := by omega
  clear pz0 z0 pz1 z1 pz2 z2 pz3 z3 pz4 z4 pz5 z5 pz6 z6 pz7 z7 pz8 z8 pz9 z9 pz10 z10 pz11 z11 pz12 z12 pz13 z13
  go_wp2
  go_region_held3 (fun w' => w'.cell? ⟨w.heap.size, 0, none⟩ = some (.slice (some ⟨g, 0, none⟩) mc.length c1) ∧ w'.cell? ⟨w.heap.size, 1, none⟩ = some (.slice (some ⟨h, 0, none⟩) mt.length c2) ∧ w'.cell? ⟨w.heap.size, 2, none⟩ = some (.int .i64 i) ∧ w'.cell? ⟨w.heap.size, 3, none⟩ = some (.int .i64 l) ∧ w'.cell? ⟨w.heap.size, 4, none⟩ = some (.bool d) ∧ w'.cell? ⟨w.heap.size, 5, none⟩ = some (.int .i64 a) ∧ w'.cell? ⟨w.heap.size, 6, none⟩ = some (.int .i64 p) ∧ w'.cell? ⟨w.heap.size, 7, none⟩ = some (.int .i64 f) ∧ w'.cell? ⟨w.heap.size, 8, none⟩ = some (.int .i64 s) ∧ w'.cell? ⟨w.heap.size, 9, none⟩ = some (.slice o3 n3 c3) ∧ w'.cell? ⟨w.heap.size, 10, none⟩ = some (.slice (some ⟨bg, fg, none⟩) gl cg) ∧ w'.cell? ⟨w.heap.size, 11, none⟩ = some (.int .i64 (k : Int)) ∧ w'.cell? ⟨w.heap.size, 12, none⟩ = some (.int .i64 st) ∧ w'.cell? ⟨w.heap.size, 13, none⟩ = some (.int .i64 now)) (first | with_reducible exact ⟨sz0, sz1, sz2, sz3, sz4, sz5, sz6, sz7, sz8, sz9, sz10, sz11, sz12, sz13⟩ | with_reducible exact ⟨rz0, rz1, rz2, rz3, rz4, rz5, rz6, rz7, rz8, rz9, rz10, rz11, rz12, rz13⟩ | exact ⟨qz0, qz1, qz2, qz3, qz4, qz5, qz6, qz7, qz8, qz9, qz10, qz11, qz12, qz13⟩ | go_keep) (first | (go_at_call 90; (with_reducible refine (HFv.out x1.drew).mono ?_); rintro e y0 ⟨rfl, hb⟩; have hy0 : Below x1.heap.size x1 y0 := (Below.drew (Below.refl _ _)).trans hb; have sy0 := hy0.size; clear hb; have rz0 := (hy0.cell (p := ⟨w.heap.size, 0, none⟩) zx1).trans qz0; have rz1 := (hy0.cell (p := ⟨w.heap.size, 1, none⟩) zx1).trans qz1; have rz2 := (hy0.cell (p := ⟨w.heap.size, 2, none⟩) zx1).trans qz2; have rz3 := (hy0.cell (p := ⟨w.heap.size, 3, none⟩) zx1).trans qz3; have rz4 := (hy0.cell (p := ⟨w.heap.size, 4, none⟩) zx1).trans qz4; have rz5 := (hy0.cell (p := ⟨w.heap.size, 5, none⟩) zx1).trans qz5; have rz6 := (hy0.cell (p := ⟨w.heap.size, 6, none⟩) zx1).trans qz6; have rz7 := (hy0.cell (p := ⟨w.heap.size, 7, none⟩) zx1).trans qz7; have rz8 := (hy0.cell (p := ⟨w.heap.size, 8, none⟩) zx1).trans qz8; have rz9 := (hy0.cell (p := ⟨w.heap.size, 9, none⟩) zx1).trans qz9; have rz10 := (hy0.cell (p := ⟨w.heap.size, 10, none⟩) zx1).trans qz10; have rz11 := (hy0.cell (p := ⟨w.heap.size, 11, none⟩) zx1).trans qz11; have rz12 := (hy0.cell (p := ⟨w.heap.size, 12, none⟩) zx1).trans qz12; have rz13 := (hy0.cell (p := ⟨w.heap.size, 13, none⟩) zx1).trans qz13) | (go_at_call 93; (with_reducible refine (HSh.out y0 (own_kept HP1.out hy0)).mono ?_); rintro e y1 ⟨rfl, hp1, st2⟩; have HP2 := hide hp1; have HSB : Hid (Stp lo hi w y1) := (HSA.out.trans (Stp.of hy0)).trans (st2.wide' (by omega) (by omega)); have HO2 : Hid (y1.ownsRow lo CellT 5 (.slice (some ⟨g, 0, none⟩) mc.length c1) mc.length ((dropL mc a p).flatMap layS.cs)) := (InRow.step (a := lo) (b := mid) ⟨own_kept HO1.out hy0, fun b e => (by simp [Value.ownBlock] at e; omega)⟩ st2 (.inr (by omega))).1; have sz0 : y1.cell? ⟨w.heap.size, 0, none⟩ = some (.slice (some ⟨g, 0, none⟩) mc.length c1) := st2.cell rz0 (by omega) (.inr (by omega)); have sz1 : y1.cell? ⟨w.heap.size, 1, none⟩ = some (.slice (some ⟨h, 0, none⟩) mt.length c2) := st2.cell rz1 (by omega) (.inr (by omega)); have sz2 : y1.cell? ⟨w.heap.size, 2, none⟩ = some (.int .i64 i) := st2.cell rz2 (by omega) (.inr (by omega)); have sz3 : y1.cell? ⟨w.heap.size, 3, none⟩ = some (.int .i64 l) := st2.cell rz3 (by omega) (.inr (by omega)); have sz4 : y1.cell? ⟨w.heap.size, 4, none⟩ = some (.bool d) := st2.cell rz4 (by omega) (.inr (by omega)); have sz5 : y1.cell? ⟨w.heap.size, 5, none⟩ = some (.int .i64 a) := st2.cell rz5 (by omega) (.inr (by omega)); have sz6 : y1.cell? ⟨w.heap.size, 6, none⟩ = some (.int .i64 p) := st2.cell rz6 (by omega) (.inr (by omega)); have sz7 : y1.cell? ⟨w.heap.size, 7, none⟩ = some (.int .i64 f) := st2.cell rz7 (by omega) (.inr (by omega)); have sz8 : y1.cell? ⟨w.heap.size, 8, none⟩ = some (.int .i64 s) := st2.cell rz8 (by omega) (.inr (by omega)); have sz9 : y1.cell? ⟨w.heap.size, 9, none⟩ = some (.slice o3 n3 c3) := st2.cell rz9 (by omega) (.inr (by omega)); have sz10 : y1.cell? ⟨w.heap.size, 10, none⟩ = some (.slice (some ⟨bg, fg, none⟩) gl cg) := st2.cell rz10 (by omega) (.inr (by omega)); have sz11 : y1.cell? ⟨w.heap.size, 11, none⟩ = some (.int .i64 (k : Int)) := st2.cell rz11 (by omega) (.inr (by omega)); have sz12 : y1.cell? ⟨w.heap.size, 12, none⟩ = some (.int .i64 st) := st2.cell rz12 (by omega) (.inr (by omega)); have sz13 : y1.cell? ⟨w.heap.size, 13, none⟩ = some (.int .i64 now) := st2.cell rz13 (by omega) (.inr (by omega)); clear hp1 st2) | fail)
  go_wp2
  go_ret
  exact ⟨rfl, HO2.out, HP2.out, HSB.out⟩

set_option maxRecDepth 20000 in
set_option maxHeartbeats 16000000 in
theorem takeI_any (g h c1 c2 : Nat) (mc mt : List Sl) (o3 : Option Addr) (n3 c3 bg fg gl cg k : Nat) (i l : Int) (d : Bool) (a p f s st now : Int) (lo mid hi : Nat) (w : World) (hfl : flowOkB a p = true) (hc0 : 0 < mc.length) (hc16 : mc.length ≤ 16) (ht0 : 0 < mt.length) (ht16 : mt.length ≤ 16) (hn0 : 0 ≤ now) (hn1 : now ≤ 100000) (hok : flowsOk mc) (hgm : g < mid) (hmh : mid ≤ h) (hhi : h < hi) (ho : w.ownsRow lo CellT 5 (.slice (some ⟨g, 0, none⟩) mc.length c1) mc.length (mc.flatMap layS.cs)) (hp : w.ownsRow mid CellT 5 (.slice (some ⟨h, 0, none⟩) mt.length c2) mt.length (mt.flatMap layS.cs))  :
    Calls Tryz.prog 59 #[visV (.slice (some ⟨g, 0, none⟩) mc.length c1) (.slice (some ⟨h, 0, none⟩) mt.length c2) i l d a p f s (.slice o3 n3 c3) (.slice (some ⟨bg, fg, none⟩) gl cg) (k : Int) st now] w fun e w' => e = .returned (.int .i64 (if (endL mc a p).2 = true then 0 else -1)) ∧ w'.ownsRow lo CellT 5 (.slice (some ⟨g, 0, none⟩) mc.length c1) mc.length ((tkC mc now a p f s).flatMap layS.cs) ∧ w'.ownsRow mid CellT 5 (.slice (some ⟨h, 0, none⟩) mt.length c2) mt.length ((tkT mc mt now a p f).flatMap layS.cs) ∧ Stp lo hi w w' := by
  cases e1 : (endL mc a p).2 with
  | false =>
    have h := takeI_no g h c1 c2 mc mt o3 n3 c3 bg fg gl cg k i l d a p f s st now lo mid hi w hfl hc0 hc16 ht0 ht16 hn0 hn1 hok hgm hmh hhi ho hp e1
    rw [e1] at h
    exact h
  | true =>
    by_cases e2 : bits .and .i64 f 12 = 0
    · have h := takeI_keep g h c1 c2 mc mt o3 n3 c3 bg fg gl cg k i l d a p f s st now lo mid hi w hfl hc0 hc16 ht0 ht16 hn0 hn1 hok hgm hmh hhi ho hp e1 e2
      rw [e1] at h
      exact h
    · have h := takeI_end g h c1 c2 mc mt o3 n3 c3 bg fg gl cg k i l d a p f s st now lo mid hi w hfl hc0 hc16 ht0 ht16 hn0 hn1 hok hgm hmh hhi ho hp e1 e2
      rw [e1] at h
      exact h

end Go.Proofs.YtmkgbmmibjgeaaaGreat

/- The rules of a visit, in the same words: what rule j answers, and what it leaves of the two tables. -/
namespace Go.Proofs.YtmkgbmmibjgeaaaGreat
open Go.ChangeShapes Go.WideShapes Go.ChangeAt Go.RowKit Go.Joins
set_option linter.unusedVariables false
set_option linter.unusedSimpArgs false

def rv (mc mt : List Sl) (i l : Int) (d : Bool) (a p f s st now sb sf : Int) (k gl : Nat) : Nat → Int
  | 0 => if sb = i then -1 else 6
  | 1 => if (bits .and .i64 f 3 == 1) = true ∧ 10 < now - st then 4 else -1
  | 2 => if (endL mc a p).2 = true then 0 else -1
  | 3 => if sf = 0 then (if lastB k gl = true then 3 else 2) else -1
  | 4 => if refuseB mc mt d a p k gl = true then 3 else -1
  | 5 => passV mc mt d l a p k gl
  | _ => 1
def rc (mc mt : List Sl) (i l : Int) (d : Bool) (a p f s st now sb sf : Int) (k gl : Nat) : Nat → List Sl
  | 0 => mc
  | 1 => mc
  | 2 => tkC mc now a p f s
  | 3 => mc
  | 4 => mc
  | 5 => mc
  | _ => putL mc a p s (now + 50)
def rt (mc mt : List Sl) (i l : Int) (d : Bool) (a p f s st now sb sf : Int) (k gl : Nat) : Nat → List Sl
  | 0 => mt
  | 1 => mt
  | 2 => tkT mc mt now a p f
  | 3 => mt
  | 4 => mt
  | 5 => passT mc mt d l a p now k gl
  | _ => mt
theorem rule0_any (g h c1 c2 : Nat) (mc mt : List Sl) (o3 : Option Addr) (n3 c3 bg fg gl cg k : Nat) (i l : Int) (d : Bool) (a p f s st now : Int) (sb sf : Int) (lo mid hi : Nat) (w : World) (hk : k < gl) (hgl : gl ≤ 1048576) (hfl : flowOkB a p = true) (hc0 : 0 < mc.length) (hc16 : mc.length ≤ 16) (ht0 : 0 < mt.length) (ht16 : mt.length ≤ 16) (hn0 : 0 ≤ now) (hn1 : now ≤ 100000) (hst0 : 0 ≤ st) (hst1 : st ≤ 100000) (hn3 : n3 ≤ maxLen) (hpk : packetOkB a p f s n3 = true) (hok : flowsOk mc) (hgm : g < mid) (hmh : mid ≤ h) (hhi : h < hi) (ho : w.ownsRow lo CellT 5 (.slice (some ⟨g, 0, none⟩) mc.length c1) mc.length (mc.flatMap layS.cs)) (hp : w.ownsRow mid CellT 5 (.slice (some ⟨h, 0, none⟩) mt.length c2) mt.length (mt.flatMap layS.cs)) (zb : bg < w.heap.size) (hs0 : w.cell? ⟨bg, fg + k * 2, none⟩ = some (.int .i64 sb)) (hs1 : w.cell? ⟨bg, fg + k * 2 + 1, none⟩ = some (.int .i64 sf)) :
    Calls Tryz.prog 57 #[visV (.slice (some ⟨g, 0, none⟩) mc.length c1) (.slice (some ⟨h, 0, none⟩) mt.length c2) i l d a p f s (.slice o3 n3 c3) (.slice (some ⟨bg, fg, none⟩) gl cg) (k : Int) st now] w fun e w' => e = .returned (.int .i64 (rv mc mt i l d a p f s st now sb sf k gl 0)) ∧ w'.ownsRow lo CellT 5 (.slice (some ⟨g, 0, none⟩) mc.length c1) mc.length ((rc mc mt i l d a p f s st now sb sf k gl 0).flatMap layS.cs) ∧ w'.ownsRow mid CellT 5 (.slice (some ⟨h, 0, none⟩) mt.length c2) mt.length ((rt mc mt i l d a p f s st now sb sf k gl 0).flatMap layS.cs) ∧ Stp lo hi w w' := by
  have zg := (ho.lt g rfl).2
  have zh := (hp.lt h rfl).2
  have lg := (ho.lt g rfl).1
  refine (lostI_any (some ⟨g, 0, none⟩) (some ⟨h, 0, none⟩) o3 mc.length c1 mt.length c2 n3 c3 bg fg gl cg k i l d a p f s st now sb sf w hk hgl zb hs0 hs1).mono ?_
  rintro e w' ⟨he, hb⟩
  exact ⟨he, own_kept ho hb, own_kept hp hb, Stp.of hb⟩
theorem rule1_any (g h c1 c2 : Nat) (mc mt : List Sl) (o3 : Option Addr) (n3 c3 bg fg gl cg k : Nat) (i l : Int) (d : Bool) (a p f s st now : Int) (sb sf : Int) (lo mid hi : Nat) (w : World) (hk : k < gl) (hgl : gl ≤ 1048576) (hfl : flowOkB a p = true) (hc0 : 0 < mc.length) (hc16 : mc.length ≤ 16) (ht0 : 0 < mt.length) (ht16 : mt.length ≤ 16) (hn0 : 0 ≤ now) (hn1 : now ≤ 100000) (hst0 : 0 ≤ st) (hst1 : st ≤ 100000) (hn3 : n3 ≤ maxLen) (hpk : packetOkB a p f s n3 = true) (hok : flowsOk mc) (hgm : g < mid) (hmh : mid ≤ h) (hhi : h < hi) (ho : w.ownsRow lo CellT 5 (.slice (some ⟨g, 0, none⟩) mc.length c1) mc.length (mc.flatMap layS.cs)) (hp : w.ownsRow mid CellT 5 (.slice (some ⟨h, 0, none⟩) mt.length c2) mt.length (mt.flatMap layS.cs)) (zb : bg < w.heap.size) (hs0 : w.cell? ⟨bg, fg + k * 2, none⟩ = some (.int .i64 sb)) (hs1 : w.cell? ⟨bg, fg + k * 2 + 1, none⟩ = some (.int .i64 sf)) :
    Calls Tryz.prog 58 #[visV (.slice (some ⟨g, 0, none⟩) mc.length c1) (.slice (some ⟨h, 0, none⟩) mt.length c2) i l d a p f s (.slice o3 n3 c3) (.slice (some ⟨bg, fg, none⟩) gl cg) (k : Int) st now] w fun e w' => e = .returned (.int .i64 (rv mc mt i l d a p f s st now sb sf k gl 1)) ∧ w'.ownsRow lo CellT 5 (.slice (some ⟨g, 0, none⟩) mc.length c1) mc.length ((rc mc mt i l d a p f s st now sb sf k gl 1).flatMap layS.cs) ∧ w'.ownsRow mid CellT 5 (.slice (some ⟨h, 0, none⟩) mt.length c2) mt.length ((rt mc mt i l d a p f s st now sb sf k gl 1).flatMap layS.cs) ∧ Stp lo hi w w' := by
  have zg := (ho.lt g rfl).2
  have zh := (hp.lt h rfl).2
  have lg := (ho.lt g rfl).1
  refine (oldI_any (some ⟨g, 0, none⟩) (some ⟨h, 0, none⟩) o3 mc.length c1 mt.length c2 n3 c3 bg fg gl cg k i l d a p f s st now w hn3 hpk hn0 hn1 hst0 hst1).mono ?_
  rintro e w' ⟨he, hb⟩
  exact ⟨he, own_kept ho hb, own_kept hp hb, Stp.of hb⟩
theorem rule2_any (g h c1 c2 : Nat) (mc mt : List Sl) (o3 : Option Addr) (n3 c3 bg fg gl cg k : Nat) (i l : Int) (d : Bool) (a p f s st now : Int) (sb sf : Int) (lo mid hi : Nat) (w : World) (hk : k < gl) (hgl : gl ≤ 1048576) (hfl : flowOkB a p = true) (hc0 : 0 < mc.length) (hc16 : mc.length ≤ 16) (ht0 : 0 < mt.length) (ht16 : mt.length ≤ 16) (hn0 : 0 ≤ now) (hn1 : now ≤ 100000) (hst0 : 0 ≤ st) (hst1 : st ≤ 100000) (hn3 : n3 ≤ maxLen) (hpk : packetOkB a p f s n3 = true) (hok : flowsOk mc) (hgm : g < mid) (hmh : mid ≤ h) (hhi : h < hi) (ho : w.ownsRow lo CellT 5 (.slice (some ⟨g, 0, none⟩) mc.length c1) mc.length (mc.flatMap layS.cs)) (hp : w.ownsRow mid CellT 5 (.slice (some ⟨h, 0, none⟩) mt.length c2) mt.length (mt.flatMap layS.cs)) (zb : bg < w.heap.size) (hs0 : w.cell? ⟨bg, fg + k * 2, none⟩ = some (.int .i64 sb)) (hs1 : w.cell? ⟨bg, fg + k * 2 + 1, none⟩ = some (.int .i64 sf)) :
    Calls Tryz.prog 59 #[visV (.slice (some ⟨g, 0, none⟩) mc.length c1) (.slice (some ⟨h, 0, none⟩) mt.length c2) i l d a p f s (.slice o3 n3 c3) (.slice (some ⟨bg, fg, none⟩) gl cg) (k : Int) st now] w fun e w' => e = .returned (.int .i64 (rv mc mt i l d a p f s st now sb sf k gl 2)) ∧ w'.ownsRow lo CellT 5 (.slice (some ⟨g, 0, none⟩) mc.length c1) mc.length ((rc mc mt i l d a p f s st now sb sf k gl 2).flatMap layS.cs) ∧ w'.ownsRow mid CellT 5 (.slice (some ⟨h, 0, none⟩) mt.length c2) mt.length ((rt mc mt i l d a p f s st now sb sf k gl 2).flatMap layS.cs) ∧ Stp lo hi w w' := by
  have zg := (ho.lt g rfl).2
  have zh := (hp.lt h rfl).2
  have lg := (ho.lt g rfl).1
  exact takeI_any g h c1 c2 mc mt o3 n3 c3 bg fg gl cg k i l d a p f s st now lo mid hi w hfl hc0 hc16 ht0 ht16 hn0 hn1 hok hgm hmh hhi ho hp
theorem rule3_any (g h c1 c2 : Nat) (mc mt : List Sl) (o3 : Option Addr) (n3 c3 bg fg gl cg k : Nat) (i l : Int) (d : Bool) (a p f s st now : Int) (sb sf : Int) (lo mid hi : Nat) (w : World) (hk : k < gl) (hgl : gl ≤ 1048576) (hfl : flowOkB a p = true) (hc0 : 0 < mc.length) (hc16 : mc.length ≤ 16) (ht0 : 0 < mt.length) (ht16 : mt.length ≤ 16) (hn0 : 0 ≤ now) (hn1 : now ≤ 100000) (hst0 : 0 ≤ st) (hst1 : st ≤ 100000) (hn3 : n3 ≤ maxLen) (hpk : packetOkB a p f s n3 = true) (hok : flowsOk mc) (hgm : g < mid) (hmh : mid ≤ h) (hhi : h < hi) (ho : w.ownsRow lo CellT 5 (.slice (some ⟨g, 0, none⟩) mc.length c1) mc.length (mc.flatMap layS.cs)) (hp : w.ownsRow mid CellT 5 (.slice (some ⟨h, 0, none⟩) mt.length c2) mt.length (mt.flatMap layS.cs)) (zb : bg < w.heap.size) (hs0 : w.cell? ⟨bg, fg + k * 2, none⟩ = some (.int .i64 sb)) (hs1 : w.cell? ⟨bg, fg + k * 2 + 1, none⟩ = some (.int .i64 sf)) :
    Calls Tryz.prog 60 #[visV (.slice (some ⟨g, 0, none⟩) mc.length c1) (.slice (some ⟨h, 0, none⟩) mt.length c2) i l d a p f s (.slice o3 n3 c3) (.slice (some ⟨bg, fg, none⟩) gl cg) (k : Int) st now] w fun e w' => e = .returned (.int .i64 (rv mc mt i l d a p f s st now sb sf k gl 3)) ∧ w'.ownsRow lo CellT 5 (.slice (some ⟨g, 0, none⟩) mc.length c1) mc.length ((rc mc mt i l d a p f s st now sb sf k gl 3).flatMap layS.cs) ∧ w'.ownsRow mid CellT 5 (.slice (some ⟨h, 0, none⟩) mt.length c2) mt.length ((rt mc mt i l d a p f s st now sb sf k gl 3).flatMap layS.cs) ∧ Stp lo hi w w' := by
  have zg := (ho.lt g rfl).2
  have zh := (hp.lt h rfl).2
  have lg := (ho.lt g rfl).1
  refine (ownI_any (some ⟨g, 0, none⟩) (some ⟨h, 0, none⟩) o3 mc.length c1 mt.length c2 n3 c3 bg fg gl cg k i l d a p f s st now sb sf w hk hgl zb hs0 hs1).mono ?_
  rintro e w' ⟨he, hb⟩
  exact ⟨he, own_kept ho hb, own_kept hp hb, Stp.of hb⟩
theorem rule4_any (g h c1 c2 : Nat) (mc mt : List Sl) (o3 : Option Addr) (n3 c3 bg fg gl cg k : Nat) (i l : Int) (d : Bool) (a p f s st now : Int) (sb sf : Int) (lo mid hi : Nat) (w : World) (hk : k < gl) (hgl : gl ≤ 1048576) (hfl : flowOkB a p = true) (hc0 : 0 < mc.length) (hc16 : mc.length ≤ 16) (ht0 : 0 < mt.length) (ht16 : mt.length ≤ 16) (hn0 : 0 ≤ now) (hn1 : now ≤ 100000) (hst0 : 0 ≤ st) (hst1 : st ≤ 100000) (hn3 : n3 ≤ maxLen) (hpk : packetOkB a p f s n3 = true) (hok : flowsOk mc) (hgm : g < mid) (hmh : mid ≤ h) (hhi : h < hi) (ho : w.ownsRow lo CellT 5 (.slice (some ⟨g, 0, none⟩) mc.length c1) mc.length (mc.flatMap layS.cs)) (hp : w.ownsRow mid CellT 5 (.slice (some ⟨h, 0, none⟩) mt.length c2) mt.length (mt.flatMap layS.cs)) (zb : bg < w.heap.size) (hs0 : w.cell? ⟨bg, fg + k * 2, none⟩ = some (.int .i64 sb)) (hs1 : w.cell? ⟨bg, fg + k * 2 + 1, none⟩ = some (.int .i64 sf)) :
    Calls Tryz.prog 61 #[visV (.slice (some ⟨g, 0, none⟩) mc.length c1) (.slice (some ⟨h, 0, none⟩) mt.length c2) i l d a p f s (.slice o3 n3 c3) (.slice (some ⟨bg, fg, none⟩) gl cg) (k : Int) st now] w fun e w' => e = .returned (.int .i64 (rv mc mt i l d a p f s st now sb sf k gl 4)) ∧ w'.ownsRow lo CellT 5 (.slice (some ⟨g, 0, none⟩) mc.length c1) mc.length ((rc mc mt i l d a p f s st now sb sf k gl 4).flatMap layS.cs) ∧ w'.ownsRow mid CellT 5 (.slice (some ⟨h, 0, none⟩) mt.length c2) mt.length ((rt mc mt i l d a p f s st now sb sf k gl 4).flatMap layS.cs) ∧ Stp lo hi w w' := by
  have zg := (ho.lt g rfl).2
  have zh := (hp.lt h rfl).2
  have lg := (ho.lt g rfl).1
  refine (refuseI_any g h c1 c2 mc mt o3 n3 c3 bg fg gl cg k i l d a p f s st now w hk hgl hfl hc0 (by omega) ht0 (by omega) zg zh (rd_of_own ho rfl) (rd_of_own hp rfl)).mono ?_
  rintro e w' ⟨he, hb⟩
  exact ⟨he, own_kept ho hb, own_kept hp hb, Stp.of hb⟩
theorem rule5_any (g h c1 c2 : Nat) (mc mt : List Sl) (o3 : Option Addr) (n3 c3 bg fg gl cg k : Nat) (i l : Int) (d : Bool) (a p f s st now : Int) (sb sf : Int) (lo mid hi : Nat) (w : World) (hk : k < gl) (hgl : gl ≤ 1048576) (hfl : flowOkB a p = true) (hc0 : 0 < mc.length) (hc16 : mc.length ≤ 16) (ht0 : 0 < mt.length) (ht16 : mt.length ≤ 16) (hn0 : 0 ≤ now) (hn1 : now ≤ 100000) (hst0 : 0 ≤ st) (hst1 : st ≤ 100000) (hn3 : n3 ≤ maxLen) (hpk : packetOkB a p f s n3 = true) (hok : flowsOk mc) (hgm : g < mid) (hmh : mid ≤ h) (hhi : h < hi) (ho : w.ownsRow lo CellT 5 (.slice (some ⟨g, 0, none⟩) mc.length c1) mc.length (mc.flatMap layS.cs)) (hp : w.ownsRow mid CellT 5 (.slice (some ⟨h, 0, none⟩) mt.length c2) mt.length (mt.flatMap layS.cs)) (zb : bg < w.heap.size) (hs0 : w.cell? ⟨bg, fg + k * 2, none⟩ = some (.int .i64 sb)) (hs1 : w.cell? ⟨bg, fg + k * 2 + 1, none⟩ = some (.int .i64 sf)) :
    Calls Tryz.prog 62 #[visV (.slice (some ⟨g, 0, none⟩) mc.length c1) (.slice (some ⟨h, 0, none⟩) mt.length c2) i l d a p f s (.slice o3 n3 c3) (.slice (some ⟨bg, fg, none⟩) gl cg) (k : Int) st now] w fun e w' => e = .returned (.int .i64 (rv mc mt i l d a p f s st now sb sf k gl 5)) ∧ w'.ownsRow lo CellT 5 (.slice (some ⟨g, 0, none⟩) mc.length c1) mc.length ((rc mc mt i l d a p f s st now sb sf k gl 5).flatMap layS.cs) ∧ w'.ownsRow mid CellT 5 (.slice (some ⟨h, 0, none⟩) mt.length c2) mt.length ((rt mc mt i l d a p f s st now sb sf k gl 5).flatMap layS.cs) ∧ Stp lo hi w w' := by
  have zg := (ho.lt g rfl).2
  have zh := (hp.lt h rfl).2
  have lg := (ho.lt g rfl).1
  refine (passI_any g h c1 c2 mc mt o3 n3 c3 bg fg gl cg k i l d a p f s st now mid w hk hgl hfl hc0 (by omega) ht0 (by omega) hn0 hn1 zg (rd_of_own ho rfl) hp).mono ?_
  rintro e w' ⟨he, hq, hst⟩
  exact ⟨he, (InRow.step (a := lo) (b := mid) ⟨ho, fun b e => by simp [Value.ownBlock] at e; omega⟩ hst (.inr hmh)).1, hq, hst.wide' (by omega) (by omega)⟩
theorem rule6_any (g h c1 c2 : Nat) (mc mt : List Sl) (o3 : Option Addr) (n3 c3 bg fg gl cg k : Nat) (i l : Int) (d : Bool) (a p f s st now : Int) (sb sf : Int) (lo mid hi : Nat) (w : World) (hk : k < gl) (hgl : gl ≤ 1048576) (hfl : flowOkB a p = true) (hc0 : 0 < mc.length) (hc16 : mc.length ≤ 16) (ht0 : 0 < mt.length) (ht16 : mt.length ≤ 16) (hn0 : 0 ≤ now) (hn1 : now ≤ 100000) (hst0 : 0 ≤ st) (hst1 : st ≤ 100000) (hn3 : n3 ≤ maxLen) (hpk : packetOkB a p f s n3 = true) (hok : flowsOk mc) (hgm : g < mid) (hmh : mid ≤ h) (hhi : h < hi) (ho : w.ownsRow lo CellT 5 (.slice (some ⟨g, 0, none⟩) mc.length c1) mc.length (mc.flatMap layS.cs)) (hp : w.ownsRow mid CellT 5 (.slice (some ⟨h, 0, none⟩) mt.length c2) mt.length (mt.flatMap layS.cs)) (zb : bg < w.heap.size) (hs0 : w.cell? ⟨bg, fg + k * 2, none⟩ = some (.int .i64 sb)) (hs1 : w.cell? ⟨bg, fg + k * 2 + 1, none⟩ = some (.int .i64 sf)) :
    Calls Tryz.prog 63 #[visV (.slice (some ⟨g, 0, none⟩) mc.length c1) (.slice (some ⟨h, 0, none⟩) mt.length c2) i l d a p f s (.slice o3 n3 c3) (.slice (some ⟨bg, fg, none⟩) gl cg) (k : Int) st now] w fun e w' => e = .returned (.int .i64 (rv mc mt i l d a p f s st now sb sf k gl 6)) ∧ w'.ownsRow lo CellT 5 (.slice (some ⟨g, 0, none⟩) mc.length c1) mc.length ((rc mc mt i l d a p f s st now sb sf k gl 6).flatMap layS.cs) ∧ w'.ownsRow mid CellT 5 (.slice (some ⟨h, 0, none⟩) mt.length c2) mt.length ((rt mc mt i l d a p f s st now sb sf k gl 6).flatMap layS.cs) ∧ Stp lo hi w w' := by
  have zg := (ho.lt g rfl).2
  have zh := (hp.lt h rfl).2
  have lg := (ho.lt g rfl).1
  refine (beginI_any g lo c1 mc (some ⟨h, 0, none⟩) o3 mt.length c2 n3 c3 bg fg gl cg k i l d a p f s st now w hc0 (by omega) hfl hn0 hn1 ho).mono ?_
  rintro e w' ⟨he, hq, hst⟩
  exact ⟨he, hq, (InRow.step (a := mid) (b := hi) ⟨hp, fun b e => by simp [Value.ownBlock] at e; omega⟩ hst (.inl (by omega))).1, hst.wide' lg (by omega)⟩
theorem rc_same {mc mt : List Sl} {i l : Int} {d : Bool} {a p f s st now sb sf : Int} {k gl : Nat} {j : Nat} (hj : j < 6) (h : rv mc mt i l d a p f s st now sb sf k gl j = -1) : rc mc mt i l d a p f s st now sb sf k gl j = mc := by
  match j, hj with
  | 0, _ => rfl
  | 1, _ => rfl
  | 2, _ =>
    simp only [rv] at h
    simp only [rc, tkC]
    split at h
    · omega
    · next hn => rw [if_neg hn]
  | 3, _ => rfl
  | 4, _ => rfl
  | 5, _ => rfl
theorem rt_same {mc mt : List Sl} {i l : Int} {d : Bool} {a p f s st now sb sf : Int} {k gl : Nat} {j : Nat} (hj : j < 6) (h : rv mc mt i l d a p f s st now sb sf k gl j = -1) : rt mc mt i l d a p f s st now sb sf k gl j = mt := by
  match j, hj with
  | 0, _ => rfl
  | 1, _ => rfl
  | 2, _ =>
    simp only [rv] at h
    simp only [rt, tkT]
    split at h
    · omega
    · next hn => rw [if_neg hn]
  | 3, _ => rfl
  | 4, _ => rfl
  | 5, _ =>
    simp only [rv, passV] at h
    simp only [rt, passT]
    split at h
    · next hq => rw [if_pos hq]
    · split at h <;> omega

end Go.Proofs.YtmkgbmmibjgeaaaGreat

/- The verdict of a visit: the first rule that has something to say. -/
namespace Go.Proofs.YtmkgbmmibjgeaaaGreat
open Go.ChangeShapes Go.WideShapes Go.ChangeAt Go.RowKit Go.Joins
set_option linter.unusedVariables false
set_option linter.unusedSimpArgs false

theorem idx0 (w : World) : (Instr.index 109 (.agg #[.func (Fn.func 57) #[] #[], .func (Fn.func 58) #[] #[], .func (Fn.func 59) #[] #[], .func (Fn.func 60) #[] #[], .func (Fn.func 61) #[] #[], .func (Fn.func 62) #[] #[], .func (Fn.func 63) #[] #[]]) (.int .i64 0)).run Tryz.prog w = .ok (.func (Fn.func 57) #[] #[]) w := by kernel_rfl
theorem idx1 (w : World) : (Instr.index 109 (.agg #[.func (Fn.func 57) #[] #[], .func (Fn.func 58) #[] #[], .func (Fn.func 59) #[] #[], .func (Fn.func 60) #[] #[], .func (Fn.func 61) #[] #[], .func (Fn.func 62) #[] #[], .func (Fn.func 63) #[] #[]]) (.int .i64 1)).run Tryz.prog w = .ok (.func (Fn.func 58) #[] #[]) w := by kernel_rfl
theorem idx2 (w : World) : (Instr.index 109 (.agg #[.func (Fn.func 57) #[] #[], .func (Fn.func 58) #[] #[], .func (Fn.func 59) #[] #[], .func (Fn.func 60) #[] #[], .func (Fn.func 61) #[] #[], .func (Fn.func 62) #[] #[], .func (Fn.func 63) #[] #[]]) (.int .i64 2)).run Tryz.prog w = .ok (.func (Fn.func 59) #[] #[]) w := by kernel_rfl
theorem idx3 (w : World) : (Instr.index 109 (.agg #[.func (Fn.func 57) #[] #[], .func (Fn.func 58) #[] #[], .func (Fn.func 59) #[] #[], .func (Fn.func 60) #[] #[], .func (Fn.func 61) #[] #[], .func (Fn.func 62) #[] #[], .func (Fn.func 63) #[] #[]]) (.int .i64 3)).run Tryz.prog w = .ok (.func (Fn.func 60) #[] #[]) w := by kernel_rfl
theorem idx4 (w : World) : (Instr.index 109 (.agg #[.func (Fn.func 57) #[] #[], .func (Fn.func 58) #[] #[], .func (Fn.func 59) #[] #[], .func (Fn.func 60) #[] #[], .func (Fn.func 61) #[] #[], .func (Fn.func 62) #[] #[], .func (Fn.func 63) #[] #[]]) (.int .i64 4)).run Tryz.prog w = .ok (.func (Fn.func 61) #[] #[]) w := by kernel_rfl
theorem idx5 (w : World) : (Instr.index 109 (.agg #[.func (Fn.func 57) #[] #[], .func (Fn.func 58) #[] #[], .func (Fn.func 59) #[] #[], .func (Fn.func 60) #[] #[], .func (Fn.func 61) #[] #[], .func (Fn.func 62) #[] #[], .func (Fn.func 63) #[] #[]]) (.int .i64 5)).run Tryz.prog w = .ok (.func (Fn.func 62) #[] #[]) w := by kernel_rfl
theorem idx6 (w : World) : (Instr.index 109 (.agg #[.func (Fn.func 57) #[] #[], .func (Fn.func 58) #[] #[], .func (Fn.func 59) #[] #[], .func (Fn.func 60) #[] #[], .func (Fn.func 61) #[] #[], .func (Fn.func 62) #[] #[], .func (Fn.func 63) #[] #[]]) (.int .i64 6)).run Tryz.prog w = .ok (.func (Fn.func 63) #[] #[]) w := by kernel_rfl
set_option maxRecDepth 20000 in
set_option maxHeartbeats 16000000 in
theorem verdictI_any (g h c1 c2 : Nat) (mc mt : List Sl) (o3 : Option Addr) (n3 c3 bg fg gl cg k : Nat) (i l : Int) (d : Bool) (a p f s st now : Int) (sb sf : Int) (lo mid hi : Nat) (w : World) (hk : k < gl) (hgl : gl ≤ 1048576) (hfl : flowOkB a p = true) (hc0 : 0 < mc.length) (hc16 : mc.length ≤ 16) (ht0 : 0 < mt.length) (ht16 : mt.length ≤ 16) (hn0 : 0 ≤ now) (hn1 : now ≤ 100000) (hst0 : 0 ≤ st) (hst1 : st ≤ 100000) (hn3 : n3 ≤ maxLen) (hpk : packetOkB a p f s n3 = true) (hok : flowsOk mc) (hgm : g < mid) (hmh : mid ≤ h) (hhi : h < hi) (ho : w.ownsRow lo CellT 5 (.slice (some ⟨g, 0, none⟩) mc.length c1) mc.length (mc.flatMap layS.cs)) (hp : w.ownsRow mid CellT 5 (.slice (some ⟨h, 0, none⟩) mt.length c2) mt.length (mt.flatMap layS.cs)) (zb : bg < w.heap.size) (hs0 : w.cell? ⟨bg, fg + k * 2, none⟩ = some (.int .i64 sb)) (hs1 : w.cell? ⟨bg, fg + k * 2 + 1, none⟩ = some (.int .i64 sf)) (hiw : hi ≤ w.heap.size) (hbg : bg < lo ∨ hi ≤ bg) :
    Calls Tryz.prog 29 #[visV (.slice (some ⟨g, 0, none⟩) mc.length c1) (.slice (some ⟨h, 0, none⟩) mt.length c2) i l d a p f s (.slice o3 n3 c3) (.slice (some ⟨bg, fg, none⟩) gl cg) (k : Int) st now] w fun e w' => ∃ j : Nat, j ≤ 6 ∧ (∀ q, q < j → rv mc mt i l d a p f s st now sb sf k gl q = -1) ∧ rv mc mt i l d a p f s st now sb sf k gl j ≠ -1 ∧ e = .returned (.int .i64 (rv mc mt i l d a p f s st now sb sf k gl j)) ∧ w'.ownsRow lo CellT 5 (.slice (some ⟨g, 0, none⟩) mc.length c1) mc.length ((rc mc mt i l d a p f s st now sb sf k gl j).flatMap layS.cs) ∧ w'.ownsRow mid CellT 5 (.slice (some ⟨h, 0, none⟩) mt.length c2) mt.length ((rt mc mt i l d a p f s st now sb sf k gl j).flatMap layS.cs) ∧ Stp lo hi w w' := by
  have hsf := fun (a : Addr) (F : Fn) (w : World) => run_store Tryz.prog w a (.func F #[] #[]) .plain rfl
  obtain ⟨W0, hW0⟩ : ∃ W, (w.alloc (.cells #[.slice (some ⟨g, 0, none⟩) mc.length c1, .slice (some ⟨h, 0, none⟩) mt.length c2, .int .i64 i, .int .i64 l, .bool d, .int .i64 a, .int .i64 p, .int .i64 f, .int .i64 s, .slice o3 n3 c3, .slice (some ⟨bg, fg, none⟩) gl cg, .int .i64 (k : Int), .int .i64 st, .int .i64 now] 78)) = W := ⟨_, rfl⟩
  have hb_W0 : Below w.heap.size w W0 := by rw [← hW0]; exact ((Below.refl _ _).alloc (Nat.le_refl _) _)
  have HB := hide hb_W0
  clear hb_W0
  have zz : w.heap.size < W0.heap.size := by rw [← hW0]; simp
  have z0 : W0.cell? ⟨w.heap.size, 0, none⟩ = some (.slice (some ⟨g, 0, none⟩) mc.length c1) := by rw [← hW0]; simp [go_sem]
  have z1 : W0.cell? ⟨w.heap.size, 1, none⟩ = some (.slice (some ⟨h, 0, none⟩) mt.length c2) := by rw [← hW0]; simp [go_sem]
  have z2 : W0.cell? ⟨w.heap.size, 2, none⟩ = some (.int .i64 i) := by rw [← hW0]; simp [go_sem]
  have z3 : W0.cell? ⟨w.heap.size, 3, none⟩ = some (.int .i64 l) := by rw [← hW0]; simp [go_sem]
  have z4 : W0.cell? ⟨w.heap.size, 4, none⟩ = some (.bool d) := by rw [← hW0]; simp [go_sem]
  have z5 : W0.cell? ⟨w.heap.size, 5, none⟩ = some (.int .i64 a) := by rw [← hW0]; simp [go_sem]
  have z6 : W0.cell? ⟨w.heap.size, 6, none⟩ = some (.int .i64 p) := by rw [← hW0]; simp [go_sem]
  have z7 : W0.cell? ⟨w.heap.size, 7, none⟩ = some (.int .i64 f) := by rw [← hW0]; simp [go_sem]
  have z8 : W0.cell? ⟨w.heap.size, 8, none⟩ = some (.int .i64 s) := by rw [← hW0]; simp [go_sem]
  have z9 : W0.cell? ⟨w.heap.size, 9, none⟩ = some (.slice o3 n3 c3) := by rw [← hW0]; simp [go_sem]
  have z10 : W0.cell? ⟨w.heap.size, 10, none⟩ = some (.slice (some ⟨bg, fg, none⟩) gl cg) := by rw [← hW0]; simp [go_sem]
  have z11 : W0.cell? ⟨w.heap.size, 11, none⟩ = some (.int .i64 (k : Int)) := by rw [← hW0]; simp [go_sem]
  have z12 : W0.cell? ⟨w.heap.size, 12, none⟩ = some (.int .i64 st) := by rw [← hW0]; simp [go_sem]
  have z13 : W0.cell? ⟨w.heap.size, 13, none⟩ = some (.int .i64 now) := by rw [← hW0]; simp [go_sem]
  obtain ⟨W1, hW1⟩ : ∃ W, (W0.alloc (.cells #[.func (Fn.func 57) #[] #[], .func (Fn.func 58) #[] #[], .func (Fn.func 59) #[] #[], .func (Fn.func 60) #[] #[], .func (Fn.func 61) #[] #[], .func (Fn.func 62) #[] #[], .func (Fn.func 63) #[] #[]] 109)) = W := ⟨_, rfl⟩
  have hb_W1 : Below W0.heap.size W0 W1 := by rw [← hW1]; exact ((Below.refl _ _).alloc (Nat.le_refl _) _)
  replace z0 := bC hb_W1 z0 zz
  replace z1 := bC hb_W1 z1 zz
  replace z2 := bC hb_W1 z2 zz
  replace z3 := bC hb_W1 z3 zz
  replace z4 := bC hb_W1 z4 zz
  replace z5 := bC hb_W1 z5 zz
  replace z6 := bC hb_W1 z6 zz
  replace z7 := bC hb_W1 z7 zz
  replace z8 := bC hb_W1 z8 zz
  replace z9 := bC hb_W1 z9 zz
  replace z10 := bC hb_W1 z10 zz
  replace z11 := bC hb_W1 z11 zz
  replace z12 := bC hb_W1 z12 zz
  replace z13 := bC hb_W1 z13 zz
  replace zz := Nat.lt_of_lt_of_le zz hb_W1.size
  replace HB := hide (HB.out.trans (hb_W1.mono HB.out.size))
  clear hb_W1
  have zq : W0.heap.size < W1.heap.size := by rw [← hW1]; simp
  have q0 : W1.cell? ⟨W0.heap.size, 0, none⟩ = some (.func (Fn.func 57) #[] #[]) := by rw [← hW1]; simp [go_sem]
  have q1 : W1.cell? ⟨W0.heap.size, 1, none⟩ = some (.func (Fn.func 58) #[] #[]) := by rw [← hW1]; simp [go_sem]
  have q2 : W1.cell? ⟨W0.heap.size, 2, none⟩ = some (.func (Fn.func 59) #[] #[]) := by rw [← hW1]; simp [go_sem]
  have q3 : W1.cell? ⟨W0.heap.size, 3, none⟩ = some (.func (Fn.func 60) #[] #[]) := by rw [← hW1]; simp [go_sem]
  have q4 : W1.cell? ⟨W0.heap.size, 4, none⟩ = some (.func (Fn.func 61) #[] #[]) := by rw [← hW1]; simp [go_sem]
  have q5 : W1.cell? ⟨W0.heap.size, 5, none⟩ = some (.func (Fn.func 62) #[] #[]) := by rw [← hW1]; simp [go_sem]
  have q6 : W1.cell? ⟨W0.heap.size, 6, none⟩ = some (.func (Fn.func 63) #[] #[]) := by rw [← hW1]; simp [go_sem]
  have HO := hide (own_kept ho HB.out)
  have HP := hide (own_kept hp HB.out)
  have t0 := (HB.out.cell (p := ⟨bg, fg + k * 2, none⟩) zb).trans hs0
  have t1 := (HB.out.cell (p := ⟨bg, fg + k * 2 + 1, none⟩) zb).trans hs1
  have zb1 : bg < W1.heap.size := Nat.lt_of_lt_of_le zb HB.out.size
  have hW := HB.out.size
  clear ho hp hs0 hs1
  go_enter Tryz.func29, Tryz.ntmps29
  go_wp2
  go_loopw [4, 9] (fun vv iv wr => ∃ j : Nat, j ≤ 6 ∧ iv = .int .i64 (j : Int) ∧ vv = .int .i64 (-1) ∧ Hid (∀ q, q < j → rv mc mt i l d a p f s st now sb sf k gl q = -1) ∧ Hid (wr.ownsRow lo CellT 5 (.slice (some ⟨g, 0, none⟩) mc.length c1) mc.length (mc.flatMap layS.cs)) ∧ Hid (wr.ownsRow mid CellT 5 (.slice (some ⟨h, 0, none⟩) mt.length c2) mt.length (mt.flatMap layS.cs)) ∧ Hid (Stp lo hi W1 wr)) (fun _ iv _ => 7 - (intOf iv).toNat)
  case atStart => exact ⟨0, by omega, rfl, rfl, fun q hq => absurd hq (Nat.not_lt_zero _), HO, HP, Stp.refl _⟩
  case round =>
    clear HO HP hsf hW1 hW0
    obtain ⟨j, hj, rfl, rfl, HQ, HO, HP, HS⟩ := hrel
    have sr := HS.out.size
    replace z0 : wr.cell? ⟨w.heap.size, 0, none⟩ = some (.slice (some ⟨g, 0, none⟩) mc.length c1) := HS.out.cell z0 zz (.inr hiw)
    replace z1 : wr.cell? ⟨w.heap.size, 1, none⟩ = some (.slice (some ⟨h, 0, none⟩) mt.length c2) := HS.out.cell z1 zz (.inr hiw)
    replace z2 : wr.cell? ⟨w.heap.size, 2, none⟩ = some (.int .i64 i) := HS.out.cell z2 zz (.inr hiw)
    replace z3 : wr.cell? ⟨w.heap.size, 3, none⟩ = some (.int .i64 l) := HS.out.cell z3 zz (.inr hiw)
    replace z4 : wr.cell? ⟨w.heap.size, 4, none⟩ = some (.bool d) := HS.out.cell z4 zz (.inr hiw)
    replace z5 : wr.cell? ⟨w.heap.size, 5, none⟩ = some (.int .i64 a) := HS.out.cell z5 zz (.inr hiw)
    replace z6 : wr.cell? ⟨w.heap.size, 6, none⟩ = some (.int .i64 p) := HS.out.cell z6 zz (.inr hiw)
    replace z7 : wr.cell? ⟨w.heap.size, 7, none⟩ = some (.int .i64 f) := HS.out.cell z7 zz (.inr hiw)
    replace z8 : wr.cell? ⟨w.heap.size, 8, none⟩ = some (.int .i64 s) := HS.out.cell z8 zz (.inr hiw)
    replace z9 : wr.cell? ⟨w.heap.size, 9, none⟩ = some (.slice o3 n3 c3) := HS.out.cell z9 zz (.inr hiw)
    replace z10 : wr.cell? ⟨w.heap.size, 10, none⟩ = some (.slice (some ⟨bg, fg, none⟩) gl cg) := HS.out.cell z10 zz (.inr hiw)
    replace z11 : wr.cell? ⟨w.heap.size, 11, none⟩ = some (.int .i64 (k : Int)) := HS.out.cell z11 zz (.inr hiw)
    replace z12 : wr.cell? ⟨w.heap.size, 12, none⟩ = some (.int .i64 st) := HS.out.cell z12 zz (.inr hiw)
    replace z13 : wr.cell? ⟨w.heap.size, 13, none⟩ = some (.int .i64 now) := HS.out.cell z13 zz (.inr hiw)
    replace t0 := HS.out.cell t0 zb1 hbg
    replace t1 := HS.out.cell t1 zb1 hbg
    have HB1 : Hid (Stp lo hi w wr) := (Stp.of HB.out).trans HS.out
    clear q0 q1 q2 q3 q4 q5 q6
    match j, hj with
    | 0, _ =>
      have hix := idx0
      have hc := rule0_any g h c1 c2 mc mt o3 n3 c3 bg fg gl cg k i l d a p f s st now sb sf lo mid hi wr hk hgl hfl hc0 hc16 ht0 ht16 hn0 hn1 hst0 hst1 hn3 hpk hok hgm hmh hhi HO.out HP.out (by omega) t0 t1
      clear t0 t1
      have HCs := hide (fun h => rc_same (j := 0) (by decide) h : rv mc mt i l d a p f s st now sb sf k gl 0 = -1 → rc mc mt i l d a p f s st now sb sf k gl 0 = mc)
      have HTs := hide (fun h => rt_same (j := 0) (by decide) h : rv mc mt i l d a p f s st now sb sf k gl 0 = -1 → rt mc mt i l d a p f s st now sb sf k gl 0 = mt)
      obtain ⟨r, hr⟩ : ∃ q, rv mc mt i l d a p f s st now sb sf k gl 0 = q := ⟨_, rfl⟩
      obtain ⟨cR, hcR⟩ : ∃ q, rc mc mt i l d a p f s st now sb sf k gl 0 = q := ⟨_, rfl⟩
      obtain ⟨tR, htR⟩ : ∃ q, rt mc mt i l d a p f s st now sb sf k gl 0 = q := ⟨_, rfl⟩
      rw [hr, hcR, htR] at hc
      rw [hr, hcR] at HCs
      rw [hr, htR] at HTs
      have Hc := hide hc
      have HR := hide hr
      have HCR := hide hcR
      have HTR := hide htR
      clear hc hr hcR htR
      by_cases h1 : r = -1
      · subst h1
        go_wp2_with fail
        refine Hc.out.mono ?_
        rintro e w2 ⟨rfl, o1, o2, s2⟩
        have HO2 := hide o1
        have HP2 := hide o2
        have HS2 := hide s2
        clear o1 o2 s2 Hc
        go_wp2
        go_roundw
        case rel => exact ⟨1, by decide, by go_num, rfl, fun q hq => (Nat.lt_succ_iff_lt_or_eq.1 (show q < 0 + 1 from hq)).elim (HQ.out q) (fun h => (by rw [h]; exact HR.out)), (by have h := HO2.out; rw [HCs.out (by simp)] at h; exact h), (by have h := HP2.out; rw [HTs.out (by simp)] at h; exact h), HS.out.trans HS2.out⟩
        case measure => simp [intOf]
      · skip
        go_wp2_with fail
        refine Hc.out.mono ?_
        rintro e w2 ⟨rfl, o1, o2, s2⟩
        have HO2 := hide o1
        have HP2 := hide o2
        have HS2 := hide s2
        clear o1 o2 s2 Hc
        go_wp2
        go_ret
        exact ⟨0, by decide, HQ.out, by rw [HR.out]; exact h1, by rw [HR.out]; rfl, by rw [HCR.out]; exact HO2.out, by rw [HTR.out]; exact HP2.out, HB1.out.trans HS2.out⟩
    | 1, _ =>
      have hix := idx1
      have hc := rule1_any g h c1 c2 mc mt o3 n3 c3 bg fg gl cg k i l d a p f s st now sb sf lo mid hi wr hk hgl hfl hc0 hc16 ht0 ht16 hn0 hn1 hst0 hst1 hn3 hpk hok hgm hmh hhi HO.out HP.out (by omega) t0 t1
      clear t0 t1
      have HCs := hide (fun h => rc_same (j := 1) (by decide) h : rv mc mt i l d a p f s st now sb sf k gl 1 = -1 → rc mc mt i l d a p f s st now sb sf k gl 1 = mc)
      have HTs := hide (fun h => rt_same (j := 1) (by decide) h : rv mc mt i l d a p f s st now sb sf k gl 1 = -1 → rt mc mt i l d a p f s st now sb sf k gl 1 = mt)
      obtain ⟨r, hr⟩ : ∃ q, rv mc mt i l d a p f s st now sb sf k gl 1 = q := ⟨_, rfl⟩
      obtain ⟨cR, hcR⟩ : ∃ q, rc mc mt i l d a p f s st now sb sf k gl 1 = q := ⟨_, rfl⟩
      obtain ⟨tR, htR⟩ : ∃ q, rt mc mt i l d a p f s st now sb sf k gl 1 = q := ⟨_, rfl⟩
      rw [hr, hcR, htR] at hc
      rw [hr, hcR] at HCs
      rw [hr, htR] at HTs
      have Hc := hide hc
      have HR := hide hr
      have HCR := hide hcR
      have HTR := hide htR
      clear hc hr hcR htR
      by_cases h1 : r = -1
      · subst h1
        go_wp2_with fail
        refine Hc.out.mono ?_
        rintro e w2 ⟨rfl, o1, o2, s2⟩
        have HO2 := hide o1
        have HP2 := hide o2
        have HS2 := hide s2
        clear o1 o2 s2 Hc
        go_wp2
        go_roundw
        case rel => exact ⟨2, by decide, by go_num, rfl, fun q hq => (Nat.lt_succ_iff_lt_or_eq.1 (show q < 1 + 1 from hq)).elim (HQ.out q) (fun h => (by rw [h]; exact HR.out)), (by have h := HO2.out; rw [HCs.out (by simp)] at h; exact h), (by have h := HP2.out; rw [HTs.out (by simp)] at h; exact h), HS.out.trans HS2.out⟩
        case measure => simp [intOf]
      · skip
        go_wp2_with fail
        refine Hc.out.mono ?_
        rintro e w2 ⟨rfl, o1, o2, s2⟩
        have HO2 := hide o1
        have HP2 := hide o2
        have HS2 := hide s2
        clear o1 o2 s2 Hc
        go_wp2
        go_ret
        exact ⟨1, by decide, HQ.out, by rw [HR.out]; exact h1, by rw [HR.out]; rfl, by rw [HCR.out]; exact HO2.out, by rw [HTR.out]; exact HP2.out, HB1.out.trans HS2.out⟩
    | 2, _ =>
      have hix := idx2
      have hc := rule2_any g h c1 c2 mc mt o3 n3 c3 bg fg gl cg k i l d a p f s st now sb sf lo mid hi wr hk hgl hfl hc0 hc16 ht0 ht16 hn0 hn1 hst0 hst1 hn3 hpk hok hgm hmh hhi HO.out HP.out (by omega) t0 t1
      clear t0 t1
      have HCs := hide (fun h => rc_same (j := 2) (by decide) h : rv mc mt i l d a p f s st now sb sf k gl 2 = -1 → rc mc mt i l d a p f s st now sb sf k gl 2 = mc)
      have HTs := hide (fun h => rt_same (j := 2) (by decide) h : rv mc mt i l d a p f s st now sb sf k gl 2 = -1 → rt mc mt i l d a p f s st now sb sf k gl 2 = mt)
      obtain ⟨r, hr⟩ : ∃ q, rv mc mt i l d a p f s st now sb sf k gl 2 = q := ⟨_, rfl⟩
      obtain ⟨cR, hcR⟩ : ∃ q, rc mc mt i l d a p f s st now sb sf k gl 2 = q := ⟨_, rfl⟩
      obtain ⟨tR, htR⟩ : ∃ q, rt mc mt i l d a p f s st now sb sf k gl 2 = q := ⟨_, rfl⟩
      rw [hr, hcR, htR] at hc
      rw [hr, hcR] at HCs
      rw [hr, htR] at HTs
      have Hc := hide hc
      have HR := hide hr
      have HCR := hide hcR
      have HTR := hide htR
      clear hc hr hcR htR
      by_cases h1 : r = -1
      · subst h1
        go_wp2_with fail
        refine Hc.out.mono ?_
        rintro e w2 ⟨rfl, o1, o2, s2⟩
        have HO2 := hide o1
        have HP2 := hide o2
        have HS2 := hide s2
        clear o1 o2 s2 Hc
        go_wp2
        go_roundw
        case rel => exact ⟨3, by decide, by go_num, rfl, fun q hq => (Nat.lt_succ_iff_lt_or_eq.1 (show q < 2 + 1 from hq)).elim (HQ.out q) (fun h => (by rw [h]; exact HR.out)), (by have h := HO2.out; rw [HCs.out (by simp)] at h; exact h), (by have h := HP2.out; rw [HTs.out (by simp)] at h; exact h), HS.out.trans HS2.out⟩
        case measure => simp [intOf]
      · skip
        go_wp2_with fail
        refine Hc.out.mono ?_
        rintro e w2 ⟨rfl, o1, o2, s2⟩
        have HO2 := hide o1
        have HP2 := hide o2
        have HS2 := hide s2
        clear o1 o2 s2 Hc
        go_wp2
        go_ret
        exact ⟨2, by decide, HQ.out, by rw [HR.out]; exact h1, by rw [HR.out]; rfl, by rw [HCR.out]; exact HO2.out, by rw [HTR.out]; exact HP2.out, HB1.out.trans HS2.out⟩
    | 3, _ =>
      have hix := idx3
      have hc := rule3_any g h c1 c2 mc mt o3 n3 c3 bg fg gl cg k i l d a p f s st now sb sf lo mid hi wr hk hgl hfl hc0 hc16 ht0 ht16 hn0 hn1 hst0 hst1 hn3 hpk hok hgm hmh hhi HO.out HP.out (by omega) t0 t1
      clear t0 t1
      have HCs := hide (fun h => rc_same (j := 3) (by decide) h : rv mc mt i l d a p f s st now sb sf k gl 3 = -1 → rc mc mt i l d a p f s st now sb sf k gl 3 = mc)
      have HTs := hide (fun h => rt_same (j := 3) (by decide) h : rv mc mt i l d a p f s st now sb sf k gl 3 = -1 → rt mc mt i l d a p f s st now sb sf k gl 3 = mt)
      obtain ⟨r, hr⟩ : ∃ q, rv mc mt i l d a p f s st now sb sf k gl 3 = q := ⟨_, rfl⟩
      obtain ⟨cR, hcR⟩ : ∃ q, rc mc mt i l d a p f s st now sb sf k gl 3 = q := ⟨_, rfl⟩
      obtain ⟨tR, htR⟩ : ∃ q, rt mc mt i l d a p f s st now sb sf k gl 3 = q := ⟨_, rfl⟩
      rw [hr, hcR, htR] at hc
      rw [hr, hcR] at HCs
      rw [hr, htR] at HTs
      have Hc := hide hc
      have HR := hide hr
      have HCR := hide hcR
      have HTR := hide htR
      clear hc hr hcR htR
      by_cases h1 : r = -1
      · subst h1
        go_wp2_with fail
        refine Hc.out.mono ?_
        rintro e w2 ⟨rfl, o1, o2, s2⟩
        have HO2 := hide o1
        have HP2 := hide o2
        have HS2 := hide s2
        clear o1 o2 s2 Hc
        go_wp2
        go_roundw
        case rel => exact ⟨4, by decide, by go_num, rfl, fun q hq => (Nat.lt_succ_iff_lt_or_eq.1 (show q < 3 + 1 from hq)).elim (HQ.out q) (fun h => (by rw [h]; exact HR.out)), (by have h := HO2.out; rw [HCs.out (by simp)] at h; exact h), (by have h := HP2.out; rw [HTs.out (by simp)] at h; exact h), HS.out.trans HS2.out⟩
        case measure => simp [intOf]
      · skip
        go_wp2_with fail
        refine Hc.out.mono ?_
        rintro e w2 ⟨rfl, o1, o2, s2⟩
        have HO2 := hide o1
        have HP2 := hide o2
        have HS2 := hide s2
        clear o1 o2 s2 Hc
        go_wp2
        go_ret
        exact ⟨3, by decide, HQ.out, by rw [HR.out]; exact h1, by rw [HR.out]; rfl, by rw [HCR.out]; exact HO2.out, by rw [HTR.out]; exact HP2.out, HB1.out.trans HS2.out⟩
    | 4, _ =>
      have hix := idx4
      have hc := rule4_any g h c1 c2 mc mt o3 n3 c3 bg fg gl cg k i l d a p f s st now sb sf lo mid hi wr hk hgl hfl hc0 hc16 ht0 ht16 hn0 hn1 hst0 hst1 hn3 hpk hok hgm hmh hhi HO.out HP.out (by omega) t0 t1
      clear t0 t1
      have HCs := hide (fun h => rc_same (j := 4) (by decide) h : rv mc mt i l d a p f s st now sb sf k gl 4 = -1 → rc mc mt i l d a p f s st now sb sf k gl 4 = mc)
      have HTs := hide (fun h => rt_same (j := 4) (by decide) h : rv mc mt i l d a p f s st now sb sf k gl 4 = -1 → rt mc mt i l d a p f s st now sb sf k gl 4 = mt)
      obtain ⟨r, hr⟩ : ∃ q, rv mc mt i l d a p f s st now sb sf k gl 4 = q := ⟨_, rfl⟩
      obtain ⟨cR, hcR⟩ : ∃ q, rc mc mt i l d a p f s st now sb sf k gl 4 = q := ⟨_, rfl⟩
      obtain ⟨tR, htR⟩ : ∃ q, rt mc mt i l d a p f s st now sb sf k gl 4 = q := ⟨_, rfl⟩
      rw [hr, hcR, htR] at hc
      rw [hr, hcR] at HCs
      rw [hr, htR] at HTs
      have Hc := hide hc
      have HR := hide hr
      have HCR := hide hcR
      have HTR := hide htR
      clear hc hr hcR htR
      by_cases h1 : r = -1
      · subst h1
        go_wp2_with fail
        refine Hc.out.mono ?_
        rintro e w2 ⟨rfl, o1, o2, s2⟩
        have HO2 := hide o1
        have HP2 := hide o2
        have HS2 := hide s2
        clear o1 o2 s2 Hc
        go_wp2
        go_roundw
        case rel => exact ⟨5, by decide, by go_num, rfl, fun q hq => (Nat.lt_succ_iff_lt_or_eq.1 (show q < 4 + 1 from hq)).elim (HQ.out q) (fun h => (by rw [h]; exact HR.out)), (by have h := HO2.out; rw [HCs.out (by simp)] at h; exact h), (by have h := HP2.out; rw [HTs.out (by simp)] at h; exact h), HS.out.trans HS2.out⟩
        case measure => simp [intOf]
      · skip
        go_wp2_with fail
        refine Hc.out.mono ?_
        rintro e w2 ⟨rfl, o1, o2, s2⟩
        have HO2 := hide o1
        have HP2 := hide o2
        have HS2 := hide s2
        clear o1 o2 s2 Hc
        go_wp2
        go_ret
        exact ⟨4, by decide, HQ.out, by rw [HR.out]; exact h1, by rw [HR.out]; rfl, by rw [HCR.out]; exact HO2.out, by rw [HTR.out]; exact HP2.out, HB1.out.trans HS2.out⟩
    | 5, _ =>
      have hix := idx5
      have hc := rule5_any g h c1 c2 mc mt o3 n3 c3 bg fg gl cg k i l d a p f s st now sb sf lo mid hi wr hk hgl hfl hc0 hc16 ht0 ht16 hn0 hn1 hst0 hst1 hn3 hpk hok hgm hmh hhi HO.out HP.out (by omega) t0 t1
      clear t0 t1
      have HCs := hide (fun h => rc_same (j := 5) (by decide) h : rv mc mt i l d a p f s st now sb sf k gl 5 = -1 → rc mc mt i l d a p f s st now sb sf k gl 5 = mc)
      have HTs := hide (fun h => rt_same (j := 5) (by decide) h : rv mc mt i l d a p f s st now sb sf k gl 5 = -1 → rt mc mt i l d a p f s st now sb sf k gl 5 = mt)
      obtain ⟨r, hr⟩ : ∃ q, rv mc mt i l d a p f s st now sb sf k gl 5 = q := ⟨_, rfl⟩
      obtain ⟨cR, hcR⟩ : ∃ q, rc mc mt i l d a p f s st now sb sf k gl 5 = q := ⟨_, rfl⟩
      obtain ⟨tR, htR⟩ : ∃ q, rt mc mt i l d a p f s st now sb sf k gl 5 = q := ⟨_, rfl⟩
      rw [hr, hcR, htR] at hc
      rw [hr, hcR] at HCs
      rw [hr, htR] at HTs
      have Hc := hide hc
      have HR := hide hr
      have HCR := hide hcR
      have HTR := hide htR
      clear hc hr hcR htR
      by_cases h1 : r = -1
      · subst h1
        go_wp2_with fail
        refine Hc.out.mono ?_
        rintro e w2 ⟨rfl, o1, o2, s2⟩
        have HO2 := hide o1
        have HP2 := hide o2
        have HS2 := hide s2
        clear o1 o2 s2 Hc
        go_wp2
        go_roundw
        case rel => exact ⟨6, by decide, by go_num, rfl, fun q hq => (Nat.lt_succ_iff_lt_or_eq.1 (show q < 5 + 1 from hq)).elim (HQ.out q) (fun h => (by rw [h]; exact HR.out)), (by have h := HO2.out; rw [HCs.out (by simp)] at h; exact h), (by have h := HP2.out; rw [HTs.out (by simp)] at h; exact h), HS.out.trans HS2.out⟩
        case measure => simp [intOf]
      · skip
        go_wp2_with fail
        refine Hc.out.mono ?_
        rintro e w2 ⟨rfl, o1, o2, s2⟩
        have HO2 := hide o1
        have HP2 := hide o2
        have HS2 := hide s2
        clear o1 o2 s2 Hc
        go_wp2
        go_ret
        exact ⟨5, by decide, HQ.out, by rw [HR.out]; exact h1, by rw [HR.out]; rfl, by rw [HCR.out]; exact HO2.out, by rw [HTR.out]; exact HP2.out, HB1.out.trans HS2.out⟩
    | 6, _ =>
      have hix := idx6
      have hc := rule6_any g h c1 c2 mc mt o3 n3 c3 bg fg gl cg k i l d a p f s st now sb sf lo mid hi wr hk hgl hfl hc0 hc16 ht0 ht16 hn0 hn1 hst0 hst1 hn3 hpk hok hgm hmh hhi HO.out HP.out (by omega) t0 t1
      clear t0 t1
      obtain ⟨r, hr⟩ : ∃ q, rv mc mt i l d a p f s st now sb sf k gl 6 = q := ⟨_, rfl⟩
      obtain ⟨cR, hcR⟩ : ∃ q, rc mc mt i l d a p f s st now sb sf k gl 6 = q := ⟨_, rfl⟩
      obtain ⟨tR, htR⟩ : ∃ q, rt mc mt i l d a p f s st now sb sf k gl 6 = q := ⟨_, rfl⟩
      rw [hr, hcR, htR] at hc
      have Hc := hide hc
      have HR := hide hr
      have HCR := hide hcR
      have HTR := hide htR
      clear hc hr hcR htR
      obtain rfl : (1 : Int) = r := HR.out
      have h1 : ¬ ((1 : Int) = -1) := by decide
      go_wp2_with fail
      refine Hc.out.mono ?_
      rintro e w2 ⟨rfl, o1, o2, s2⟩
      have HO2 := hide o1
      have HP2 := hide o2
      have HS2 := hide s2
      clear o1 o2 s2 Hc
      go_wp2
      go_ret
      exact ⟨6, by decide, HQ.out, by rw [HR.out]; exact h1, by rw [HR.out]; rfl, by rw [HCR.out]; exact HO2.out, by rw [HTR.out]; exact HP2.out, HB1.out.trans HS2.out⟩

end Go.Proofs.YtmkgbmmibjgeaaaGreat

/- The model's Handle; what both Handles tell, in words. -/
namespace Go.Proofs.YtmkgbmmibjgeaaaGreat
open Go.ChangeShapes Go.WideShapes Go.ChangeAt Go.RowKit Go.Joins
set_option linter.unusedVariables false
set_option linter.unusedSimpArgs false

def handB (m : Am) (now a p f s : Int) (n : Nat) (gg : List (Int × Int)) (pl st : Int) : Bool := agentOkB m && (decide (0 ≤ now) && decide (now ≤ 100000)) && carrierOkB a p f s n gg pl st && decide (st ≤ now)
def hanA (m : Am) (now a p f s : Int) (gg : List (Int × Int)) (pl st : Int) : Am := { m with c := hdC m now a p f s (gg.getD pl.toNat (0, 0)).1 (gg.getD pl.toNat (0, 0)).2 pl.toNat gg.length st, t := hdT m now a p f (gg.getD pl.toNat (0, 0)).1 (gg.getD pl.toNat (0, 0)).2 pl.toNat gg.length st }
/-- What Handle tells of the agent, and its verdict. -/
def hanM (m : Am) (now a p f s : Int) (n : Nat) (gg : List (Int × Int)) (pl st : Int) : Am := if handB m now a p f s n gg pl st = true then hanA m now a p f s gg pl st else am0
def hanV (m : Am) (now a p f s : Int) (n : Nat) (gg : List (Int × Int)) (pl st : Int) : Int := if handB m now a p f s n gg pl st = true then hdV m now a p f (gg.getD pl.toNat (0, 0)).1 (gg.getD pl.toNat (0, 0)).2 pl.toNat gg.length st else -1
theorem hdC_len (m : Am) (now a p f s sb sf : Int) (k gl : Nat) (st : Int) : (hdC m now a p f s sb sf k gl st).length = m.c.length := by
  unfold hdC
  split
  · split
    · rfl
    · split
      · exact takeC_len _ _ _ _ _ _
      · split
        · exact huntC_len _ _ _ _ _ _
        · rfl
  · rfl
theorem hdT_len (m : Am) (now a p f sb sf : Int) (k gl : Nat) (st : Int) : (hdT m now a p f sb sf k gl st).length = m.t.length := by
  unfold hdT
  split
  · split
    · rfl
    · split
      · exact takeT_len _ _ _ _ _
      · split
        · exact huntT_len _ _ _ _ _
        · rfl
  · rfl
theorem hanA_lens (m : Am) (now a p f s : Int) (gg : List (Int × Int)) (pl st : Int) : (hanA m now a p f s gg pl st).c.length = m.c.length ∧ (hanA m now a p f s gg pl st).t.length = m.t.length := ⟨hdC_len _ _ _ _ _ _ _ _ _ _ _, hdT_len _ _ _ _ _ _ _ _ _ _⟩
theorem hanM_fit {m : Am} (now a p f s : Int) (n : Nat) (gg : List (Int × Int)) (pl st : Int) (h : m.c.length + m.t.length ≤ 1048576) : (hanM m now a p f s n gg pl st).c.length + (hanM m now a p f s n gg pl st).t.length ≤ 1048576 := by
  unfold hanM
  split
  · have := hanA_lens m now a p f s gg pl st; omega
  · decide
theorem carrier_facts {a p f s : Int} {n : Nat} {gg : List (Int × Int)} {pl st : Int} (h : carrierOkB a p f s n gg pl st = true) : packetOkB a p f s n = true ∧ gg.length ≤ 24 ∧ 0 ≤ pl ∧ pl < (gg.length : Int) ∧ 0 ≤ st ∧ st ≤ 100000 := by
  unfold carrierOkB at h
  have h1 := headB_iff.1 (Bool.and_eq_true_iff.1 h).1
  exact ⟨h1.1, by omega, h1.2.2.2.1, h1.2.2.2.2.1, h1.2.2.2.2.2.1, h1.2.2.2.2.2.2.1⟩
theorem packet_flow {a p f s : Int} {n : Nat} (h : packetOkB a p f s n = true) : flowOkB a p = true := (packetOkB_iff.1 h).1
theorem routeR_seg2 (op : Bool) : ∀ (gg : List (Int × Int)) (p : Int), routeR op p gg = true → ∀ i, i < gg.length → segOkB (gg.getD i (0, 0)).1 (gg.getD i (0, 0)).2 = true
  | [], p, h, i, hi => by simp at hi
  | x :: l, p, h, i, hi => by
    unfold routeR at h
    simp only [Bool.and_eq_true] at h
    cases i with
    | zero => exact h.1.1.1
    | succ i => simpa using routeR_seg2 op l x.2 h.2 i (by simpa using hi)
theorem carrier_seg6 {a p f s : Int} {n : Nat} {gg : List (Int × Int)} {pl st : Int} (h : carrierOkB a p f s n gg pl st = true) : ∀ k, k < gg.length → (gg.getD k (0, 0)).2 = 0 ∨ (gg.getD k (0, 0)).2 = 1 := by
  unfold carrierOkB at h
  exact fun k hk => segOk_two (routeR_seg2 _ gg 0 (Bool.and_eq_true_iff.1 h).2 k hk)
theorem table_flows {l : List Sl} (h : tableOkB l = true) : flowsOk l := flowsOk_of h

set_option maxRecDepth 100000 in
set_option maxHeartbeats 8000000 in
theorem specHandle_any (v : Value) (m : Am) (now a p f s : Int) (o og : Option Addr) (n cp cg : Nat) (gg : List (Int × Int)) (pl st : Int) (w : World) (hR : RdA w.heap.size w v m) (hf : m.c.length + m.t.length ≤ 1048576) (hn : n ≤ maxLen) (hgl : gg.length ≤ maxLen) (hG : RdG w og gg) :
    Calls Tryz.prog 6 #[v, .int .i64 now, crr a p f s (.slice o n cp) (.slice og gg.length cg) pl st] w fun e w' => ∃ v', e = .returned (.tuple #[v', .int .i64 (hanV m now a p f s n gg pl st)]) ∧ InA w.heap.size w'.heap.size w' v' (hanM m now a p f s n gg pl st) ∧ Below w.heap.size w w' := by
  have hR0 := hR
  obtain ⟨vc, vt, rfl, ⟨oc, cc, rfl, rc⟩, ⟨ot, ct, rfl, rt⟩⟩ := hR0
  obtain ⟨W0, hW0⟩ : ∃ W, (((w.alloc (.cells #[.int .i64 m.id, .int .i64 m.lim, .bool m.dr, .slice oc m.c.length cc, .slice ot m.t.length ct] 41)).alloc (.cells #[.int .i64 a, .int .i64 p, .int .i64 f, .int .i64 s, .slice o n cp, .slice og gg.length cg, .int .i64 pl, .int .i64 st] 50)).alloc (.cells #[.int .i64 0, .int .i64 0, .bool false, .slice none 0 0, .slice none 0 0] 41)) = W := ⟨_, rfl⟩
  have hb_W0 : Below w.heap.size w W0 := by rw [← hW0]; exact ((((Below.refl _ _).alloc (Nat.le_refl _) _).alloc (by simp <;> omega) _).alloc (by simp <;> omega) _)
  have HB := hide hb_W0
  clear hb_W0
  have zz : w.heap.size < W0.heap.size := by rw [← hW0]; simp <;> omega
  have z0 : W0.cell? ⟨w.heap.size, 0, none⟩ = some (.int .i64 m.id) := by rw [← hW0]; simp [go_sem]
  have z1 : W0.cell? ⟨w.heap.size, 1, none⟩ = some (.int .i64 m.lim) := by rw [← hW0]; simp [go_sem]
  have z2 : W0.cell? ⟨w.heap.size, 2, none⟩ = some (.bool m.dr) := by rw [← hW0]; simp [go_sem]
  have z3 : W0.cell? ⟨w.heap.size, 3, none⟩ = some (.slice oc m.c.length cc) := by rw [← hW0]; simp [go_sem]
  have z4 : W0.cell? ⟨w.heap.size, 4, none⟩ = some (.slice ot m.t.length ct) := by rw [← hW0]; simp [go_sem]
  have zu : w.heap.size + 1 < W0.heap.size := by rw [← hW0]; simp <;> omega
  have u0 : W0.cell? ⟨w.heap.size + 1, 0, none⟩ = some (.int .i64 a) := by rw [← hW0]; simp [go_sem]
  have u1 : W0.cell? ⟨w.heap.size + 1, 1, none⟩ = some (.int .i64 p) := by rw [← hW0]; simp [go_sem]
  have u2 : W0.cell? ⟨w.heap.size + 1, 2, none⟩ = some (.int .i64 f) := by rw [← hW0]; simp [go_sem]
  have u3 : W0.cell? ⟨w.heap.size + 1, 3, none⟩ = some (.int .i64 s) := by rw [← hW0]; simp [go_sem]
  have u4 : W0.cell? ⟨w.heap.size + 1, 4, none⟩ = some (.slice o n cp) := by rw [← hW0]; simp [go_sem]
  have u5 : W0.cell? ⟨w.heap.size + 1, 5, none⟩ = some (.slice og gg.length cg) := by rw [← hW0]; simp [go_sem]
  have u6 : W0.cell? ⟨w.heap.size + 1, 6, none⟩ = some (.int .i64 pl) := by rw [← hW0]; simp [go_sem]
  have u7 : W0.cell? ⟨w.heap.size + 1, 7, none⟩ = some (.int .i64 st) := by rw [← hW0]; simp [go_sem]
  have zr : w.heap.size + 1 + 1 < W0.heap.size := by rw [← hW0]; simp
  have r0 : W0.cell? ⟨w.heap.size + 1 + 1, 0, none⟩ = some (.int .i64 0) := by rw [← hW0]; simp [go_sem]
  have r1 : W0.cell? ⟨w.heap.size + 1 + 1, 1, none⟩ = some (.int .i64 0) := by rw [← hW0]; simp [go_sem]
  have r2 : W0.cell? ⟨w.heap.size + 1 + 1, 2, none⟩ = some (.bool false) := by rw [← hW0]; simp [go_sem]
  have r3 : W0.cell? ⟨w.heap.size + 1 + 1, 3, none⟩ = some (.slice none 0 0) := by rw [← hW0]; simp [go_sem]
  have r4 : W0.cell? ⟨w.heap.size + 1 + 1, 4, none⟩ = some (.slice none 0 0) := by rw [← hW0]; simp [go_sem]
  have fr0 : W0.frozen? ⟨w.heap.size + 1 + 1, 0, none⟩ = false := by rw [← hW0]; simp [go_sem]
  have fr1 : W0.frozen? ⟨w.heap.size + 1 + 1, 1, none⟩ = false := by rw [← hW0]; simp [go_sem]
  have fr2 : W0.frozen? ⟨w.heap.size + 1 + 1, 2, none⟩ = false := by rw [← hW0]; simp [go_sem]
  have fr3 : W0.frozen? ⟨w.heap.size + 1 + 1, 3, none⟩ = false := by rw [← hW0]; simp [go_sem]
  have fr4 : W0.frozen? ⟨w.heap.size + 1 + 1, 4, none⟩ = false := by rw [← hW0]; simp [go_sem]
  have hz0 := zr
  have HOK := hide (specAgentOk_sh _ m W0 ((hR.kept HB.out (Nat.le_refl _)).le HB.out.size) hf)
  have hnw := fun W => l6now_any now W
  have HCO := hide (fun W (hb : Below w.heap.size w W) => specCarrierOk_any a p f s o og n cp cg gg pl st W hn hgl (hG.kept hb))
  have HB4 := hide (show handB m now a p f s n gg pl st = (agentOkB m && (decide (0 ≤ now) && decide (now ≤ 100000)) && carrierOkB a p f s n gg pl st && decide (st ≤ now)) from rfl)
  have HHM := hide (show hanM m now a p f s n gg pl st = if handB m now a p f s n gg pl st = true then hanA m now a p f s gg pl st else am0 from rfl)
  have HHV := hide (show hanV m now a p f s n gg pl st = if handB m now a p f s n gg pl st = true then hdV m now a p f (gg.getD pl.toNat (0, 0)).1 (gg.getD pl.toNat (0, 0)).2 pl.toNat gg.length st else -1 from rfl)
  rw [HB4.out] at HHM HHV
  have HAG := hide (fun h : agentOkB m = true => And.intro (agent_pos h) (agent_tabs h))
  have HCF := hide (fun h : carrierOkB a p f s n gg pl st = true => carrier_facts h)
  have HNF := hide (fun h : (decide (0 ≤ now) && decide (now ≤ 100000)) = true => (show 0 ≤ now ∧ now ≤ 100000 by simpa using h))
  clear HB4
  have HSG := hide (fun h : carrierOkB a p f s n gg pl st = true => carrier_seg6 h)
  generalize (decide (0 ≤ now) && decide (now ≤ 100000)) = bl at *
  generalize agentOkB m = ok at *
  generalize carrierOkB a p f s n gg pl st = co at *
  have HRC := hide rc
  have HRT := hide rt
  clear rc rt
  cases ok with
  | false =>
    clear HAG HCF HNF hnw HCO
    go_enter Tryz.func6, Tryz.ntmps6
    go_wp2_with fail
    refine (HOK.out).mono ?_
    rintro e v1 ⟨rfl, hb⟩
    replace z0 := bC hb z0 zz
    replace z1 := bC hb z1 zz
    replace z2 := bC hb z2 zz
    replace z3 := bC hb z3 zz
    replace z4 := bC hb z4 zz
    replace zz := Nat.lt_of_lt_of_le zz hb.size
    replace u0 := bC hb u0 zu
    replace u1 := bC hb u1 zu
    replace u2 := bC hb u2 zu
    replace u3 := bC hb u3 zu
    replace u4 := bC hb u4 zu
    replace u5 := bC hb u5 zu
    replace u6 := bC hb u6 zu
    replace u7 := bC hb u7 zu
    replace zu := Nat.lt_of_lt_of_le zu hb.size
    replace r0 := bC hb r0 zr
    replace r1 := bC hb r1 zr
    replace r2 := bC hb r2 zr
    replace r3 := bC hb r3 zr
    replace r4 := bC hb r4 zr
    replace fr0 := bF hb fr0 zr
    replace fr1 := bF hb fr1 zr
    replace fr2 := bF hb fr2 zr
    replace fr3 := bF hb fr3 zr
    replace fr4 := bF hb fr4 zr
    replace zr := Nat.lt_of_lt_of_le zr hb.size
    replace HB := hide (HB.out.trans (hb.mono HB.out.size))
    clear hb
    go_wp2
    refine bodyPost_ret (v := .tuple #[agt 0 0 false (.slice none 0 0) (.slice none 0 0), .int .i64 (-1)]) (by simp [results, Tryz.results6, go_sem, r0, r1, r2, r3, r4]) rfl ⟨_, by rw [HHV.out, if_neg (by simp)], ?_, below_set5v HB.out (by omega) _ _ _ _ _⟩
    rw [HHM.out]
    rw [if_neg (by simp)]
    exact am0_in (by simp; omega)
  | true =>
    obtain ⟨⟨hp1, hp2⟩, ht1, ht2, hl1, hl2⟩ := HAG.out rfl
    clear HAG
    cases bl with
    | false =>
      clear HCF HNF HCO
      go_enter Tryz.func6, Tryz.ntmps6
      go_wp2_with fail
      refine (HOK.out).mono ?_
      rintro e v1 ⟨rfl, hb⟩
      replace z0 := bC hb z0 zz
      replace z1 := bC hb z1 zz
      replace z2 := bC hb z2 zz
      replace z3 := bC hb z3 zz
      replace z4 := bC hb z4 zz
      replace zz := Nat.lt_of_lt_of_le zz hb.size
      replace u0 := bC hb u0 zu
      replace u1 := bC hb u1 zu
      replace u2 := bC hb u2 zu
      replace u3 := bC hb u3 zu
      replace u4 := bC hb u4 zu
      replace u5 := bC hb u5 zu
      replace u6 := bC hb u6 zu
      replace u7 := bC hb u7 zu
      replace zu := Nat.lt_of_lt_of_le zu hb.size
      replace r0 := bC hb r0 zr
      replace r1 := bC hb r1 zr
      replace r2 := bC hb r2 zr
      replace r3 := bC hb r3 zr
      replace r4 := bC hb r4 zr
      replace fr0 := bF hb fr0 zr
      replace fr1 := bF hb fr1 zr
      replace fr2 := bF hb fr2 zr
      replace fr3 := bF hb fr3 zr
      replace fr4 := bF hb fr4 zr
      replace zr := Nat.lt_of_lt_of_le zr hb.size
      replace HB := hide (HB.out.trans (hb.mono HB.out.size))
      clear hb
      go_wp2_with fail
      refine (hnw _).mono ?_
      rintro e w9 ⟨rfl, rfl⟩
      go_wp2
      refine bodyPost_ret (v := .tuple #[agt 0 0 false (.slice none 0 0) (.slice none 0 0), .int .i64 (-1)]) (by simp [results, Tryz.results6, go_sem, r0, r1, r2, r3, r4]) rfl ⟨_, by rw [HHV.out, if_neg (by simp)], ?_, below_set5v HB.out (by omega) _ _ _ _ _⟩
      rw [HHM.out]
      rw [if_neg (by simp)]
      exact am0_in (by simp; omega)
    | true =>
      obtain ⟨hn0, hn1⟩ := HNF.out rfl
      clear HNF
      cases co with
      | false =>
        clear HCF
        go_enter Tryz.func6, Tryz.ntmps6
        go_wp2_with fail
        refine (HOK.out).mono ?_
        rintro e v1 ⟨rfl, hb⟩
        replace z0 := bC hb z0 zz
        replace z1 := bC hb z1 zz
        replace z2 := bC hb z2 zz
        replace z3 := bC hb z3 zz
        replace z4 := bC hb z4 zz
        replace zz := Nat.lt_of_lt_of_le zz hb.size
        replace u0 := bC hb u0 zu
        replace u1 := bC hb u1 zu
        replace u2 := bC hb u2 zu
        replace u3 := bC hb u3 zu
        replace u4 := bC hb u4 zu
        replace u5 := bC hb u5 zu
        replace u6 := bC hb u6 zu
        replace u7 := bC hb u7 zu
        replace zu := Nat.lt_of_lt_of_le zu hb.size
        replace r0 := bC hb r0 zr
        replace r1 := bC hb r1 zr
        replace r2 := bC hb r2 zr
        replace r3 := bC hb r3 zr
        replace r4 := bC hb r4 zr
        replace fr0 := bF hb fr0 zr
        replace fr1 := bF hb fr1 zr
        replace fr2 := bF hb fr2 zr
        replace fr3 := bF hb fr3 zr
        replace fr4 := bF hb fr4 zr
        replace zr := Nat.lt_of_lt_of_le zr hb.size
        replace HB := hide (HB.out.trans (hb.mono HB.out.size))
        clear hb
        go_wp2_with fail
        refine (hnw _).mono ?_
        rintro e w9 ⟨rfl, rfl⟩
        go_wp2_with fail
        refine (HCO.out v1 HB.out).mono ?_
        rintro e v2 ⟨rfl, hb⟩
        replace z0 := bC hb z0 zz
        replace z1 := bC hb z1 zz
        replace z2 := bC hb z2 zz
        replace z3 := bC hb z3 zz
        replace z4 := bC hb z4 zz
        replace zz := Nat.lt_of_lt_of_le zz hb.size
        replace u0 := bC hb u0 zu
        replace u1 := bC hb u1 zu
        replace u2 := bC hb u2 zu
        replace u3 := bC hb u3 zu
        replace u4 := bC hb u4 zu
        replace u5 := bC hb u5 zu
        replace u6 := bC hb u6 zu
        replace u7 := bC hb u7 zu
        replace zu := Nat.lt_of_lt_of_le zu hb.size
        replace r0 := bC hb r0 zr
        replace r1 := bC hb r1 zr
        replace r2 := bC hb r2 zr
        replace r3 := bC hb r3 zr
        replace r4 := bC hb r4 zr
        replace fr0 := bF hb fr0 zr
        replace fr1 := bF hb fr1 zr
        replace fr2 := bF hb fr2 zr
        replace fr3 := bF hb fr3 zr
        replace fr4 := bF hb fr4 zr
        replace zr := Nat.lt_of_lt_of_le zr hb.size
        replace HB := hide (HB.out.trans (hb.mono HB.out.size))
        clear hb
        go_wp2
        refine bodyPost_ret (v := .tuple #[agt 0 0 false (.slice none 0 0) (.slice none 0 0), .int .i64 (-1)]) (by simp [results, Tryz.results6, go_sem, r0, r1, r2, r3, r4]) rfl ⟨_, by rw [HHV.out, if_neg (by simp)], ?_, below_set5v HB.out (by omega) _ _ _ _ _⟩
        rw [HHM.out]
        rw [if_neg (by simp)]
        exact am0_in (by simp; omega)
      | true =>
        obtain ⟨hpk, hg24, hpl0, hpl1, hst0, hst1⟩ := HCF.out rfl
        clear HCF
        by_cases hsn : st ≤ now
        · skip
          have HVl := hide (HHV.out.trans (if_pos (by simp [hsn])))
          have HMl := hide (HHM.out.trans (if_pos (by simp [hsn])))
          clear HHV HHM
          obtain ⟨k, rfl⟩ : ∃ k : Nat, pl = (k : Int) := ⟨pl.toNat, by omega⟩
          rw [Int.toNat_natCast] at HVl
          have hk : k < gg.length := by omega
          have hfl := packet_flow hpk
          rcases hG with hG | ⟨bg, fg, rfl, zg, hcg⟩
          · subst hG; simp at hk
          obtain ⟨hs0, hs1⟩ := hcg k hk
          skip
          rcases HRC.out with hrc | ⟨bc, fc, rfl, hbc, hcc⟩
          · rw [hrc] at hp1; simp at hp1
          rcases HRT.out with hrt | ⟨bt, ft, rfl, hbt, hct⟩
          · rw [hrt] at hp2; simp at hp2
          have HC := hide hcc
          have HT := hide hct
          have HS0 := hide hs0
          have HS1 := hide hs1
          have HFO := hide (table_flows ht1)
          clear hcc hct hcg hs0 hs1 ht1 ht2 HRC HRT
          go_enter Tryz.func6, Tryz.ntmps6
          go_wp2_with fail
          refine (HOK.out).mono ?_
          rintro e v1 ⟨rfl, hb⟩
          have hs0 := hb.size
          replace z0 := bC hb z0 zz
          replace z1 := bC hb z1 zz
          replace z2 := bC hb z2 zz
          replace z3 := bC hb z3 zz
          replace z4 := bC hb z4 zz
          replace zz := Nat.lt_of_lt_of_le zz hb.size
          replace u0 := bC hb u0 zu
          replace u1 := bC hb u1 zu
          replace u2 := bC hb u2 zu
          replace u3 := bC hb u3 zu
          replace u4 := bC hb u4 zu
          replace u5 := bC hb u5 zu
          replace u6 := bC hb u6 zu
          replace u7 := bC hb u7 zu
          replace zu := Nat.lt_of_lt_of_le zu hb.size
          replace r0 := bC hb r0 zr
          replace r1 := bC hb r1 zr
          replace r2 := bC hb r2 zr
          replace r3 := bC hb r3 zr
          replace r4 := bC hb r4 zr
          replace fr0 := bF hb fr0 zr
          replace fr1 := bF hb fr1 zr
          replace fr2 := bF hb fr2 zr
          replace fr3 := bF hb fr3 zr
          replace fr4 := bF hb fr4 zr
          replace zr := Nat.lt_of_lt_of_le zr hb.size
          replace HB := hide (HB.out.trans (hb.mono HB.out.size))
          clear hb
          go_wp2_with fail
          refine (hnw _).mono ?_
          rintro e w9 ⟨rfl, rfl⟩
          go_wp2_with fail
          refine (HCO.out v1 HB.out).mono ?_
          rintro e v2 ⟨rfl, hb⟩
          have hs1 := hb.size
          clear HCO HOK
          replace z0 := bC hb z0 zz
          replace z1 := bC hb z1 zz
          replace z2 := bC hb z2 zz
          replace z3 := bC hb z3 zz
          replace z4 := bC hb z4 zz
          replace zz := Nat.lt_of_lt_of_le zz hb.size
          replace u0 := bC hb u0 zu
          replace u1 := bC hb u1 zu
          replace u2 := bC hb u2 zu
          replace u3 := bC hb u3 zu
          replace u4 := bC hb u4 zu
          replace u5 := bC hb u5 zu
          replace u6 := bC hb u6 zu
          replace u7 := bC hb u7 zu
          replace zu := Nat.lt_of_lt_of_le zu hb.size
          replace r0 := bC hb r0 zr
          replace r1 := bC hb r1 zr
          replace r2 := bC hb r2 zr
          replace r3 := bC hb r3 zr
          replace r4 := bC hb r4 zr
          replace fr0 := bF hb fr0 zr
          replace fr1 := bF hb fr1 zr
          replace fr2 := bF hb fr2 zr
          replace fr3 := bF hb fr3 zr
          replace fr4 := bF hb fr4 zr
          replace zr := Nat.lt_of_lt_of_le zr hb.size
          replace HB := hide (HB.out.trans (hb.mono HB.out.size))
          clear hb
          have hs2 := HB.out.size
          have H3 := hide (l6handle_any m bc fc cc bt ft ct now a p f s o n cp bg fg gg.length cg k (gg.getD k (0, 0)).1 (gg.getD k (0, 0)).2 st v2 hn0 hn1 hfl hp1 hl1 hp2 hl2 (by omega) (by omega) (Row.kept HC.out HB.out hbc) (Row.kept HT.out HB.out hbt) HFO.out hk (by omega) (by omega) ((HB.out.cell (p := ⟨bg, fg + k * 2, none⟩) zg).trans HS0.out) ((HB.out.cell (p := ⟨bg, fg + k * 2 + 1, none⟩) zg).trans HS1.out) hst0 hst1)
          have el1 := hdC_len m now a p f s (gg.getD k (0, 0)).1 (gg.getD k (0, 0)).2 k gg.length st
          have el2 := hdT_len m now a p f (gg.getD k (0, 0)).1 (gg.getD k (0, 0)).2 k gg.length st
          have HHA := hide (show hanA m now a p f s gg (k : Int) st = { m with c := hdC m now a p f s (gg.getD k (0, 0)).1 (gg.getD k (0, 0)).2 k gg.length st, t := hdT m now a p f (gg.getD k (0, 0)).1 (gg.getD k (0, 0)).2 k gg.length st } by unfold hanA; rw [Int.toNat_natCast])
          generalize hdC m now a p f s (gg.getD k (0, 0)).1 (gg.getD k (0, 0)).2 k gg.length st = lc at *
          generalize hdT m now a p f (gg.getD k (0, 0)).1 (gg.getD k (0, 0)).2 k gg.length st = lt at *
          generalize hdV m now a p f (gg.getD k (0, 0)).1 (gg.getD k (0, 0)).2 k gg.length st = hv at *
          have HL1 := hide el1
          have HL2 := hide el2
          clear el1 el2
          go_wp2_with fail
          refine (H3.out).mono ?_
          rintro e v3 ⟨b2, f2, c2, b3, f3, c3, rfl, hz2, hz3, hrc, hrt, hb, hq2, hq3⟩
          have HRc := hide hrc
          have HRt := hide hrt
          have hs3 := hb.size
          clear hrc hrt H3
          replace z0 := bC hb z0 zz
          replace z1 := bC hb z1 zz
          replace z2 := bC hb z2 zz
          replace z3 := bC hb z3 zz
          replace z4 := bC hb z4 zz
          replace zz := Nat.lt_of_lt_of_le zz hb.size
          replace u0 := bC hb u0 zu
          replace u1 := bC hb u1 zu
          replace u2 := bC hb u2 zu
          replace u3 := bC hb u3 zu
          replace u4 := bC hb u4 zu
          replace u5 := bC hb u5 zu
          replace u6 := bC hb u6 zu
          replace u7 := bC hb u7 zu
          replace zu := Nat.lt_of_lt_of_le zu hb.size
          replace r0 := bC hb r0 zr
          replace r1 := bC hb r1 zr
          replace r2 := bC hb r2 zr
          replace r3 := bC hb r3 zr
          replace r4 := bC hb r4 zr
          replace fr0 := bF hb fr0 zr
          replace fr1 := bF hb fr1 zr
          replace fr2 := bF hb fr2 zr
          replace fr3 := bF hb fr3 zr
          replace fr4 := bF hb fr4 zr
          replace zr := Nat.lt_of_lt_of_le zr hb.size
          replace HB := hide (HB.out.trans (hb.mono HB.out.size))
          clear hb
          obtain ⟨W3, hW3⟩ : ∃ W, (v3.alloc (.cells #[.int .i64 m.id, .int .i64 m.lim, .bool m.dr, .slice (some ⟨b2, f2, none⟩) m.c.length c2, .slice (some ⟨b3, f3, none⟩) m.t.length c3] 41)) = W := ⟨_, rfl⟩
          have hb_W3 : Below v3.heap.size v3 W3 := by rw [← hW3]; exact ((Below.refl _ _).alloc (Nat.le_refl _) _)
          replace z0 := bC hb_W3 z0 zz
          replace z1 := bC hb_W3 z1 zz
          replace z2 := bC hb_W3 z2 zz
          replace z3 := bC hb_W3 z3 zz
          replace z4 := bC hb_W3 z4 zz
          replace zz := Nat.lt_of_lt_of_le zz hb_W3.size
          replace u0 := bC hb_W3 u0 zu
          replace u1 := bC hb_W3 u1 zu
          replace u2 := bC hb_W3 u2 zu
          replace u3 := bC hb_W3 u3 zu
          replace u4 := bC hb_W3 u4 zu
          replace u5 := bC hb_W3 u5 zu
          replace u6 := bC hb_W3 u6 zu
          replace u7 := bC hb_W3 u7 zu
          replace zu := Nat.lt_of_lt_of_le zu hb_W3.size
          replace r0 := bC hb_W3 r0 zr
          replace r1 := bC hb_W3 r1 zr
          replace r2 := bC hb_W3 r2 zr
          replace r3 := bC hb_W3 r3 zr
          replace r4 := bC hb_W3 r4 zr
          replace fr0 := bF hb_W3 fr0 zr
          replace fr1 := bF hb_W3 fr1 zr
          replace fr2 := bF hb_W3 fr2 zr
          replace fr3 := bF hb_W3 fr3 zr
          replace fr4 := bF hb_W3 fr4 zr
          replace zr := Nat.lt_of_lt_of_le zr hb_W3.size
          replace HB := hide (HB.out.trans (hb_W3.mono HB.out.size))
          clear hb_W3
          have zo : v3.heap.size < W3.heap.size := by rw [← hW3]; simp
          have o0 : W3.cell? ⟨v3.heap.size, 0, none⟩ = some (.int .i64 m.id) := by rw [← hW3]; simp [go_sem]
          have o1 : W3.cell? ⟨v3.heap.size, 1, none⟩ = some (.int .i64 m.lim) := by rw [← hW3]; simp [go_sem]
          have o2 : W3.cell? ⟨v3.heap.size, 2, none⟩ = some (.bool m.dr) := by rw [← hW3]; simp [go_sem]
          have o3 : W3.cell? ⟨v3.heap.size, 3, none⟩ = some (.slice (some ⟨b2, f2, none⟩) m.c.length c2) := by rw [← hW3]; simp [go_sem]
          have o4 : W3.cell? ⟨v3.heap.size, 4, none⟩ = some (.slice (some ⟨b3, f3, none⟩) m.t.length c3) := by rw [← hW3]; simp [go_sem]
          have hb3 := (show Below v3.heap.size v3 W3 by rw [← hW3]; exact (Below.refl _ _).alloc (Nat.le_refl _) _)
          have hs4 := hb3.size
          have HR3 : Hid (RdA W3.heap.size W3 (agt m.id m.lim m.dr (.slice (some ⟨b2, f2, none⟩) m.c.length c2) (.slice (some ⟨b3, f3, none⟩) m.t.length c3)) { m with c := lc, t := lt }) := ⟨_, _, rfl, ⟨_, c2, by simp only [HL1.out], .inr ⟨b2, f2, rfl, by omega, Row.kept HRc.out hb3 hz2⟩⟩, ⟨_, c3, by simp only [HL2.out], .inr ⟨b3, f3, rfl, by omega, Row.kept HRt.out hb3 hz3⟩⟩⟩
          clear hb3 HRc HRt
          go_wp2_with fail
          refine (l6own_any _ { m with c := lc, t := lt } W3 HR3.out (by have := HL1.out; simp only; omega) (by have := HL2.out; simp only; omega) (by have := HL1.out; have := HL2.out; simp only; omega)).mono ?_
          rintro e v4 ⟨x1, rfl, hin, hb⟩
          obtain ⟨y1, y2, rfl, ⟨p1, d1, rfl, _⟩, ⟨p2, d2, rfl, _⟩⟩ := hin.rd
          have HI := hide hin
          have hs5 := hb.size
          clear hin HR3
          replace z0 := bC hb z0 zz
          replace z1 := bC hb z1 zz
          replace z2 := bC hb z2 zz
          replace z3 := bC hb z3 zz
          replace z4 := bC hb z4 zz
          replace zz := Nat.lt_of_lt_of_le zz hb.size
          replace u0 := bC hb u0 zu
          replace u1 := bC hb u1 zu
          replace u2 := bC hb u2 zu
          replace u3 := bC hb u3 zu
          replace u4 := bC hb u4 zu
          replace u5 := bC hb u5 zu
          replace u6 := bC hb u6 zu
          replace u7 := bC hb u7 zu
          replace zu := Nat.lt_of_lt_of_le zu hb.size
          replace r0 := bC hb r0 zr
          replace r1 := bC hb r1 zr
          replace r2 := bC hb r2 zr
          replace r3 := bC hb r3 zr
          replace r4 := bC hb r4 zr
          replace fr0 := bF hb fr0 zr
          replace fr1 := bF hb fr1 zr
          replace fr2 := bF hb fr2 zr
          replace fr3 := bF hb fr3 zr
          replace fr4 := bF hb fr4 zr
          replace zr := Nat.lt_of_lt_of_le zr hb.size
          replace o0 := bC hb o0 zo
          replace o1 := bC hb o1 zo
          replace o2 := bC hb o2 zo
          replace o3 := bC hb o3 zo
          replace o4 := bC hb o4 zo
          replace zo := Nat.lt_of_lt_of_le zo hb.size
          replace HB := hide (HB.out.trans (hb.mono HB.out.size))
          clear hb
          simp only at HI ⊢
          go_wp2
          refine bodyPost_ret (v := .tuple #[agt m.id m.lim m.dr (.slice p1 lc.length d1) (.slice p2 lt.length d2), .int .i64 hv]) (by simp [results, Tryz.results6, go_sem, r0, r1, r2, r3, r4]) rfl ⟨_, by rw [HVl.out], ?_, below_set5v HB.out (by omega) _ _ _ _ _⟩
          rw [HMl.out, HHA.out]
          exact (HI.out.step (stp_set5v _ (w.heap.size + 1 + 1) (.int .i64 m.id) (.int .i64 m.lim) (.bool m.dr) (.slice p1 lc.length d1) (.slice p2 lt.length d2)) (.inl (by omega))).mono (by omega) (by simp)
        · skip
          have hsn2 : st > now := by omega
          go_enter Tryz.func6, Tryz.ntmps6
          go_wp2_with fail
          refine (HOK.out).mono ?_
          rintro e v1 ⟨rfl, hb⟩
          replace z0 := bC hb z0 zz
          replace z1 := bC hb z1 zz
          replace z2 := bC hb z2 zz
          replace z3 := bC hb z3 zz
          replace z4 := bC hb z4 zz
          replace zz := Nat.lt_of_lt_of_le zz hb.size
          replace u0 := bC hb u0 zu
          replace u1 := bC hb u1 zu
          replace u2 := bC hb u2 zu
          replace u3 := bC hb u3 zu
          replace u4 := bC hb u4 zu
          replace u5 := bC hb u5 zu
          replace u6 := bC hb u6 zu
          replace u7 := bC hb u7 zu
          replace zu := Nat.lt_of_lt_of_le zu hb.size
          replace r0 := bC hb r0 zr
          replace r1 := bC hb r1 zr
          replace r2 := bC hb r2 zr
          replace r3 := bC hb r3 zr
          replace r4 := bC hb r4 zr
          replace fr0 := bF hb fr0 zr
          replace fr1 := bF hb fr1 zr
          replace fr2 := bF hb fr2 zr
          replace fr3 := bF hb fr3 zr
          replace fr4 := bF hb fr4 zr
          replace zr := Nat.lt_of_lt_of_le zr hb.size
          replace HB := hide (HB.out.trans (hb.mono HB.out.size))
          clear hb
          go_wp2_with fail
          refine (hnw _).mono ?_
          rintro e w9 ⟨rfl, rfl⟩
          go_wp2_with fail
          refine (HCO.out v1 HB.out).mono ?_
          rintro e v2 ⟨rfl, hb⟩
          replace z0 := bC hb z0 zz
          replace z1 := bC hb z1 zz
          replace z2 := bC hb z2 zz
          replace z3 := bC hb z3 zz
          replace z4 := bC hb z4 zz
          replace zz := Nat.lt_of_lt_of_le zz hb.size
          replace u0 := bC hb u0 zu
          replace u1 := bC hb u1 zu
          replace u2 := bC hb u2 zu
          replace u3 := bC hb u3 zu
          replace u4 := bC hb u4 zu
          replace u5 := bC hb u5 zu
          replace u6 := bC hb u6 zu
          replace u7 := bC hb u7 zu
          replace zu := Nat.lt_of_lt_of_le zu hb.size
          replace r0 := bC hb r0 zr
          replace r1 := bC hb r1 zr
          replace r2 := bC hb r2 zr
          replace r3 := bC hb r3 zr
          replace r4 := bC hb r4 zr
          replace fr0 := bF hb fr0 zr
          replace fr1 := bF hb fr1 zr
          replace fr2 := bF hb fr2 zr
          replace fr3 := bF hb fr3 zr
          replace fr4 := bF hb fr4 zr
          replace zr := Nat.lt_of_lt_of_le zr hb.size
          replace HB := hide (HB.out.trans (hb.mono HB.out.size))
          clear hb
          go_wp2
          refine bodyPost_ret (v := .tuple #[agt 0 0 false (.slice none 0 0) (.slice none 0 0), .int .i64 (-1)]) (by simp [results, Tryz.results6, go_sem, r0, r1, r2, r3, r4]) rfl ⟨_, by rw [HHV.out, if_neg (by simp; omega)], ?_, below_set5v HB.out (by omega) _ _ _ _ _⟩
          rw [HHM.out]
          rw [if_neg (by simp; omega)]
          exact am0_in (by simp; omega)

end Go.Proofs.YtmkgbmmibjgeaaaGreat

