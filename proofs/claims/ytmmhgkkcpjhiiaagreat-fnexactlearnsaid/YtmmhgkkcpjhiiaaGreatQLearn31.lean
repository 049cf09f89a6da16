/- The program's pool with those who serve: the newest table ahead of the others. -/
import Derived.Great.BuildSlice
import Derived.Test.YtmmhgkkcpjhiiaaGreatQLearn30
import Derived.Test.YtmmhgkkcpjhiiaaGreatQLearn23
namespace Go.Proofs.YtmmhgkkcpjhiiaaGreat
open Go.ChangeShapes Go.WideShapes Go.ChangeAt Go.RowKit Go.Joins
set_option linter.unusedVariables false
set_option linter.unusedSimpArgs false

def layT : Lay Pt := ⟨24, ptL, ptZ, fun _ => rfl⟩
theorem infoPt : (Tryz.prog.info? 310).map (fun i => (i.zero, i.size, i.bytes)) = some (some (.agg #[.bool false, .int .i64 0, .int .i64 0, .bool false, .int .i64 0, .int .i64 0, .bool false, .int .i64 0, .int .i64 0, .bool false, .int .i64 0, .int .i64 0, .bool false, .int .i64 0, .int .i64 0, .bool false, .int .i64 0, .int .i64 0, .bool false, .int .i64 0, .int .i64 0, .bool false, .int .i64 0, .int .i64 0]), 24, 192) := by kernel_rfl
theorem ptL_one (f : Pt) : ∀ u ∈ layT.cs f, u.oneCell' = true := fun v hv => by
 have hv' : v ∈ ptL f := hv
 unfold ptL at hv'
 simp only [List.mem_flatMap, layP, List.mem_cons, List.not_mem_nil, or_false] at hv'
 obtain ⟨a, _, rfl | rfl | rfl⟩ := hv' <;> rfl
theorem appT : AppOk layT 184 310 := ⟨Tryz.underlying184, ⟨_, _, infoPt, rfl, by decide⟩, by decide, ptL_one⟩
theorem fill_pt (f : Pt) (s : Nat) (z : Value) (hs : s = 24) (hz : z.cells.size = 24) : Instr.fill (fun i => some (i * s, s)) ((Array.range (1 * s)).map (z.cells[· % z.cells.size]!)) [(0, ptv f)] = some (ptA f) := by
 subst hs
 have h := Great.fill_whole (s := 24) (by decide) [ptv f] ((Array.range (1 * 24)).map (z.cells[· % z.cells.size]!)) (fun v hv => by simp at hv; subst hv; rfl) (by simp)
 simpa [ptv, Value.cells] using h
theorem wpList_one_pt {ops : Array Oper} {rest : List Oper} {o : Oper} {a : Act} {w : World} {Q : Exit → Act → World → Prop} (hgd : o.guard = none) (x : Operand) (ho : o.op = .buildSlice 184 1 #[(0, x)]) (f : Pt) (hx : a.eval x = ptv f)
  (h : wpList Tryz.prog ops Q rest (a.put o.dst (.slice (some ⟨w.heap.size, 0, none⟩) 1 1)) (w.alloc (.cells (ptA f) 310))) : wpList Tryz.prog ops Q (o :: rest) a w := by
 have hi := infoPt
 cases hq : Tryz.prog.info? 310 with
 | none => simp [hq] at hi
 | some i =>
  simp [hq] at hi
  refine wpList_buildSlice hgd _ 310 1 _ ho (ptA f) i _ Tryz.underlying184 hq hi.1 (by rw [hi.2.1]; decide) (by rw [hi.2.1]; decide) ?_ h
  simp only [List.map_toArray, List.map_cons, List.map_nil, hx]
  exact fill_pt f _ _ hi.2.1 rfl
theorem one_ownT (w : World) (f : Pt) : ownL layT 310 (w.alloc (.cells (ptA f) 310)) w.heap.size (.slice (some ⟨w.heap.size, 0, none⟩) 1 1) [f] :=
 ⟨by simp [layT, ptL_len], .inr ⟨w.heap.size, 1, ptA f, rfl, Nat.le_refl _, heap_alloc_new w _, by simp, by unfold maxLen; omega, by rw [ptA_size]; rfl, by simp [layT, ptA]; exact List.take_of_length_le (by rw [ptL_len]; exact Nat.le_refl _)⟩⟩
theorem setQ_below {C : Nat} {w W : World} {B : Nat} (h : Below C w W) (hB : C ≤ B) (x y z : Value) : Below C w (setP W B x y z) := ((h.setCell (p := ⟨B, 0, none⟩) hB _).setCell (p := ⟨B, 1, none⟩) hB _).setCell (p := ⟨B, 2, none⟩) hB _
theorem rd_take2 {C : Nat} {w : World} {o : Option Addr} {fs : List Pt} (h : RdL layT C w o fs) : RdL layT C w o (fs.take 2) := by
 rcases h with h | ⟨b, off, ho, hb, r⟩
 ·left; rw [h]; rfl
 ·refine .inr ⟨b, off, ho, hb, fun i hi j hj => ?_⟩
  have h1 : i < 2 := by simp at hi; omega
  have h2 : i < fs.length := by simp at hi; omega
  have e : (fs.take 2).getD i layT.d = fs.getD i layT.d := by simp [List.getD_eq_getElem?_getD, List.getElem?_take, h1]
  rw [e]; exact r i h2 j hj
abbrev polv (key : Int) (vb vr : Value) : Value := .agg #[.int .i64 key, vb, vr]

set_option maxRecDepth 100000 in
set_option maxHeartbeats 2000000 in
theorem with_0 (key : Int) (ob : Option Addr) (nb cb : Nat) (oR : Option Addr) (cR : Nat) (o : Option Addr) (cap : Nat) (l : List Bk) (w : World) (hG : RdL layT w.heap.size w oR ([] : List Pt)) (hc : 0 ≤ cR) (hn : oR = none → cR = 0) (hR : RdK w.heap.size w o l) (hlen : l.length ≤ 1048576) (hk : keyB key = true) (hl : backsOkB l = true) :
  Calls Tryz.prog 121 #[polv key (.slice ob nb cb) (.slice oR 0 cR), .slice o l.length cap] w fun e w' => ∃ o2 c2, e = .returned (polv key (.slice o l.length cap) (.slice o2 ((newF key l :: ([] : List Pt).take 2).length) c2)) ∧ ownL layT 310 w' w.heap.size (.slice o2 ((newF key l :: ([] : List Pt).take 2).length) c2) (newF key l :: ([] : List Pt).take 2) ∧ Below w.heap.size w w' := by
 obtain ⟨W0, hW0⟩ : ∃ W, ((w.alloc (.cells #[.int .i64 key, .slice ob nb cb, .slice oR 0 cR] 186)).alloc (.cells #[.int .i64 0, .slice none 0 0, .slice none 0 0] 186)) = W := ⟨_, rfl⟩
 have hb_W0 : Below w.heap.size w W0 := by rw [← hW0]; exact (((Below.refl _ _).alloc (Nat.le_refl _) _).alloc (by simp <;> omega) _)
 have HB := hide hb_W0
 clear hb_W0
 have zz : w.heap.size < W0.heap.size := by rw [← hW0]; simp <;> omega
 have z0 : W0.cell? ⟨w.heap.size, 0, none⟩ = some (.int .i64 key) := by rw [← hW0]; simp [go_sem]
 have z1 : W0.cell? ⟨w.heap.size, 1, none⟩ = some (.slice ob nb cb) := by rw [← hW0]; simp [go_sem]
 have z2 : W0.cell? ⟨w.heap.size, 2, none⟩ = some (.slice oR 0 cR) := by rw [← hW0]; simp [go_sem]
 have zr : w.heap.size + 1 < W0.heap.size := by rw [← hW0]; simp
 have r0 : W0.cell? ⟨w.heap.size + 1, 0, none⟩ = some (.int .i64 0) := by rw [← hW0]; simp [go_sem]
 have r1 : W0.cell? ⟨w.heap.size + 1, 1, none⟩ = some (.slice none 0 0) := by rw [← hW0]; simp [go_sem]
 have r2 : W0.cell? ⟨w.heap.size + 1, 2, none⟩ = some (.slice none 0 0) := by rw [← hW0]; simp [go_sem]
 have fr0 : W0.frozen? ⟨w.heap.size + 1, 0, none⟩ = false := by rw [← hW0]; simp [go_sem]
 have fr1 : W0.frozen? ⟨w.heap.size + 1, 1, none⟩ = false := by rw [← hW0]; simp [go_sem]
 have fr2 : W0.frozen? ⟨w.heap.size + 1, 2, none⟩ = false := by rw [← hW0]; simp [go_sem]
 have hzr := zr
 have HT := hide (newestTable_any key o cap l W0 ((hR.kept HB.out (Nat.le_refl _)).le HB.out.size) hlen hk hl)
 have HG := hide (show RdL layT w.heap.size w oR ([] : List Pt) from rd_take2 hG)
 clear hR hG hk hl
 obtain ⟨f, hf⟩ : ∃ f, newF key l = f := ⟨_, rfl⟩
 rw [hf] at HT ⊢
 clear hf
 go_enter Tryz.func121, Tryz.ntmps121
 go_wp2_with fail
 refine (HT.out).mono ?_
 rintro e v1 ⟨rfl, hb⟩
 replace z0 := bC hb z0 zz
 replace z1 := bC hb z1 zz
 replace z2 := bC hb z2 zz
 replace zz := Nat.lt_of_lt_of_le zz hb.size
 replace r0 := bC hb r0 zr
 replace r1 := bC hb r1 zr
 replace r2 := bC hb r2 zr
 replace fr0 := bF hb fr0 zr
 replace fr1 := bF hb fr1 zr
 replace fr2 := bF hb fr2 zr
 replace zr := Nat.lt_of_lt_of_le zr hb.size
 replace HB := hide (HB.out.trans (hb.mono HB.out.size))
 clear hb
 have hsz := HB.out.size
 obtain ⟨W2, hW2⟩ : ∃ W, v1.alloc (.cells (ptA f) 310) = W := ⟨_, rfl⟩
 have hb_W2 : Below v1.heap.size v1 W2 := by rw [← hW2]; exact (Below.refl _ _).alloc (Nat.le_refl _) _
 have HO := hide (show ownL layT 310 W2 v1.heap.size (.slice (some ⟨v1.heap.size, 0, none⟩) 1 1) [f] by rw [← hW2]; exact one_ownT v1 f)
 have hv2 : v1.heap.size ≤ W2.heap.size := hb_W2.size
 have hzv := zr
 replace z0 := bC hb_W2 z0 zz
 replace z1 := bC hb_W2 z1 zz
 replace z2 := bC hb_W2 z2 zz
 replace zz := Nat.lt_of_lt_of_le zz hb_W2.size
 replace r0 := bC hb_W2 r0 zr
 replace r1 := bC hb_W2 r1 zr
 replace r2 := bC hb_W2 r2 zr
 replace fr0 := bF hb_W2 fr0 zr
 replace fr1 := bF hb_W2 fr1 zr
 replace fr2 := bF hb_W2 fr2 zr
 replace zr := Nat.lt_of_lt_of_le zr hb_W2.size
 replace HB := hide (HB.out.trans (hb_W2.mono HB.out.size))
 clear hb_W2
 go_wp2_with (first | (refine wpList_one_pt rfl (.tmp 9) rfl f rfl ?_; rw [hW2]) | (at_builtin; refine wpList_append_lay appT rfl (.tmp 11) (.tmp 18) rfl v1.heap.size _ [f] rfl HO.out oR cR W2.heap.size ([] : List Pt) 0 rfl rfl hn ((HG.out.kept HB.out (Nat.le_refl _)).le HB.out.size) (by simp) hv2 ?_))
 intro v6 w6 ho6 hg6 _
 obtain ⟨o6, c6, e6, _⟩ := ownL.open (L := layT) ho6
 subst e6
 have hb6 : Below v1.heap.size W2 w6 := (Below.refl _ _).mono hv2 |>.grown hg6 hv2 (fun k h => (HO.out.lt k h).1)
 have HO6 := hide ho6
 clear ho6 hg6 HO
 replace z0 := bC hb6 z0 (show _ < _ by omega)
 replace z1 := bC hb6 z1 (show _ < _ by omega)
 replace z2 := bC hb6 z2 (show _ < _ by omega)
 replace r0 := bC hb6 r0 (show _ < _ by omega)
 replace fr0 := bF hb6 fr0 (show _ < _ by omega)
 replace r1 := bC hb6 r1 (show _ < _ by omega)
 replace fr1 := bF hb6 fr1 (show _ < _ by omega)
 replace r2 := bC hb6 r2 (show _ < _ by omega)
 replace fr2 := bF hb6 fr2 (show _ < _ by omega)
 have HB6 := hide (HB.out.trans (hb6.mono hsz))
 clear hb6 HB
 go_wp2
 refine bodyPost_ret (v := polv key (.slice o l.length cap) (.slice o6 ([f] ++ ([] : List Pt)).length c6)) (by simp [results, Tryz.results121, go_sem, r0, r1, r2]) rfl ⟨o6, c6, rfl, ?_, setQ_below HB6.out (Nat.le_succ _) _ _ _⟩
 exact own_mono (own_low (own_low (own_low HO6.out hzv 0 _) hzv 1 _) hzv 2 _) hsz

set_option maxRecDepth 100000 in
set_option maxHeartbeats 2000000 in
theorem with_1 (key : Int) (ob : Option Addr) (nb cb : Nat) (oR : Option Addr) (cR : Nat) (o : Option Addr) (cap : Nat) (l : List Bk) (w : World) (a : Pt) (hG : RdL layT w.heap.size w oR ([a] : List Pt)) (hc : 1 ≤ cR) (hn : oR = none → cR = 0) (hR : RdK w.heap.size w o l) (hlen : l.length ≤ 1048576) (hk : keyB key = true) (hl : backsOkB l = true) :
  Calls Tryz.prog 121 #[polv key (.slice ob nb cb) (.slice oR 1 cR), .slice o l.length cap] w fun e w' => ∃ o2 c2, e = .returned (polv key (.slice o l.length cap) (.slice o2 ((newF key l :: ([a] : List Pt).take 2).length) c2)) ∧ ownL layT 310 w' w.heap.size (.slice o2 ((newF key l :: ([a] : List Pt).take 2).length) c2) (newF key l :: ([a] : List Pt).take 2) ∧ Below w.heap.size w w' := by
 obtain ⟨W0, hW0⟩ : ∃ W, ((w.alloc (.cells #[.int .i64 key, .slice ob nb cb, .slice oR 1 cR] 186)).alloc (.cells #[.int .i64 0, .slice none 0 0, .slice none 0 0] 186)) = W := ⟨_, rfl⟩
 have hb_W0 : Below w.heap.size w W0 := by rw [← hW0]; exact (((Below.refl _ _).alloc (Nat.le_refl _) _).alloc (by simp <;> omega) _)
 have HB := hide hb_W0
 clear hb_W0
 have zz : w.heap.size < W0.heap.size := by rw [← hW0]; simp <;> omega
 have z0 : W0.cell? ⟨w.heap.size, 0, none⟩ = some (.int .i64 key) := by rw [← hW0]; simp [go_sem]
 have z1 : W0.cell? ⟨w.heap.size, 1, none⟩ = some (.slice ob nb cb) := by rw [← hW0]; simp [go_sem]
 have z2 : W0.cell? ⟨w.heap.size, 2, none⟩ = some (.slice oR 1 cR) := by rw [← hW0]; simp [go_sem]
 have zr : w.heap.size + 1 < W0.heap.size := by rw [← hW0]; simp
 have r0 : W0.cell? ⟨w.heap.size + 1, 0, none⟩ = some (.int .i64 0) := by rw [← hW0]; simp [go_sem]
 have r1 : W0.cell? ⟨w.heap.size + 1, 1, none⟩ = some (.slice none 0 0) := by rw [← hW0]; simp [go_sem]
 have r2 : W0.cell? ⟨w.heap.size + 1, 2, none⟩ = some (.slice none 0 0) := by rw [← hW0]; simp [go_sem]
 have fr0 : W0.frozen? ⟨w.heap.size + 1, 0, none⟩ = false := by rw [← hW0]; simp [go_sem]
 have fr1 : W0.frozen? ⟨w.heap.size + 1, 1, none⟩ = false := by rw [← hW0]; simp [go_sem]
 have fr2 : W0.frozen? ⟨w.heap.size + 1, 2, none⟩ = false := by rw [← hW0]; simp [go_sem]
 have hzr := zr
 have HT := hide (newestTable_any key o cap l W0 ((hR.kept HB.out (Nat.le_refl _)).le HB.out.size) hlen hk hl)
 have HG := hide (show RdL layT w.heap.size w oR ([a] : List Pt) from rd_take2 hG)
 clear hR hG hk hl
 obtain ⟨f, hf⟩ : ∃ f, newF key l = f := ⟨_, rfl⟩
 rw [hf] at HT ⊢
 clear hf
 go_enter Tryz.func121, Tryz.ntmps121
 go_wp2_with fail
 refine (HT.out).mono ?_
 rintro e v1 ⟨rfl, hb⟩
 replace z0 := bC hb z0 zz
 replace z1 := bC hb z1 zz
 replace z2 := bC hb z2 zz
 replace zz := Nat.lt_of_lt_of_le zz hb.size
 replace r0 := bC hb r0 zr
 replace r1 := bC hb r1 zr
 replace r2 := bC hb r2 zr
 replace fr0 := bF hb fr0 zr
 replace fr1 := bF hb fr1 zr
 replace fr2 := bF hb fr2 zr
 replace zr := Nat.lt_of_lt_of_le zr hb.size
 replace HB := hide (HB.out.trans (hb.mono HB.out.size))
 clear hb
 have hsz := HB.out.size
 obtain ⟨W2, hW2⟩ : ∃ W, v1.alloc (.cells (ptA f) 310) = W := ⟨_, rfl⟩
 have hb_W2 : Below v1.heap.size v1 W2 := by rw [← hW2]; exact (Below.refl _ _).alloc (Nat.le_refl _) _
 have HO := hide (show ownL layT 310 W2 v1.heap.size (.slice (some ⟨v1.heap.size, 0, none⟩) 1 1) [f] by rw [← hW2]; exact one_ownT v1 f)
 have hv2 : v1.heap.size ≤ W2.heap.size := hb_W2.size
 have hzv := zr
 replace z0 := bC hb_W2 z0 zz
 replace z1 := bC hb_W2 z1 zz
 replace z2 := bC hb_W2 z2 zz
 replace zz := Nat.lt_of_lt_of_le zz hb_W2.size
 replace r0 := bC hb_W2 r0 zr
 replace r1 := bC hb_W2 r1 zr
 replace r2 := bC hb_W2 r2 zr
 replace fr0 := bF hb_W2 fr0 zr
 replace fr1 := bF hb_W2 fr1 zr
 replace fr2 := bF hb_W2 fr2 zr
 replace zr := Nat.lt_of_lt_of_le zr hb_W2.size
 replace HB := hide (HB.out.trans (hb_W2.mono HB.out.size))
 clear hb_W2
 go_wp2_with (first | (refine wpList_one_pt rfl (.tmp 9) rfl f rfl ?_; rw [hW2]) | (at_builtin; refine wpList_append_lay appT rfl (.tmp 11) (.tmp 18) rfl v1.heap.size _ [f] rfl HO.out oR cR W2.heap.size ([a] : List Pt) 1 rfl rfl hn ((HG.out.kept HB.out (Nat.le_refl _)).le HB.out.size) (by simp) hv2 ?_))
 intro v6 w6 ho6 hg6 _
 obtain ⟨o6, c6, e6, _⟩ := ownL.open (L := layT) ho6
 subst e6
 have hb6 : Below v1.heap.size W2 w6 := (Below.refl _ _).mono hv2 |>.grown hg6 hv2 (fun k h => (HO.out.lt k h).1)
 have HO6 := hide ho6
 clear ho6 hg6 HO
 replace z0 := bC hb6 z0 (show _ < _ by omega)
 replace z1 := bC hb6 z1 (show _ < _ by omega)
 replace z2 := bC hb6 z2 (show _ < _ by omega)
 replace r0 := bC hb6 r0 (show _ < _ by omega)
 replace fr0 := bF hb6 fr0 (show _ < _ by omega)
 replace r1 := bC hb6 r1 (show _ < _ by omega)
 replace fr1 := bF hb6 fr1 (show _ < _ by omega)
 replace r2 := bC hb6 r2 (show _ < _ by omega)
 replace fr2 := bF hb6 fr2 (show _ < _ by omega)
 have HB6 := hide (HB.out.trans (hb6.mono hsz))
 clear hb6 HB
 go_wp2
 refine bodyPost_ret (v := polv key (.slice o l.length cap) (.slice o6 ([f] ++ ([a] : List Pt)).length c6)) (by simp [results, Tryz.results121, go_sem, r0, r1, r2]) rfl ⟨o6, c6, rfl, ?_, setQ_below HB6.out (Nat.le_succ _) _ _ _⟩
 exact own_mono (own_low (own_low (own_low HO6.out hzv 0 _) hzv 1 _) hzv 2 _) hsz

set_option maxRecDepth 100000 in
set_option maxHeartbeats 2000000 in
theorem with_2 (key : Int) (ob : Option Addr) (nb cb : Nat) (oR : Option Addr) (cR : Nat) (o : Option Addr) (cap : Nat) (l : List Bk) (w : World) (a b : Pt) (hG : RdL layT w.heap.size w oR ([a, b] : List Pt)) (hc : 2 ≤ cR) (hn : oR = none → cR = 0) (hR : RdK w.heap.size w o l) (hlen : l.length ≤ 1048576) (hk : keyB key = true) (hl : backsOkB l = true) :
  Calls Tryz.prog 121 #[polv key (.slice ob nb cb) (.slice oR 2 cR), .slice o l.length cap] w fun e w' => ∃ o2 c2, e = .returned (polv key (.slice o l.length cap) (.slice o2 ((newF key l :: ([a, b] : List Pt).take 2).length) c2)) ∧ ownL layT 310 w' w.heap.size (.slice o2 ((newF key l :: ([a, b] : List Pt).take 2).length) c2) (newF key l :: ([a, b] : List Pt).take 2) ∧ Below w.heap.size w w' := by
 obtain ⟨W0, hW0⟩ : ∃ W, ((w.alloc (.cells #[.int .i64 key, .slice ob nb cb, .slice oR 2 cR] 186)).alloc (.cells #[.int .i64 0, .slice none 0 0, .slice none 0 0] 186)) = W := ⟨_, rfl⟩
 have hb_W0 : Below w.heap.size w W0 := by rw [← hW0]; exact (((Below.refl _ _).alloc (Nat.le_refl _) _).alloc (by simp <;> omega) _)
 have HB := hide hb_W0
 clear hb_W0
 have zz : w.heap.size < W0.heap.size := by rw [← hW0]; simp <;> omega
 have z0 : W0.cell? ⟨w.heap.size, 0, none⟩ = some (.int .i64 key) := by rw [← hW0]; simp [go_sem]
 have z1 : W0.cell? ⟨w.heap.size, 1, none⟩ = some (.slice ob nb cb) := by rw [← hW0]; simp [go_sem]
 have z2 : W0.cell? ⟨w.heap.size, 2, none⟩ = some (.slice oR 2 cR) := by rw [← hW0]; simp [go_sem]
 have zr : w.heap.size + 1 < W0.heap.size := by rw [← hW0]; simp
 have r0 : W0.cell? ⟨w.heap.size + 1, 0, none⟩ = some (.int .i64 0) := by rw [← hW0]; simp [go_sem]
 have r1 : W0.cell? ⟨w.heap.size + 1, 1, none⟩ = some (.slice none 0 0) := by rw [← hW0]; simp [go_sem]
 have r2 : W0.cell? ⟨w.heap.size + 1, 2, none⟩ = some (.slice none 0 0) := by rw [← hW0]; simp [go_sem]
 have fr0 : W0.frozen? ⟨w.heap.size + 1, 0, none⟩ = false := by rw [← hW0]; simp [go_sem]
 have fr1 : W0.frozen? ⟨w.heap.size + 1, 1, none⟩ = false := by rw [← hW0]; simp [go_sem]
 have fr2 : W0.frozen? ⟨w.heap.size + 1, 2, none⟩ = false := by rw [← hW0]; simp [go_sem]
 have hzr := zr
 have HT := hide (newestTable_any key o cap l W0 ((hR.kept HB.out (Nat.le_refl _)).le HB.out.size) hlen hk hl)
 have HG := hide (show RdL layT w.heap.size w oR ([a, b] : List Pt) from rd_take2 hG)
 clear hR hG hk hl
 obtain ⟨f, hf⟩ : ∃ f, newF key l = f := ⟨_, rfl⟩
 rw [hf] at HT ⊢
 clear hf
 go_enter Tryz.func121, Tryz.ntmps121
 go_wp2_with fail
 refine (HT.out).mono ?_
 rintro e v1 ⟨rfl, hb⟩
 replace z0 := bC hb z0 zz
 replace z1 := bC hb z1 zz
 replace z2 := bC hb z2 zz
 replace zz := Nat.lt_of_lt_of_le zz hb.size
 replace r0 := bC hb r0 zr
 replace r1 := bC hb r1 zr
 replace r2 := bC hb r2 zr
 replace fr0 := bF hb fr0 zr
 replace fr1 := bF hb fr1 zr
 replace fr2 := bF hb fr2 zr
 replace zr := Nat.lt_of_lt_of_le zr hb.size
 replace HB := hide (HB.out.trans (hb.mono HB.out.size))
 clear hb
 have hsz := HB.out.size
 obtain ⟨W2, hW2⟩ : ∃ W, v1.alloc (.cells (ptA f) 310) = W := ⟨_, rfl⟩
 have hb_W2 : Below v1.heap.size v1 W2 := by rw [← hW2]; exact (Below.refl _ _).alloc (Nat.le_refl _) _
 have HO := hide (show ownL layT 310 W2 v1.heap.size (.slice (some ⟨v1.heap.size, 0, none⟩) 1 1) [f] by rw [← hW2]; exact one_ownT v1 f)
 have hv2 : v1.heap.size ≤ W2.heap.size := hb_W2.size
 have hzv := zr
 replace z0 := bC hb_W2 z0 zz
 replace z1 := bC hb_W2 z1 zz
 replace z2 := bC hb_W2 z2 zz
 replace zz := Nat.lt_of_lt_of_le zz hb_W2.size
 replace r0 := bC hb_W2 r0 zr
 replace r1 := bC hb_W2 r1 zr
 replace r2 := bC hb_W2 r2 zr
 replace fr0 := bF hb_W2 fr0 zr
 replace fr1 := bF hb_W2 fr1 zr
 replace fr2 := bF hb_W2 fr2 zr
 replace zr := Nat.lt_of_lt_of_le zr hb_W2.size
 replace HB := hide (HB.out.trans (hb_W2.mono HB.out.size))
 clear hb_W2
 go_wp2_with (first | (refine wpList_one_pt rfl (.tmp 9) rfl f rfl ?_; rw [hW2]) | (at_builtin; refine wpList_append_lay appT rfl (.tmp 11) (.tmp 18) rfl v1.heap.size _ [f] rfl HO.out oR cR W2.heap.size ([a, b] : List Pt) 2 rfl rfl hn ((HG.out.kept HB.out (Nat.le_refl _)).le HB.out.size) (by simp) hv2 ?_))
 intro v6 w6 ho6 hg6 _
 obtain ⟨o6, c6, e6, _⟩ := ownL.open (L := layT) ho6
 subst e6
 have hb6 : Below v1.heap.size W2 w6 := (Below.refl _ _).mono hv2 |>.grown hg6 hv2 (fun k h => (HO.out.lt k h).1)
 have HO6 := hide ho6
 clear ho6 hg6 HO
 replace z0 := bC hb6 z0 (show _ < _ by omega)
 replace z1 := bC hb6 z1 (show _ < _ by omega)
 replace z2 := bC hb6 z2 (show _ < _ by omega)
 replace r0 := bC hb6 r0 (show _ < _ by omega)
 replace fr0 := bF hb6 fr0 (show _ < _ by omega)
 replace r1 := bC hb6 r1 (show _ < _ by omega)
 replace fr1 := bF hb6 fr1 (show _ < _ by omega)
 replace r2 := bC hb6 r2 (show _ < _ by omega)
 replace fr2 := bF hb6 fr2 (show _ < _ by omega)
 have HB6 := hide (HB.out.trans (hb6.mono hsz))
 clear hb6 HB
 go_wp2
 refine bodyPost_ret (v := polv key (.slice o l.length cap) (.slice o6 ([f] ++ ([a, b] : List Pt)).length c6)) (by simp [results, Tryz.results121, go_sem, r0, r1, r2]) rfl ⟨o6, c6, rfl, ?_, setQ_below HB6.out (Nat.le_succ _) _ _ _⟩
 exact own_mono (own_low (own_low (own_low HO6.out hzv 0 _) hzv 1 _) hzv 2 _) hsz

set_option maxRecDepth 100000 in
set_option maxHeartbeats 2000000 in
theorem with_3 (key : Int) (ob : Option Addr) (nb cb : Nat) (oR : Option Addr) (cR : Nat) (o : Option Addr) (cap : Nat) (l : List Bk) (w : World) (a b c : Pt) (hG : RdL layT w.heap.size w oR ([a, b, c] : List Pt)) (hc : 3 ≤ cR) (hn : oR = none → cR = 0) (hR : RdK w.heap.size w o l) (hlen : l.length ≤ 1048576) (hk : keyB key = true) (hl : backsOkB l = true) :
  Calls Tryz.prog 121 #[polv key (.slice ob nb cb) (.slice oR 3 cR), .slice o l.length cap] w fun e w' => ∃ o2 c2, e = .returned (polv key (.slice o l.length cap) (.slice o2 ((newF key l :: ([a, b, c] : List Pt).take 2).length) c2)) ∧ ownL layT 310 w' w.heap.size (.slice o2 ((newF key l :: ([a, b, c] : List Pt).take 2).length) c2) (newF key l :: ([a, b, c] : List Pt).take 2) ∧ Below w.heap.size w w' := by
 obtain ⟨W0, hW0⟩ : ∃ W, ((w.alloc (.cells #[.int .i64 key, .slice ob nb cb, .slice oR 3 cR] 186)).alloc (.cells #[.int .i64 0, .slice none 0 0, .slice none 0 0] 186)) = W := ⟨_, rfl⟩
 have hb_W0 : Below w.heap.size w W0 := by rw [← hW0]; exact (((Below.refl _ _).alloc (Nat.le_refl _) _).alloc (by simp <;> omega) _)
 have HB := hide hb_W0
 clear hb_W0
 have zz : w.heap.size < W0.heap.size := by rw [← hW0]; simp <;> omega
 have z0 : W0.cell? ⟨w.heap.size, 0, none⟩ = some (.int .i64 key) := by rw [← hW0]; simp [go_sem]
 have z1 : W0.cell? ⟨w.heap.size, 1, none⟩ = some (.slice ob nb cb) := by rw [← hW0]; simp [go_sem]
 have z2 : W0.cell? ⟨w.heap.size, 2, none⟩ = some (.slice oR 3 cR) := by rw [← hW0]; simp [go_sem]
 have zr : w.heap.size + 1 < W0.heap.size := by rw [← hW0]; simp
 have r0 : W0.cell? ⟨w.heap.size + 1, 0, none⟩ = some (.int .i64 0) := by rw [← hW0]; simp [go_sem]
 have r1 : W0.cell? ⟨w.heap.size + 1, 1, none⟩ = some (.slice none 0 0) := by rw [← hW0]; simp [go_sem]
 have r2 : W0.cell? ⟨w.heap.size + 1, 2, none⟩ = some (.slice none 0 0) := by rw [← hW0]; simp [go_sem]
 have fr0 : W0.frozen? ⟨w.heap.size + 1, 0, none⟩ = false := by rw [← hW0]; simp [go_sem]
 have fr1 : W0.frozen? ⟨w.heap.size + 1, 1, none⟩ = false := by rw [← hW0]; simp [go_sem]
 have fr2 : W0.frozen? ⟨w.heap.size + 1, 2, none⟩ = false := by rw [← hW0]; simp [go_sem]
 have hzr := zr
 have HT := hide (newestTable_any key o cap l W0 ((hR.kept HB.out (Nat.le_refl _)).le HB.out.size) hlen hk hl)
 have HG := hide (show RdL layT w.heap.size w oR ([a, b] : List Pt) from rd_take2 hG)
 clear hR hG hk hl
 obtain ⟨f, hf⟩ : ∃ f, newF key l = f := ⟨_, rfl⟩
 rw [hf] at HT ⊢
 clear hf
 go_enter Tryz.func121, Tryz.ntmps121
 go_wp2_with fail
 refine (HT.out).mono ?_
 rintro e v1 ⟨rfl, hb⟩
 replace z0 := bC hb z0 zz
 replace z1 := bC hb z1 zz
 replace z2 := bC hb z2 zz
 replace zz := Nat.lt_of_lt_of_le zz hb.size
 replace r0 := bC hb r0 zr
 replace r1 := bC hb r1 zr
 replace r2 := bC hb r2 zr
 replace fr0 := bF hb fr0 zr
 replace fr1 := bF hb fr1 zr
 replace fr2 := bF hb fr2 zr
 replace zr := Nat.lt_of_lt_of_le zr hb.size
 replace HB := hide (HB.out.trans (hb.mono HB.out.size))
 clear hb
 have hsz := HB.out.size
 obtain ⟨W2, hW2⟩ : ∃ W, v1.alloc (.cells (ptA f) 310) = W := ⟨_, rfl⟩
 have hb_W2 : Below v1.heap.size v1 W2 := by rw [← hW2]; exact (Below.refl _ _).alloc (Nat.le_refl _) _
 have HO := hide (show ownL layT 310 W2 v1.heap.size (.slice (some ⟨v1.heap.size, 0, none⟩) 1 1) [f] by rw [← hW2]; exact one_ownT v1 f)
 have hv2 : v1.heap.size ≤ W2.heap.size := hb_W2.size
 have hzv := zr
 replace z0 := bC hb_W2 z0 zz
 replace z1 := bC hb_W2 z1 zz
 replace z2 := bC hb_W2 z2 zz
 replace zz := Nat.lt_of_lt_of_le zz hb_W2.size
 replace r0 := bC hb_W2 r0 zr
 replace r1 := bC hb_W2 r1 zr
 replace r2 := bC hb_W2 r2 zr
 replace fr0 := bF hb_W2 fr0 zr
 replace fr1 := bF hb_W2 fr1 zr
 replace fr2 := bF hb_W2 fr2 zr
 replace zr := Nat.lt_of_lt_of_le zr hb_W2.size
 replace HB := hide (HB.out.trans (hb_W2.mono HB.out.size))
 clear hb_W2
 go_wp2_with (first | (refine wpList_one_pt rfl (.tmp 9) rfl f rfl ?_; rw [hW2]) | (at_builtin; refine wpList_append_lay appT rfl (.tmp 11) (.tmp 18) rfl v1.heap.size _ [f] rfl HO.out oR cR W2.heap.size ([a, b] : List Pt) 2 rfl rfl hn ((HG.out.kept HB.out (Nat.le_refl _)).le HB.out.size) (by simp) hv2 ?_))
 intro v6 w6 ho6 hg6 _
 obtain ⟨o6, c6, e6, _⟩ := ownL.open (L := layT) ho6
 subst e6
 have hb6 : Below v1.heap.size W2 w6 := (Below.refl _ _).mono hv2 |>.grown hg6 hv2 (fun k h => (HO.out.lt k h).1)
 have HO6 := hide ho6
 clear ho6 hg6 HO
 replace z0 := bC hb6 z0 (show _ < _ by omega)
 replace z1 := bC hb6 z1 (show _ < _ by omega)
 replace z2 := bC hb6 z2 (show _ < _ by omega)
 replace r0 := bC hb6 r0 (show _ < _ by omega)
 replace fr0 := bF hb6 fr0 (show _ < _ by omega)
 replace r1 := bC hb6 r1 (show _ < _ by omega)
 replace fr1 := bF hb6 fr1 (show _ < _ by omega)
 replace r2 := bC hb6 r2 (show _ < _ by omega)
 replace fr2 := bF hb6 fr2 (show _ < _ by omega)
 have HB6 := hide (HB.out.trans (hb6.mono hsz))
 clear hb6 HB
 go_wp2
 refine bodyPost_ret (v := polv key (.slice o l.length cap) (.slice o6 ([f] ++ ([a, b] : List Pt)).length c6)) (by simp [results, Tryz.results121, go_sem, r0, r1, r2]) rfl ⟨o6, c6, rfl, ?_, setQ_below HB6.out (Nat.le_succ _) _ _ _⟩
 exact own_mono (own_low (own_low (own_low HO6.out hzv 0 _) hzv 1 _) hzv 2 _) hsz

theorem with_any (key : Int) (ob : Option Addr) (nb cb : Nat) (oR : Option Addr) (cR : Nat) (o : Option Addr) (cap : Nat) (l : List Bk) (w : World) (fs : List Pt) (hf3 : fs.length ≤ 3) (hG : RdL layT w.heap.size w oR fs) (hc : fs.length ≤ cR) (hn : oR = none → cR = 0) (hR : RdK w.heap.size w o l) (hlen : l.length ≤ 1048576) (hk : keyB key = true) (hl : backsOkB l = true) :
  Calls Tryz.prog 121 #[polv key (.slice ob nb cb) (.slice oR fs.length cR), .slice o l.length cap] w fun e w' => ∃ o2 c2, e = .returned (polv key (.slice o l.length cap) (.slice o2 ((newF key l :: fs.take 2).length) c2)) ∧ ownL layT 310 w' w.heap.size (.slice o2 ((newF key l :: fs.take 2).length) c2) (newF key l :: fs.take 2) ∧ Below w.heap.size w w' := by
 match fs, hf3 with
 | [], _ => exact with_0 key ob nb cb oR cR o cap l w hG hc hn hR hlen hk hl
 | [a], _ => exact with_1 key ob nb cb oR cR o cap l w a hG hc hn hR hlen hk hl
 | [a, b], _ => exact with_2 key ob nb cb oR cR o cap l w a b hG hc hn hR hlen hk hl
 | [a, b, c], _ => exact with_3 key ob nb cb oR cR o cap l w a b c hG hc hn hR hlen hk hl

end Go.Proofs.YtmmhgkkcpjhiiaaGreat

