/- Several texts in one: SL4b, SJS, SJCut, SJR0, SSum, LBytes, LMark, ShB, SJR2. -/
import Derived.Test.YtflakpmcgopdaaaSL4
import Derived.Deep.RegionHeld3
import Derived.Deep.CutRange
import Derived.Test.YtflakpmcgopdaaaSTurns
import Derived.Test.YtflakpmcgopdaaaBytes
import Derived.Test.YtflakpmcgopdaaaBits
import Derived.Test.YtflakpmcgopdaaaFr
/- The model's way with a command to a pool, whatever it is; a new pool. -/
namespace Go.Proofs.Ytflakpmcgopdaaa
open Go.ChangeShapes Go.WideShapes Go.ChangeAt Go.RowKit Go.Joins
set_option linter.unusedVariables false
set_option linter.unusedSimpArgs false


set_option maxRecDepth 100000 in
set_option maxHeartbeats 4000000 in
theorem l4do_no (key : Int) (o : Option Addr) (cap : Nat) (l : List Bk) (oR : Option Addr) (nR cR : Nat) (k i g : Int) (w : World) (hl : backsOkB l = true) (hm : doL l k i g = none) (hlen : l.length ≤ 100) (hR : RdK w.heap.size w o l) :
    Calls Try.prog 88 #[plv key (.slice o l.length cap) (.slice oR nR cR), cmd k i g] w fun e w' => e = .returned (.tuple #[plv key (.slice o l.length cap) (.slice oR nR cR), .bool false]) ∧ Below w.heap.size w w' := by
  have hth : thereB l i = (k == 0) := by
    unfold doL at hm
    split at hm
    · assumption
    · cases hm
  obtain ⟨W0, hW0⟩ : ∃ W, (((w.alloc (.cells #[.int .i64 key, .slice o l.length cap, .slice oR nR cR] 26)).alloc (.cells #[.int .i64 k, .int .i64 i, .int .i64 g] 28)).alloc (.cells #[.int .i64 0, .slice none 0 0, .slice none 0 0] 26)) = W := ⟨_, rfl⟩
  have hb_W0 : Below w.heap.size w W0 := by rw [← hW0]; exact ((((Below.refl _ _).alloc (Nat.le_refl _) _).alloc (by simp <;> omega) _).alloc (by simp <;> omega) _)
  have HB := hide hb_W0
  clear hb_W0
  have zz : w.heap.size < W0.heap.size := by rw [← hW0]; simp <;> omega
  have z0 : W0.cell? ⟨w.heap.size, 0, none⟩ = some (.int .i64 key) := by rw [← hW0]; simp [go_sem]
  have z1 : W0.cell? ⟨w.heap.size, 1, none⟩ = some (.slice o l.length cap) := by rw [← hW0]; simp [go_sem]
  have z2 : W0.cell? ⟨w.heap.size, 2, none⟩ = some (.slice oR nR cR) := by rw [← hW0]; simp [go_sem]
  have zu : w.heap.size + 1 < W0.heap.size := by rw [← hW0]; simp <;> omega
  have u0 : W0.cell? ⟨w.heap.size + 1, 0, none⟩ = some (.int .i64 k) := by rw [← hW0]; simp [go_sem]
  have u1 : W0.cell? ⟨w.heap.size + 1, 1, none⟩ = some (.int .i64 i) := by rw [← hW0]; simp [go_sem]
  have u2 : W0.cell? ⟨w.heap.size + 1, 2, none⟩ = some (.int .i64 g) := by rw [← hW0]; simp [go_sem]
  have zr : w.heap.size + 1 + 1 < W0.heap.size := by rw [← hW0]; simp
  have r0 : W0.cell? ⟨w.heap.size + 1 + 1, 0, none⟩ = some (.int .i64 0) := by rw [← hW0]; simp [go_sem]
  have r1 : W0.cell? ⟨w.heap.size + 1 + 1, 1, none⟩ = some (.slice none 0 0) := by rw [← hW0]; simp [go_sem]
  have r2 : W0.cell? ⟨w.heap.size + 1 + 1, 2, none⟩ = some (.slice none 0 0) := by rw [← hW0]; simp [go_sem]
  have fr0 : W0.frozen? ⟨w.heap.size + 1 + 1, 0, none⟩ = false := by rw [← hW0]; simp [go_sem]
  have fr1 : W0.frozen? ⟨w.heap.size + 1 + 1, 1, none⟩ = false := by rw [← hW0]; simp [go_sem]
  have fr2 : W0.frozen? ⟨w.heap.size + 1 + 1, 2, none⟩ = false := by rw [← hW0]; simp [go_sem]
  have HF := hide (l4find_any o cap l i W0 ((hR.kept HB.out (Nat.le_refl _)).le HB.out.size) (by omega) hl)
  clear hR hm
  by_cases h0 : k = 0
  · subst h0
    have h1 : thereB l i = true := hth
    rw [find_yes h1] at HF
    have hge : (0 : Int) ≤ (placeN l i : Int) := by omega
    clear hth h1
    generalize placeN l i = pl at *
    go_enter Try.func88, Try.ntmps88
    go_wp2_with fail
    refine HF.out.mono ?_
    rintro e w9 ⟨rfl, rfl⟩
    go_wp2
    refine bodyPost_ret (v := .tuple #[plv key (.slice o l.length cap) (.slice oR nR cR), .bool false]) (by simp [results, Try.results88, go_sem, r0, r1, r2]) rfl ⟨rfl, ?_⟩
    exact ((HB.out.setCell (p := ⟨w.heap.size + 1 + 1, 0, none⟩) (by (try simp) <;> omega) _).setCell (p := ⟨w.heap.size + 1 + 1, 1, none⟩) (by (try simp) <;> omega) _).setCell (p := ⟨w.heap.size + 1 + 1, 2, none⟩) (by (try simp) <;> omega) _
  · have h0' : (k == 0) = false := beq_eq_false_iff_ne.2 h0
    rw [h0'] at hth
    rw [find_no hth] at HF
    clear hth
    go_enter Try.func88, Try.ntmps88
    go_wp2_with fail
    refine HF.out.mono ?_
    rintro e w9 ⟨rfl, rfl⟩
    go_wp2
    refine bodyPost_ret (v := .tuple #[plv key (.slice o l.length cap) (.slice oR nR cR), .bool false]) (by simp [results, Try.results88, go_sem, r0, r1, r2]) rfl ⟨rfl, ?_⟩
    exact ((HB.out.setCell (p := ⟨w.heap.size + 1 + 1, 0, none⟩) (by (try simp) <;> omega) _).setCell (p := ⟨w.heap.size + 1 + 1, 1, none⟩) (by (try simp) <;> omega) _).setCell (p := ⟨w.heap.size + 1 + 1, 2, none⟩) (by (try simp) <;> omega) _

theorem l4do_yes (key : Int) (o : Option Addr) (cap : Nat) (l : List Bk) (oR : Option Addr) (cR : Nat) (hsR : List Hd) (k i g : Int) (m : List Bk) (w : World) (hk : keyB key = true) (hl : backsOkB l = true) (hc : cmdOkB k i g = true) (hm : doL l k i g = some m) (hlen : l.length ≤ 100) (hR : RdK w.heap.size w o l) (hG : RdL layH w.heap.size w oR hsR) (hnR : oR = none → cR = 0) (hR3 : hsR.length ≤ 3) :
    Calls Try.prog 88 #[plv key (.slice o l.length cap) (.slice oR hsR.length cR), cmd k i g] w fun e w' => ∃ o2 c2 oR2 n2 cR2 o3 c3 hs3, e = .returned (.tuple #[plv key (.slice o2 m.length c2) (.slice oR2 n2 cR2), .bool true]) ∧ n2 = (((o3, 8, c3) :: hsR).take 3).length ∧ ownK w' w.heap.size (.slice o2 m.length c2) m ∧ ownL layH 37 w' w.heap.size (.slice oR2 n2 cR2) (((o3, 8, c3) :: hsR).take 3) ∧ ownL layH 43 w' w.heap.size (.slice o3 8 c3) hs3 ∧ Tab (fun b => pairI key b m) 8 w' w.heap.size hs3 ∧ Below w.heap.size w w' := by
  by_cases h0 : k = 0
  · subst h0
    exact (l4do_add key o cap l oR cR hsR i g m w hk hl hc hm hlen hR hG hnR hR3).mono (fun _ _ h => h)
  · exact (l4do_else key o cap l oR cR hsR k i g (placeN l i) m w hk hl hc hm hlen hR hG hnR hR3 h0 (beq_eq_false_iff_ne.2 h0) rfl).mono (fun _ _ h => h)

set_option maxRecDepth 100000 in
set_option maxHeartbeats 2000000 in
theorem l4new_any (key : Int) (w : World) (hk : keyB key = true) :
    Calls Try.prog 86 #[.int .i64 key] w fun e w' => ∃ g, e = .returned (plv key (.slice none 0 0) (.slice (some ⟨g, 0, none⟩) 1 1)) ∧ RingO w' w.heap.size (.slice (some ⟨g, 0, none⟩) 1 1) (fun b => pairI key b []) [] ∧ Below w.heap.size w w' := by
  obtain ⟨W0, hW0⟩ : ∃ W, (w.alloc (.cells #[.int .i64 0, .slice none 0 0, .slice none 0 0] 26)) = W := ⟨_, rfl⟩
  have hb_W0 : Below w.heap.size w W0 := by rw [← hW0]; exact ((Below.refl _ _).alloc (Nat.le_refl _) _)
  have HB := hide hb_W0
  clear hb_W0
  have zr : w.heap.size < W0.heap.size := by rw [← hW0]; simp
  have r0 : W0.cell? ⟨w.heap.size, 0, none⟩ = some (.int .i64 0) := by rw [← hW0]; simp [go_sem]
  have r1 : W0.cell? ⟨w.heap.size, 1, none⟩ = some (.slice none 0 0) := by rw [← hW0]; simp [go_sem]
  have r2 : W0.cell? ⟨w.heap.size, 2, none⟩ = some (.slice none 0 0) := by rw [← hW0]; simp [go_sem]
  have fr0 : W0.frozen? ⟨w.heap.size, 0, none⟩ = false := by rw [← hW0]; simp [go_sem]
  have fr1 : W0.frozen? ⟨w.heap.size, 1, none⟩ = false := by rw [← hW0]; simp [go_sem]
  have fr2 : W0.frozen? ⟨w.heap.size, 2, none⟩ = false := by rw [← hW0]; simp [go_sem]
  have hz00 := zr
  have HT := hide (l3tableO_any key none 0 [] W0 (.inl rfl) (by simp) hk rfl)
  go_enter Try.func86, Try.ntmps86
  go_wp2_with fail
  refine (HT.out).mono ?_
  rintro e v1 ⟨o3, c3, hs3, rfl, ow3, tb3, hb⟩
  have hs1 := hb.size
  have HX := hide (And.intro ow3 tb3)
  clear ow3 tb3
  replace r0 := bC hb r0 zr
  replace r1 := bC hb r1 zr
  replace r2 := bC hb r2 zr
  replace fr0 := bF hb fr0 zr
  replace fr1 := bF hb fr1 zr
  replace fr2 := bF hb fr2 zr
  replace zr := Nat.lt_of_lt_of_le zr hb.size
  replace HB := hide (HB.out.trans (hb.mono HB.out.size))
  clear hb
  have hbx : v1.heap.size + 1 = (v1.alloc (.cells #[.slice o3 8 c3] 37)).heap.size := by simp
  have hne : v1.heap.size ≠ w.heap.size := by omega
  have hne' : w.heap.size ≠ v1.heap.size := by omega
  obtain ⟨W2, hW2⟩ : ∃ W, v1.alloc (.cells #[.slice o3 8 c3] 37) = W := ⟨_, rfl⟩
  have hb2 : Below v1.heap.size v1 W2 := by rw [← hW2]; exact (Below.refl _ _).alloc (Nat.le_refl _) _
  have HRI : Hid (RingO W2 (w.heap.size + 1) (.slice (some ⟨v1.heap.size, 0, none⟩) 1 1) (fun b => pairI key b []) []) := ⟨o3, c3, hs3, by rw [← hW2]; exact own_mono (one_own v1 o3 8 c3 _) (by omega), own_mono (own_kept HX.out.1 hb2) (by omega), Tab.mono (HX.out.2.kept hb2) (by omega)⟩
  have hs2 := hb2.size
  replace r0 := bC hb2 r0 zr
  replace r1 := bC hb2 r1 zr
  replace r2 := bC hb2 r2 zr
  replace fr0 := bF hb2 fr0 zr
  replace fr1 := bF hb2 fr1 zr
  replace fr2 := bF hb2 fr2 zr
  have HB2 : Hid (Below w.heap.size w W2) := HB.out.trans (hb2.mono HB.out.size)
  go_wp2
  refine bodyPost_ret (v := plv key (.slice none 0 0) (.slice (some ⟨v1.heap.size, 0, none⟩) 1 1)) (by simp [results, Try.results86, go_sem, r0, r1, r2]) rfl ⟨v1.heap.size, rfl, ?_, ?_⟩
  · exact RingO.mono (((HRI.out.low (Nat.lt_succ_self _) 0 _).low (Nat.lt_succ_self _) 1 _).low (Nat.lt_succ_self _) 2 _) (Nat.le_succ _)
  · exact ((HB2.out.setCell (p := ⟨w.heap.size, 0, none⟩) (by (try simp) <;> omega) _).setCell (p := ⟨w.heap.size, 1, none⟩) (by (try simp) <;> omega) _).setCell (p := ⟨w.heap.size, 2, none⟩) (by (try simp) <;> omega) _

end Go.Proofs.Ytflakpmcgopdaaa

/- The model's JournalOk. -/
namespace Go.Proofs.Ytflakpmcgopdaaa
open Go.ChangeShapes Go.WideShapes Go.ChangeAt Go.RowKit Go.Joins
set_option linter.unusedVariables false
set_option linter.unusedSimpArgs false

/-- The box of a pool whose lists are the call's own. -/
structure PBox (w : World) (base B : Nat) (key : Int) (l : List Bk) (hs : List Hd) (o : Option Addr) (c : Nat) (oR : Option Addr) (cR : Nat) : Prop where
  box : w.heap[B]? = some (.cells #[.int .i64 key, .slice o l.length c, .slice oR hs.length cR] 26 (0, 0))
  backs : ownK w base (.slice o l.length c) l
  ring : ownL layH 37 w base (.slice oR hs.length cR) hs
theorem PBox.kept {w w' : World} {base B : Nat} {key : Int} {l : List Bk} {hs : List Hd} {o oR : Option Addr} {c cR : Nat} (h : PBox w base B key l hs o c oR cR) (hb : Below w.heap.size w w') : PBox w' base B key l hs o c oR cR :=
  ⟨(hb.block B (Array.getElem?_eq_some_iff.1 h.box).1).trans h.box, own_kept h.backs hb, own_kept h.ring hb⟩
/-- The box set anew. -/
theorem PBox.set {w : World} {base B : Nat} {key : Int} {l : List Bk} {hs : List Hd} {o oR : Option Addr} {c n cR : Nat} {z : Array Value} (hB : w.heap[B]? = some (.cells z 26 (0, 0))) (hz : z.size = 3) (h1 : ownK w base (.slice o l.length c) l) (h2 : ownL layH 37 w base (.slice oR n cR) hs) (hn : n = hs.length) : PBox (setP w B (.int .i64 key) (.slice o l.length c) (.slice oR n cR)) base B key l hs o c oR cR := by
  subst hn
  have b1 := box_put hB 0 (.int .i64 key)
  have b2 := box_put b1 1 (.slice o l.length c)
  have b3 := box_put b2 2 (.slice oR hs.length cR)
  refine ⟨?_, own_putB (own_putB (own_putB h1 hB neP4 0 _) b1 neP4 1 _) b2 neP4 2 _, own_putB (own_putB (own_putB h2 hB neP1 0 _) b1 neP1 1 _) b2 neP1 2 _⟩
  rw [b3]
  match z, hz with
  | ⟨[x, y, u]⟩, _ => rfl
theorem capH {w : World} {base : Nat} {o : Option Addr} {n c : Nat} {hs : List Hd} (h : ownL layH 37 w base (.slice o n c) hs) : o = none → c = 0 := fun e => (InRow.cap (InRow.of h)) n c (by rw [e])
theorem setP_below {C : Nat} {w W : World} {B : Nat} (h : Below C w W) (hB : C ≤ B) (x y z : Value) : Below C w (setP W B x y z) := ((h.setCell (p := ⟨B, 0, none⟩) hB _).setCell (p := ⟨B, 1, none⟩) hB _).setCell (p := ⟨B, 2, none⟩) hB _

theorem finJ {cur W : World} {base B : Nat} {key : Int} {m : List Bk} {hs2 : List Hd} {o2 oR2 : Option Addr} {c2 n2 cR2 : Nat} {z0 z1 z2 : Value} (hZ : W.heap[B]? = some (.cells #[z0, z1, z2] 26 (0, 0))) (hx : Below cur.heap.size cur W) (hB : cur.heap.size ≤ B) (h1 : ownK W base (.slice o2 m.length c2) m) (h2 : ownL layH 37 W base (.slice oR2 n2 cR2) hs2) (hn : n2 = hs2.length) (h3 : hs2.length ≤ 3) :
    ∃ B' hs' o' c' oR' cR', Value.pointer (some ⟨B, 0, none⟩) = .pointer (some ⟨B', 0, none⟩) ∧ Value.bool true = .bool true ∧ Hid (PBox (setP W B (.int .i64 key) (.slice o2 m.length c2) (.slice oR2 n2 cR2)) base B' key m hs' o' c' oR' cR') ∧ Hid (Below cur.heap.size cur (setP W B (.int .i64 key) (.slice o2 m.length c2) (.slice oR2 n2 cR2))) ∧ cur.heap.size ≤ B' ∧ Hid (hs'.length ≤ 3) :=
  ⟨B, hs2, o2, c2, oR2, cR2, rfl, rfl, PBox.set hZ rfl h1 h2 hn, setP_below hx hB _ _ _, hB, h3⟩
theorem finJn {cur W : World} {base : Nat} {key : Int} {m : List Bk} {hs2 : List Hd} {o2 oR2 : Option Addr} {c2 n2 cR2 : Nat} (hx : Below cur.heap.size cur W) (h1 : ownK W base (.slice o2 m.length c2) m) (h2 : ownL layH 37 W base (.slice oR2 n2 cR2) hs2) (hn : n2 = hs2.length) (h3 : hs2.length ≤ 3) :
    ∃ B' hs' o' c' oR' cR', Value.pointer (some ⟨W.heap.size, 0, none⟩) = .pointer (some ⟨B', 0, none⟩) ∧ Value.bool true = .bool true ∧ Hid (PBox (W.alloc (.cells #[.int .i64 key, .slice o2 m.length c2, .slice oR2 n2 cR2] 26)) base B' key m hs' o' c' oR' cR') ∧ Hid (Below cur.heap.size cur (W.alloc (.cells #[.int .i64 key, .slice o2 m.length c2, .slice oR2 n2 cR2] 26))) ∧ cur.heap.size ≤ B' ∧ Hid (hs'.length ≤ 3) := by
  subst hn
  exact ⟨W.heap.size, hs2, o2, c2, oR2, cR2, rfl, rfl, ⟨World.alloc_heap_new W _, World.ownsRow.alloc h1 _, World.ownsRow.alloc h2 _⟩, hx.alloc hx.size _, hx.size, h3⟩

set_option maxRecDepth 100000 in
set_option maxHeartbeats 16000000 in
theorem specJ_loop (key safe : Int) (b off cap : Nat) (cs : List Cd) (w : World) (hbl : cs.length ≠ 0 → b < w.heap.size) (hcell : ∀ i, i < cs.length → ∀ j, j < layC.k → w.cell? ⟨b, off + i * layC.k + j, none⟩ = (layC.cs (cs.getD i layC.d))[j]?) (hk : keyB key = true) (hl : cs.length ≤ 100) (h0 : 0 ≤ safe) (h1 : safe ≤ (cs.length : Int)) (ob : Option Addr) (hob : cs.length ≠ 0 → ob = some ⟨b, off, none⟩) :
    Calls Try.prog 28 #[jrn key (.slice ob cs.length cap) safe] w fun e w' => e = .returned (.bool (runTo cs cs.length).isSome) ∧ Below w.heap.size w w' := by
  have hik := l3key_any key
  rw [hk] at hik
  have HC := hide hcell
  have HOB := hide hob
  have HBL := hide hbl
  have q1 : decide (100 < (cs.length : Int)) = false := decide_eq_false (by omega)
  have q2 : decide (safe < 0) = false := decide_eq_false (by omega)
  have q3 : decide ((cs.length : Int) < safe) = false := decide_eq_false (by omega)
  have HN := hide hl
  clear hcell hob hbl h0 h1
  obtain ⟨W0, hW0⟩ : ∃ W, (w.alloc (.cells #[.int .i64 key, .slice ob cs.length cap, .int .i64 safe] 47)) = W := ⟨_, rfl⟩
  have hb_W0 : Below w.heap.size w W0 := by rw [← hW0]; exact ((Below.refl _ _).alloc (Nat.le_refl _) _)
  have HB := hide hb_W0
  clear hb_W0
  have zz : w.heap.size < W0.heap.size := by rw [← hW0]; simp
  have z0 : W0.cell? ⟨w.heap.size, 0, none⟩ = some (.int .i64 key) := by rw [← hW0]; simp [go_sem]
  have z1 : W0.cell? ⟨w.heap.size, 1, none⟩ = some (.slice ob cs.length cap) := by rw [← hW0]; simp [go_sem]
  have z2 : W0.cell? ⟨w.heap.size, 2, none⟩ = some (.int .i64 safe) := by rw [← hW0]; simp [go_sem]
  have HL := hide (l4new_any key W0 hk)
  have hz0 := zz
  go_enter Try.func28, Try.ntmps28
  go_wp2_with (go_at_call 80; refine (hik _).mono ?_; rintro e w9 ⟨rfl, rfl⟩)
  refine (HL.out).mono ?_
  rintro e v1 ⟨gR, rfl, hring, hb⟩
  have HRG := hide hring
  have hs1 := hb.size
  clear hring
  replace z0 := bC hb z0 zz
  replace z1 := bC hb z1 zz
  replace z2 := bC hb z2 zz
  replace zz := Nat.lt_of_lt_of_le zz hb.size
  replace HB := hide (HB.out.trans (hb.mono HB.out.size))
  clear hb
  have z1v := z1
  have zzv := zz
  have HB1W := HB
  obtain ⟨W1, hW1⟩ : ∃ W, (v1.alloc (.cells #[.int .i64 key, .slice none 0 0, .slice (some ⟨gR, 0, none⟩) 1 1] 26)) = W := ⟨_, rfl⟩
  have hb_W1 : Below v1.heap.size v1 W1 := by rw [← hW1]; exact ((Below.refl _ _).alloc (Nat.le_refl _) _)
  replace z0 := bC hb_W1 z0 zz
  replace z1 := bC hb_W1 z1 zz
  replace z2 := bC hb_W1 z2 zz
  replace zz := Nat.lt_of_lt_of_le zz hb_W1.size
  replace HB := hide (HB.out.trans (hb_W1.mono HB.out.size))
  clear hb_W1
  have zp : v1.heap.size < W1.heap.size := by rw [← hW1]; simp
  have p0 : W1.cell? ⟨v1.heap.size, 0, none⟩ = some (.int .i64 key) := by rw [← hW1]; simp [go_sem]
  have p1 : W1.cell? ⟨v1.heap.size, 1, none⟩ = some (.slice none 0 0) := by rw [← hW1]; simp [go_sem]
  have p2 : W1.cell? ⟨v1.heap.size, 2, none⟩ = some (.slice (some ⟨gR, 0, none⟩) 1 1) := by rw [← hW1]; simp [go_sem]
  obtain ⟨o3, c3, hs3, rg1, _, _⟩ := HRG.out
  have hb1 : Below v1.heap.size v1 W1 := by rw [← hW1]; exact (Below.refl _ _).alloc (Nat.le_refl _) _
  have HP : Hid (PBox W1 w.heap.size v1.heap.size key [] [(o3, 8, c3)] none 0 (some ⟨gR, 0, none⟩) 1) := ⟨by rw [← hW1]; exact World.alloc_heap_new v1 _, World.ownsRow_nil _ _ _ _, own_mono (own_kept rg1 hb1) (by omega)⟩
  clear rg1 HRG hb1
  go_wp2
  go_loopw [4] (fun iv wr => ∃ (t : Nat) (l : List Bk) (hs : List Hd) (o : Option Addr) (c : Nat) (oR : Option Addr) (cR : Nat), t ≤ cs.length ∧ iv = .int .i64 (t : Int) ∧ Hid (PBox wr w.heap.size v1.heap.size key l hs o c oR cR) ∧ Hid (runTo cs t = some l) ∧ Hid (hs.length ≤ 3) ∧ Hid (Below v1.heap.size v1 wr))
    (fun iv _ => cs.length - (intOf iv).toNat)
  case atStart => exact ⟨0, [], _, _, _, _, _, Nat.zero_le _, rfl, HP.out, rfl, (Nat.le_of_ble_eq_true rfl), by rw [← hW1]; exact (Below.refl _ _).alloc (Nat.le_refl _) _⟩
  case round =>
    obtain ⟨t, l, hs, o, c, oR, cR, htl, rfl, HPB, HRUN, HS3, HBR⟩ := hrel
    have hv1 := HBR.out.size
    have HBB : Hid (Below w.heap.size w wr) := (HB1W.out).trans (HBR.out.mono HB1W.out.size)
    have y1 := bC HBR.out z1v zzv
    by_cases hlt : t < cs.length
    · skip
      clear z0 z1 z2 zz p0 p1 p2 zp hW0 hW1 HP hik HB
      have hlt' : (t : Int) < (cs.length : Int) := by omega
      have ht0 : (0 : Int) ≤ (t : Int) := by omega
      have hob := HOB.out (by omega)
      have hbl := HBL.out (by omega)
      subst hob
      obtain ⟨hbo, hll⟩ := runTo_ok t l (by omega) HRUN.out
      obtain ⟨c0, c1, c2⟩ := RdL.cmd (C := w.heap.size) HC.out t hlt
      replace c0 := (HBB.out.cell (p := ⟨b, off + t * 3, none⟩) hbl).trans c0
      replace c1 := (HBB.out.cell (p := ⟨b, off + t * 3 + 1, none⟩) hbl).trans c1
      replace c2 := (HBB.out.cell (p := ⟨b, off + t * 3 + 2, none⟩) hbl).trans c2
      have HNX := hide (runTo_succ hlt)
      obtain ⟨x, y, u, hxyu⟩ : ∃ x y u, cs.getD t (0, 0, 0) = (x, y, u) := ⟨_, _, _, rfl⟩
      rw [hxyu] at c0 c1 c2 HNX
      have HST := hide (fun h => run_stop hlt (hxyu ▸ h) : stepO (runTo cs t) (x, y, u) = none → (runTo cs cs.length).isSome = false)
      rw [HRUN.out] at HNX HST
      simp only [stepO, Option.bind_some] at c0 c1 c2 HNX HST
      clear hxyu HRUN
      have HPC := hide (specPoolCmdOk_any x y u)
      cases hc : cmdOkB x y u with
      | false =>
        rw [hc] at HST HPC
        have HEND := hide (HST.out (by simp))
        clear HST HNX
        have HB := HBB
        go_wp2_with fail
        refine (HPC.out _).mono ?_
        rintro e w2 ⟨rfl, hb⟩
        replace HB := hide (HB.out.trans (hb.mono HB.out.size))
        clear hb
        go_wp2
        go_ret
        exact ⟨by rw [HEND.out]; rfl, HB.out⟩
      | true =>
        rw [hc] at HST HNX HPC
        simp only [if_true] at HST HNX
        go_wp2_with fail
        refine (HPC.out _).mono ?_
        rintro e w2 ⟨rfl, hb⟩
        have hs2 := hb.size
        have HPB2 := hide (HPB.out.kept hb)
        have HBR2 := hide (HBR.out.trans (hb.mono hv1))
        have HBB2 := hide (HBB.out.trans (hb.mono HBB.out.size))
        replace y1 := bC hb y1 (show w.heap.size < wr.heap.size by have := HB1W.out.size; omega)
        replace c0 := bC hb c0 (show b < wr.heap.size by have := HBB.out.size; omega)
        replace c1 := bC hb c1 (show b < wr.heap.size by have := HBB.out.size; omega)
        replace c2 := bC hb c2 (show b < wr.heap.size by have := HBB.out.size; omega)
        clear hb HPB HBR HBB HPC
        have p0 : w2.cell? ⟨v1.heap.size, 0, none⟩ = some (.int .i64 key) := bx_cell HPB2.out.box 0 _ rfl
        have p1 : w2.cell? ⟨v1.heap.size, 1, none⟩ = some (.slice o l.length c) := bx_cell HPB2.out.box 1 _ rfl
        have p2 : w2.cell? ⟨v1.heap.size, 2, none⟩ = some (.slice oR hs.length cR) := bx_cell HPB2.out.box 2 _ rfl
        have hpz : v1.heap.size < w2.heap.size := (Array.getElem?_eq_some_iff.1 HPB2.out.box).1
        have hyz : w.heap.size < w2.heap.size := by have := HB1W.out.size; omega
        have hbz : b < w2.heap.size := by omega
        have hzv : v1.heap.size ≤ w2.heap.size := by omega
        have HRB := hide (ownL.rds (L := layK) HPB2.out.backs)
        have HRR := hide (ownL.rds (L := layH) HPB2.out.ring)
        have hcb := own_capK HPB2.out.backs
        have hcr := capH HPB2.out.ring
        cases hdo : doL l x y u with
        | none =>
          rw [hdo] at HST
          have HEND := hide (HST.out rfl)
          have HY := hide (fun W (hb : Below w2.heap.size w2 W) => l4do_no key o c l oR hs.length cR x y u W hbo hdo (by have := HN.out; omega) ((HRB.out.kept hb (Nat.le_refl _)).le hb.size))
          clear HST HNX hdo HRR hcb hcr
          go_upto_region 9 with fail
          go_cut [5, 6] from 47 to 56 (fun s5 s6 wx => s6 = .bool false ∧ Hid (Below w2.heap.size w2 wx))
          case first =>
            go_region_held3 (fun w' => w'.cell? ⟨v1.heap.size, 0, none⟩ = some (.int .i64 key) ∧ w'.cell? ⟨v1.heap.size, 1, none⟩ = some (.slice o l.length c) ∧ w'.cell? ⟨v1.heap.size, 2, none⟩ = some (.slice oR hs.length cR) ∧ w'.cell? ⟨w.heap.size, 1, none⟩ = some (.slice (some ⟨b, off, none⟩) cs.length cap) ∧ w'.cell? ⟨b, off + t * 3, none⟩ = some (.int .i64 x) ∧ w'.cell? ⟨b, off + t * 3 + 1, none⟩ = some (.int .i64 y) ∧ w'.cell? ⟨b, off + t * 3 + 2, none⟩ = some (.int .i64 u)) (first | with_reducible exact ⟨k0_0, k0_1, k0_2, k0_3, k0_4, k0_5, k0_6⟩ | with_reducible exact ⟨p0, p1, p2, y1, c0, c1, c2⟩ | with_reducible exact ⟨s0_0, s0_1, s0_2, s0_3, s0_4, s0_5, s0_6⟩ | go_keep) (first | (go_at_call 88; have hc_ := HY.out w2.drew (Below.drew (Below.refl _ _)); with_reducible refine hc_.mono ?_; clear hc_; rintro e x0 ⟨rfl, hb⟩; have hp0 : Below w2.heap.size w2 x0 := Below.trans (show Below w2.heap.size w2 w2.drew from (Below.drew (Below.refl _ _))) (hb.mono (by simp)); have sp0 := hp0.size; have k0_0 := bC hp0 p0 hpz; have k0_1 := bC hp0 p1 hpz; have k0_2 := bC hp0 p2 hpz; have k0_3 := bC hp0 y1 hyz; have k0_4 := bC hp0 c0 hbz; have k0_5 := bC hp0 c1 hbz; have k0_6 := bC hp0 c2 hbz; clear hb) | (go_at_call 88; have hc_ := HY.out (w2.alloc (.cells #[.int .i64 0, .slice none 0 0, .slice none 0 0] 26)).drew (Below.drew ((Below.refl _ _).alloc (Nat.le_refl _) _)); with_reducible refine hc_.mono ?_; clear hc_; rintro e x0 ⟨rfl, hb⟩; have hp0 : Below w2.heap.size w2 x0 := Below.trans (show Below w2.heap.size w2 (w2.alloc (.cells #[.int .i64 0, .slice none 0 0, .slice none 0 0] 26)).drew from (Below.drew ((Below.refl _ _).alloc (Nat.le_refl _) _))) (hb.mono (by simp)); have sp0 := hp0.size; have k0_0 := bC hp0 p0 hpz; have k0_1 := bC hp0 p1 hpz; have k0_2 := bC hp0 p2 hpz; have k0_3 := bC hp0 y1 hyz; have k0_4 := bC hp0 c0 hbz; have k0_5 := bC hp0 c1 hbz; have k0_6 := bC hp0 c2 hbz; have hZ0 := box_newA hb; have hzl0 := (Array.getElem?_eq_some_iff.1 hZ0).1; have hzc_0 := bx_cell hZ0 0 _ rfl; have hzf_0 := bx_frozen hZ0 0; have hzc_1 := bx_cell hZ0 1 _ rfl; have hzf_1 := bx_frozen hZ0 1; have hzc_2 := bx_cell hZ0 2 _ rfl; have hzf_2 := bx_frozen hZ0 2; have s0_0 : (((x0.setCell ⟨w2.heap.size, 0, none⟩ (.int .i64 key)).setCell ⟨w2.heap.size, 1, none⟩ (.slice o l.length c)).setCell ⟨w2.heap.size, 2, none⟩ (.slice oR hs.length cR)).cell? ⟨v1.heap.size, 0, none⟩ = some (.int .i64 key) := setP_cell k0_0 hpz; have s0_1 : (((x0.setCell ⟨w2.heap.size, 0, none⟩ (.int .i64 key)).setCell ⟨w2.heap.size, 1, none⟩ (.slice o l.length c)).setCell ⟨w2.heap.size, 2, none⟩ (.slice oR hs.length cR)).cell? ⟨v1.heap.size, 1, none⟩ = some (.slice o l.length c) := setP_cell k0_1 hpz; have s0_2 : (((x0.setCell ⟨w2.heap.size, 0, none⟩ (.int .i64 key)).setCell ⟨w2.heap.size, 1, none⟩ (.slice o l.length c)).setCell ⟨w2.heap.size, 2, none⟩ (.slice oR hs.length cR)).cell? ⟨v1.heap.size, 2, none⟩ = some (.slice oR hs.length cR) := setP_cell k0_2 hpz; have s0_3 : (((x0.setCell ⟨w2.heap.size, 0, none⟩ (.int .i64 key)).setCell ⟨w2.heap.size, 1, none⟩ (.slice o l.length c)).setCell ⟨w2.heap.size, 2, none⟩ (.slice oR hs.length cR)).cell? ⟨w.heap.size, 1, none⟩ = some (.slice (some ⟨b, off, none⟩) cs.length cap) := setP_cell k0_3 hyz; have s0_4 : (((x0.setCell ⟨w2.heap.size, 0, none⟩ (.int .i64 key)).setCell ⟨w2.heap.size, 1, none⟩ (.slice o l.length c)).setCell ⟨w2.heap.size, 2, none⟩ (.slice oR hs.length cR)).cell? ⟨b, off + t * 3, none⟩ = some (.int .i64 x) := setP_cell k0_4 hbz; have s0_5 : (((x0.setCell ⟨w2.heap.size, 0, none⟩ (.int .i64 key)).setCell ⟨w2.heap.size, 1, none⟩ (.slice o l.length c)).setCell ⟨w2.heap.size, 2, none⟩ (.slice oR hs.length cR)).cell? ⟨b, off + t * 3 + 1, none⟩ = some (.int .i64 y) := setP_cell k0_5 hbz; have s0_6 : (((x0.setCell ⟨w2.heap.size, 0, none⟩ (.int .i64 key)).setCell ⟨w2.heap.size, 1, none⟩ (.slice o l.length c)).setCell ⟨w2.heap.size, 2, none⟩ (.slice oR hs.length cR)).cell? ⟨b, off + t * 3 + 2, none⟩ = some (.int .i64 u) := setP_cell k0_6 hbz; clear hb))
            all_goals (go_wp2_with fail; go_meet)
            all_goals first
              | with_reducible exact ⟨rfl, hide (setP_below hp0 (Nat.le_refl _) _ _ _)⟩
              | with_reducible exact ⟨rfl, hide (hp0.alloc hp0.size _)⟩
          case rest =>
          obtain ⟨rfl, Hbl⟩ := hcut
          have HBw := hide (HBB2.out.trans (Hbl.out.mono HBB2.out.size))
          go_wp2
          go_ret
          exact ⟨by rw [HEND.out]; rfl, HBw.out⟩
        | some m =>
          rw [hdo] at HNX
          have hs3 := HS3.out
          have HY := hide (fun W (hb : Below w2.heap.size w2 W) => l4do_yes key o c l oR cR hs x y u m W hk hbo hc hdo (by have := HN.out; omega) ((HRB.out.kept hb (Nat.le_refl _)).le hb.size) ((HRR.out.kept hb (Nat.le_refl _)).le hb.size) hcr hs3)
          clear HST hdo hc HRB HRR hcb
          go_upto_region 9 with fail
          go_cut [5, 6] from 47 to 56 (fun s5 s6 wx => ∃ B hs' o' c' oR' cR', s5 = .pointer (some ⟨B, 0, none⟩) ∧ s6 = .bool true ∧ Hid (PBox wx w.heap.size B key m hs' o' c' oR' cR') ∧ Hid (Below w2.heap.size w2 wx) ∧ w2.heap.size ≤ B ∧ Hid (hs'.length ≤ 3))
          case first =>
            go_region_held3 (fun w' => w'.cell? ⟨v1.heap.size, 0, none⟩ = some (.int .i64 key) ∧ w'.cell? ⟨v1.heap.size, 1, none⟩ = some (.slice o l.length c) ∧ w'.cell? ⟨v1.heap.size, 2, none⟩ = some (.slice oR hs.length cR) ∧ w'.cell? ⟨w.heap.size, 1, none⟩ = some (.slice (some ⟨b, off, none⟩) cs.length cap) ∧ w'.cell? ⟨b, off + t * 3, none⟩ = some (.int .i64 x) ∧ w'.cell? ⟨b, off + t * 3 + 1, none⟩ = some (.int .i64 y) ∧ w'.cell? ⟨b, off + t * 3 + 2, none⟩ = some (.int .i64 u)) (first | with_reducible exact ⟨k0_0, k0_1, k0_2, k0_3, k0_4, k0_5, k0_6⟩ | with_reducible exact ⟨p0, p1, p2, y1, c0, c1, c2⟩ | with_reducible exact ⟨s0_0, s0_1, s0_2, s0_3, s0_4, s0_5, s0_6⟩ | go_keep) (first | (go_at_call 88; have hc_ := HY.out w2.drew (Below.drew (Below.refl _ _)); with_reducible refine hc_.mono ?_; clear hc_; rintro e x0 ⟨o2, d2, oR2, n2, dR2, o3, d3, hs3, rfl, hn2, ow2, owR, _, _, hb⟩; have hp0 : Below w2.heap.size w2 x0 := Below.trans (show Below w2.heap.size w2 w2.drew from (Below.drew (Below.refl _ _))) (hb.mono (by simp)); have sp0 := hp0.size; have ow2 := own_mono ow2 (show w.heap.size ≤ _ by (try simp) <;> omega); have owR := own_mono owR (show w.heap.size ≤ _ by (try simp) <;> omega); have hl3 := List.length_take_le 3 ((o3, 8, d3) :: hs); generalize List.take 3 ((o3, 8, d3) :: hs) = hs2 at hn2 owR hl3; subst hn2; have k0_0 := bC hp0 p0 hpz; have k0_1 := bC hp0 p1 hpz; have k0_2 := bC hp0 p2 hpz; have k0_3 := bC hp0 y1 hyz; have k0_4 := bC hp0 c0 hbz; have k0_5 := bC hp0 c1 hbz; have k0_6 := bC hp0 c2 hbz; clear hb) | (go_at_call 88; have hc_ := HY.out (w2.alloc (.cells #[.int .i64 0, .slice none 0 0, .slice none 0 0] 26)).drew (Below.drew ((Below.refl _ _).alloc (Nat.le_refl _) _)); with_reducible refine hc_.mono ?_; clear hc_; rintro e x0 ⟨o2, d2, oR2, n2, dR2, o3, d3, hs3, rfl, hn2, ow2, owR, _, _, hb⟩; have hp0 : Below w2.heap.size w2 x0 := Below.trans (show Below w2.heap.size w2 (w2.alloc (.cells #[.int .i64 0, .slice none 0 0, .slice none 0 0] 26)).drew from (Below.drew ((Below.refl _ _).alloc (Nat.le_refl _) _))) (hb.mono (by simp)); have sp0 := hp0.size; have ow2 := own_mono ow2 (show w.heap.size ≤ _ by (try simp) <;> omega); have owR := own_mono owR (show w.heap.size ≤ _ by (try simp) <;> omega); have hl3 := List.length_take_le 3 ((o3, 8, d3) :: hs); generalize List.take 3 ((o3, 8, d3) :: hs) = hs2 at hn2 owR hl3; subst hn2; have k0_0 := bC hp0 p0 hpz; have k0_1 := bC hp0 p1 hpz; have k0_2 := bC hp0 p2 hpz; have k0_3 := bC hp0 y1 hyz; have k0_4 := bC hp0 c0 hbz; have k0_5 := bC hp0 c1 hbz; have k0_6 := bC hp0 c2 hbz; have hZ0 := box_newA hb; have hzl0 := (Array.getElem?_eq_some_iff.1 hZ0).1; have hzc_0 := bx_cell hZ0 0 _ rfl; have hzf_0 := bx_frozen hZ0 0; have hzc_1 := bx_cell hZ0 1 _ rfl; have hzf_1 := bx_frozen hZ0 1; have hzc_2 := bx_cell hZ0 2 _ rfl; have hzf_2 := bx_frozen hZ0 2; have s0_0 : (((x0.setCell ⟨w2.heap.size, 0, none⟩ (.int .i64 key)).setCell ⟨w2.heap.size, 1, none⟩ (.slice o2 m.length d2)).setCell ⟨w2.heap.size, 2, none⟩ (.slice oR2 hs2.length dR2)).cell? ⟨v1.heap.size, 0, none⟩ = some (.int .i64 key) := setP_cell k0_0 hpz; have s0_1 : (((x0.setCell ⟨w2.heap.size, 0, none⟩ (.int .i64 key)).setCell ⟨w2.heap.size, 1, none⟩ (.slice o2 m.length d2)).setCell ⟨w2.heap.size, 2, none⟩ (.slice oR2 hs2.length dR2)).cell? ⟨v1.heap.size, 1, none⟩ = some (.slice o l.length c) := setP_cell k0_1 hpz; have s0_2 : (((x0.setCell ⟨w2.heap.size, 0, none⟩ (.int .i64 key)).setCell ⟨w2.heap.size, 1, none⟩ (.slice o2 m.length d2)).setCell ⟨w2.heap.size, 2, none⟩ (.slice oR2 hs2.length dR2)).cell? ⟨v1.heap.size, 2, none⟩ = some (.slice oR hs.length cR) := setP_cell k0_2 hpz; have s0_3 : (((x0.setCell ⟨w2.heap.size, 0, none⟩ (.int .i64 key)).setCell ⟨w2.heap.size, 1, none⟩ (.slice o2 m.length d2)).setCell ⟨w2.heap.size, 2, none⟩ (.slice oR2 hs2.length dR2)).cell? ⟨w.heap.size, 1, none⟩ = some (.slice (some ⟨b, off, none⟩) cs.length cap) := setP_cell k0_3 hyz; have s0_4 : (((x0.setCell ⟨w2.heap.size, 0, none⟩ (.int .i64 key)).setCell ⟨w2.heap.size, 1, none⟩ (.slice o2 m.length d2)).setCell ⟨w2.heap.size, 2, none⟩ (.slice oR2 hs2.length dR2)).cell? ⟨b, off + t * 3, none⟩ = some (.int .i64 x) := setP_cell k0_4 hbz; have s0_5 : (((x0.setCell ⟨w2.heap.size, 0, none⟩ (.int .i64 key)).setCell ⟨w2.heap.size, 1, none⟩ (.slice o2 m.length d2)).setCell ⟨w2.heap.size, 2, none⟩ (.slice oR2 hs2.length dR2)).cell? ⟨b, off + t * 3 + 1, none⟩ = some (.int .i64 y) := setP_cell k0_5 hbz; have s0_6 : (((x0.setCell ⟨w2.heap.size, 0, none⟩ (.int .i64 key)).setCell ⟨w2.heap.size, 1, none⟩ (.slice o2 m.length d2)).setCell ⟨w2.heap.size, 2, none⟩ (.slice oR2 hs2.length dR2)).cell? ⟨b, off + t * 3 + 2, none⟩ = some (.int .i64 u) := setP_cell k0_6 hbz; clear hb))
            all_goals (go_wp2_with fail; go_meet)
            all_goals first
              | with_reducible exact finJ hZ0 hp0 (Nat.le_refl _) ow2 owR rfl hl3
              | with_reducible exact finJn hp0 ow2 owR rfl hl3
          case rest =>
          obtain ⟨B, hs', o', c', oR', cR', rfl, rfl, HPX, Hbl, hB1, HS3'⟩ := hcut
          have HBw := hide (HBB2.out.trans (Hbl.out.mono HBB2.out.size))
          have hbp := (Hbl.out.block v1.heap.size hpz).trans HPB2.out.box
          have x0 := bx_cell HPX.out.box 0 _ rfl
          have x1 := bx_cell HPX.out.box 1 _ rfl
          have x2 := bx_cell HPX.out.box 2 _ rfl
          have d0 := bx_cell hbp 0 _ rfl
          have d1 := bx_cell hbp 1 _ rfl
          have d2 := bx_cell hbp 2 _ rfl
          have f0 := bx_frozen hbp 0
          have f1 := bx_frozen hbp 1
          have f2 := bx_frozen hbp 2
          have HPN := hide (PBox.set (key := key) hbp rfl HPX.out.backs HPX.out.ring rfl)
          have HBN := hide (setP_below (HBR2.out.trans (Hbl.out.mono hzv)) (Nat.le_refl _) (.int .i64 key) (.slice o' m.length c') (.slice oR' hs'.length cR'))
          clear p0 p1 p2 y1 c0 c1 c2 hbp
          go_wp2
          go_roundw
          case rel => exact ⟨t + 1, m, hs', o', c', oR', cR', by omega, by go_num, HPN.out, HNX.out, HS3'.out, HBN.out⟩
          case measure => simp [intOf]; omega
    · have e : t = cs.length := by omega
      subst e
      have HRS := hide (show (runTo cs cs.length).isSome = true by rw [HRUN.out]; rfl)
      clear z0 z1 z2 zz p0 p1 p2 zp hW0 hW1 HP hik HB HRUN
      have hlz : ¬ ((cs.length : Int) < (cs.length : Int)) := by omega
      go_wp2
      go_ret
      exact ⟨by rw [HRS.out]; rfl, HBB.out⟩

set_option maxRecDepth 100000 in
set_option maxHeartbeats 4000000 in
theorem specJournalOk_any (key safe : Int) (o : Option Addr) (cap : Nat) (cs : List Cd) (w : World) (hR : RdC w.heap.size w o cs) (hl : cs.length ≤ 1048576) :
    Calls Try.prog 28 #[jrn key (.slice o cs.length cap) safe] w fun e w' => e = .returned (.bool (journalB key cs safe)) ∧ Below w.heap.size w w' := by
  by_cases hall : keyB key = true ∧ cs.length ≤ 100 ∧ 0 ≤ safe ∧ safe ≤ (cs.length : Int)
  · obtain ⟨h1, h2, h3, h4⟩ := hall
    have e : journalB key cs safe = (runTo cs cs.length).isSome := by unfold journalB; simp [h1, h2, h3, h4]
    rw [e]
    rcases hR with hR | ⟨b, off, rfl, hbl, hcell⟩
    · subst hR
      exact specJ_loop key safe 0 0 cap [] w (fun h => absurd rfl h) (fun i hi => absurd hi (Nat.not_lt_zero _)) h1 h2 h3 h4 o (fun h => absurd rfl h)
    · exact specJ_loop key safe b off cap cs w (fun _ => hbl) hcell h1 h2 h3 h4 _ (fun _ => rfl)
  have HE := hide (show journalB key cs safe = false by
    rw [Bool.eq_false_iff]; intro h; unfold journalB at h; simp only [Bool.and_eq_true, decide_eq_true_eq] at h; exact hall ⟨h.1.1.1.1, h.1.1.1.2, h.1.1.2, h.1.2⟩)
  have hik := l3key_any key
  obtain ⟨W0, hW0⟩ : ∃ W, (w.alloc (.cells #[.int .i64 key, .slice o cs.length cap, .int .i64 safe] 47)) = W := ⟨_, rfl⟩
  have hb_W0 : Below w.heap.size w W0 := by rw [← hW0]; exact ((Below.refl _ _).alloc (Nat.le_refl _) _)
  have HB := hide hb_W0
  clear hb_W0
  have zz : w.heap.size < W0.heap.size := by rw [← hW0]; simp
  have z0 : W0.cell? ⟨w.heap.size, 0, none⟩ = some (.int .i64 key) := by rw [← hW0]; simp [go_sem]
  have z1 : W0.cell? ⟨w.heap.size, 1, none⟩ = some (.slice o cs.length cap) := by rw [← hW0]; simp [go_sem]
  have z2 : W0.cell? ⟨w.heap.size, 2, none⟩ = some (.int .i64 safe) := by rw [← hW0]; simp [go_sem]
  clear hR
  cases hk : keyB key with
  | false =>
    rw [hk] at hik
    clear hall
    go_enter Try.func28, Try.ntmps28
    go_wp2_with (go_at_call 80; refine (hik _).mono ?_; rintro e w9 ⟨rfl, rfl⟩)
    go_ret
    exact ⟨by rw [HE.out]; rfl, HB.out⟩
  | true =>
    by_cases h2 : cs.length ≤ 100
    · by_cases h3 : 0 ≤ safe
      · by_cases h4 : safe ≤ (cs.length : Int)
        · exact absurd ⟨hk, h2, h3, h4⟩ hall
        · skip
          rw [hk] at hik
          have q1 : decide (100 < (cs.length : Int)) = false := decide_eq_false (by omega)
          have q2 : decide (safe < 0) = false := decide_eq_false (by omega)
          have q3 : decide ((cs.length : Int) < safe) = true := decide_eq_true (by omega)
          clear hall
          go_enter Try.func28, Try.ntmps28
          go_wp2_with (go_at_call 80; refine (hik _).mono ?_; rintro e w9 ⟨rfl, rfl⟩)
          go_ret
          exact ⟨by rw [HE.out]; rfl, HB.out⟩
      · skip
        rw [hk] at hik
        have q1 : decide (100 < (cs.length : Int)) = false := decide_eq_false (by omega)
        have q2 : decide (safe < 0) = true := decide_eq_true (by omega)
        clear hall
        go_enter Try.func28, Try.ntmps28
        go_wp2_with (go_at_call 80; refine (hik _).mono ?_; rintro e w9 ⟨rfl, rfl⟩)
        go_ret
        exact ⟨by rw [HE.out]; rfl, HB.out⟩
    · skip
      rw [hk] at hik
      have q1 : decide (100 < (cs.length : Int)) = true := decide_eq_true (by omega)
      clear hall
      go_enter Try.func28, Try.ntmps28
      go_wp2_with (go_at_call 80; refine (hik _).mono ?_; rintro e w9 ⟨rfl, rfl⟩)
      go_ret
      exact ⟨by rw [HE.out]; rfl, HB.out⟩

theorem specJournalOk_sh (v : Value) (m : Jm) (w : World) (hR : RdJm w.heap.size w v m) (hf : fitJm m) :
    Calls Try.prog 28 #[v] w fun e w' => e = .returned (.bool (journalB m.key m.l m.safe)) ∧ Below w.heap.size w w' := by
  obtain ⟨vl, rfl, ⟨o, c, rfl, r⟩⟩ := hR
  exact specJournalOk_any m.key m.safe o c m.l w r hf

end Go.Proofs.Ytflakpmcgopdaaa

/- A journal's own copy in the model; Cut, on both sides. -/
namespace Go.Proofs.Ytflakpmcgopdaaa
open Go.ChangeShapes Go.WideShapes Go.ChangeAt Go.RowKit Go.Joins
set_option linter.unusedVariables false
set_option linter.unusedSimpArgs false

theorem own_none2 {α : Type} {L : Lay α} (w : World) (e : TypeId) : ownL L e (w.alloc (.cells #[] e)) w.heap.size (.slice (some ⟨w.heap.size, 0, none⟩) 0 0) ([] : List α) := own_none0 w e
def cutN (m : Jm) (keep : Int) : Int := if keep < (m.l.length : Int) - m.safe then m.safe + keep else m.l.length
def jm0 : Jm := ⟨0, [], 0⟩
def cutB (m : Jm) (keep : Int) : Bool := journalB m.key m.l m.safe && decide (0 ≤ keep)
/-- What Cut tells. -/
def cutM (m : Jm) (keep : Int) : Jm := if cutB m keep = true then ⟨m.key, m.l.take (cutN m keep).toNat, cutN m keep⟩ else jm0
theorem journal_facts {key : Int} {cs : List Cd} {safe : Int} (h : journalB key cs safe = true) : keyB key = true ∧ cs.length ≤ 100 ∧ 0 ≤ safe ∧ safe ≤ (cs.length : Int) := by
  unfold journalB at h
  simp only [Bool.and_eq_true, decide_eq_true_eq] at h
  exact ⟨h.1.1.1.1, h.1.1.1.2, h.1.1.2, h.1.2⟩
theorem cutM_fit {m : Jm} (keep : Int) (h : fitJm m) : (cutM m keep).l.length ≤ 1048576 := by
  unfold cutM
  unfold fitJm at h
  split
  · simp; omega
  · decide
theorem rdC_take {C : Nat} {w : World} {o : Option Addr} {l : List Cd} (n : Nat) (h : RdC C w o l) : RdC C w o (l.take n) := by
  rcases h with h | ⟨b, off, ho, hlt, r⟩
  · left; rw [h]; simp
  · refine .inr ⟨b, off, ho, hlt, fun i hi j hj => ?_⟩
    have h1 : i < n := by simp at hi; omega
    have h2 : i < l.length := by simp at hi; omega
    rw [r i h2 j hj]
    simp [List.getD_eq_getElem?_getD, List.getElem?_take, h1]

set_option maxRecDepth 100000 in
set_option maxHeartbeats 4000000 in
theorem l4ownJ_any (key safe : Int) (o : Option Addr) (cap : Nat) (l : List Cd) (n : Nat) (hnl : n = l.length) (w : World) (hR : RdC w.heap.size w o l) (hn : o = none → cap = 0) (hl : l.length ≤ 1048576) :
    Calls Try.prog 115 #[jrn key (.slice o n cap) safe] w fun e w' => ∃ o2 c2, e = .returned (jrn key (.slice o2 n c2) safe) ∧ ownC w' w.heap.size (.slice o2 n c2) l ∧ Below w.heap.size w w' := by
  obtain ⟨W0, hW0⟩ : ∃ W, ((w.alloc (.cells #[.int .i64 key, .slice o n cap, .int .i64 safe] 47)).alloc (.cells #[.int .i64 0, .slice none 0 0, .int .i64 0] 47)) = W := ⟨_, rfl⟩
  have hb_W0 : Below w.heap.size w W0 := by rw [← hW0]; exact (((Below.refl _ _).alloc (Nat.le_refl _) _).alloc (by simp <;> omega) _)
  have HB := hide hb_W0
  clear hb_W0
  have zz : w.heap.size < W0.heap.size := by rw [← hW0]; simp <;> omega
  have z0 : W0.cell? ⟨w.heap.size, 0, none⟩ = some (.int .i64 key) := by rw [← hW0]; simp [go_sem]
  have z1 : W0.cell? ⟨w.heap.size, 1, none⟩ = some (.slice o n cap) := by rw [← hW0]; simp [go_sem]
  have z2 : W0.cell? ⟨w.heap.size, 2, none⟩ = some (.int .i64 safe) := by rw [← hW0]; simp [go_sem]
  have zr : w.heap.size + 1 < W0.heap.size := by rw [← hW0]; simp
  have r0 : W0.cell? ⟨w.heap.size + 1, 0, none⟩ = some (.int .i64 0) := by rw [← hW0]; simp [go_sem]
  have r1 : W0.cell? ⟨w.heap.size + 1, 1, none⟩ = some (.slice none 0 0) := by rw [← hW0]; simp [go_sem]
  have r2 : W0.cell? ⟨w.heap.size + 1, 2, none⟩ = some (.int .i64 0) := by rw [← hW0]; simp [go_sem]
  have fr0 : W0.frozen? ⟨w.heap.size + 1, 0, none⟩ = false := by rw [← hW0]; simp [go_sem]
  have fr1 : W0.frozen? ⟨w.heap.size + 1, 1, none⟩ = false := by rw [← hW0]; simp [go_sem]
  have fr2 : W0.frozen? ⟨w.heap.size + 1, 2, none⟩ = false := by rw [← hW0]; simp [go_sem]
  have HR := hide (hR.kept HB.out (Nat.le_refl _))
  have HNL := hide hnl
  have hzr := zr
  clear hR hnl
  go_enter Try.func115, Try.ntmps115
  go_wp2
  go_region_held3 (fun w' => w'.cell? ⟨w.heap.size, 0, none⟩ = some (.int .i64 key) ∧ w'.cell? ⟨w.heap.size, 1, none⟩ = some (.slice o n cap) ∧ w'.cell? ⟨w.heap.size, 2, none⟩ = some (.int .i64 safe)) (first | with_reducible exact ⟨k0, k1, k2⟩ | with_reducible exact ⟨z0, z1, z2⟩ | with_reducible exact ⟨setP_cell k0 (Nat.lt_succ_self _), setP_cell k1 (Nat.lt_succ_self _), setP_cell k2 (Nat.lt_succ_self _)⟩ | go_keep) (first | (have own_ : ownL layC 28 (W0.alloc (.cells #[] 28)).drew W0.heap.size (.slice (some ⟨W0.heap.size, 0, none⟩) 0 0) ([] : List Cd) := own_none2 W0 _; have hbv : Below W0.heap.size W0 (W0.alloc (.cells #[] 28)).drew := Below.drew ((Below.refl _ _).alloc (Nat.le_refl _) _); refine step_append_lay appC0 rfl _ _ rfl W0.heap.size (.slice (some ⟨W0.heap.size, 0, none⟩) 0 0) ([] : List Cd) rfl own_ o cap w.heap.size l n HNL.out rfl hn (HR.out.kept hbv (by omega)) (by simp; omega) (by (try simp) <;> omega) ?_; intro v8 w8 ho8 hg8 hn8; have hp8 : Below W0.heap.size W0 w8 := hbv.grown hg8 (by (try simp) <;> omega) (fun k h => by simp [Value.ownBlock] at h; omega); have sp8 := hp8.size; obtain ⟨o8, c8, e8, _⟩ := ownL.open (L := layC) ho8; subst e8; have HO8 : Hid (ownC w8 W0.heap.size (.slice o8 l.length c8) l) := ho8; have k0 := bC hp8 z0 zz; have k1 := bC hp8 z1 zz; have k2 := bC hp8 z2 zz; have rr0 := bC hp8 r0 zr; have rr1 := bC hp8 r1 zr; have rr2 := bC hp8 r2 zr; have frr0 := bF hp8 fr0 zr; have frr1 := bF hp8 fr1 zr; have frr2 := bF hp8 fr2 zr; have HP8 := hide hp8; clear ho8 hg8 hn8 own_ hbv hp8))
  go_wp2
  have hnn := HNL.out
  skip
  refine bodyPost_ret (v := jrn key (.slice o8 l.length c8) safe) (by simp [results, Try.results115, go_sem, rr0, rr1, rr2]) rfl ⟨o8, c8, by rw [hnn], ?_, setP_below (HB.out.trans (HP8.out.mono HB.out.size)) (Nat.le_succ _) _ _ _⟩
  rw [hnn]
  exact own_mono (own_low (own_low (own_low HO8.out hzr 0 _) hzr 1 _) hzr 2 _) (by omega)

/-- A journal whose list has room for itself; one of nothing has none. -/
def roomJm (v : Value) : Prop := ∃ k o n c s, v = jrn k (.slice o n c) s ∧ n ≤ c ∧ (o = none → c = 0)
theorem InJm.room {lo hi : Nat} {w : World} {v : Value} {m : Jm} (h : InJm lo hi w v m) : roomJm v := by
  obtain ⟨vl, e, h1⟩ := h
  rcases h1.1.2 with ⟨e1, e2⟩ | ⟨g, cap, cur, e1, hb, hc, h4, h5, h6, h7⟩
  · exact ⟨_, none, 0, 0, _, by rw [e, e1], Nat.le_refl _, fun _ => rfl⟩
  · exact ⟨_, some ⟨g, 0, none⟩, m.l.length, cap, _, by rw [e, e1], h4, fun h => by cases h⟩
theorem roomJm.two {k s : Int} {o : Option Addr} {n c : Nat} (h : roomJm (jrn k (.slice o n c) s)) : n ≤ c ∧ (o = none → c = 0) := by
  obtain ⟨k', o', n', c', s', e, h1, h2⟩ := h
  injection e with e
  simp at e
  obtain ⟨_, ⟨e2, e3, e4⟩, _⟩ := e
  subst e2 e3 e4
  exact ⟨h1, h2⟩
def cutI (l : List Cd) (safe keep : Int) : Int := if keep < (l.length : Int) - safe then safe + keep else l.length
theorem own_putJ {w : World} {base s n : Nat} {v : Value} {xs : List Value} {B : Nat} {c : Array Value} (h : w.ownsRow base 28 s v n xs) (hB : w.heap[B]? = some (.cells c 47 (0, 0))) (j : Nat) (u : Value) : (w.setCell ⟨B, j, none⟩ u).ownsRow base 28 s v n xs :=
  World.ownsRow.kept h (grown_set w B j u) (own_box h hB (by decide))
theorem finC {cur W : World} {B : Nat} {key : Int} {o2 : Option Addr} {n c2 : Nat} {l : List Cd} {z0 z1 z2 : Value} (hZ : W.heap[B]? = some (.cells #[z0, z1, z2] 47 (0, 0))) (hx : Below cur.heap.size cur W) (hB : cur.heap.size ≤ B) (ho : ownC W cur.heap.size (.slice o2 n c2) l) :
    ∃ B' o' c', Value.pointer (some ⟨B, 0, none⟩) = .pointer (some ⟨B', 0, none⟩) ∧ Hid ((setP W B (.int .i64 key) (.slice o2 n c2) (.int .i64 0)).heap[B']? = some (.cells #[.int .i64 key, .slice o' n c', .int .i64 0] 47 (0, 0))) ∧ Hid (Below cur.heap.size cur (setP W B (.int .i64 key) (.slice o2 n c2) (.int .i64 0))) ∧ cur.heap.size ≤ B' ∧ Hid (ownC (setP W B (.int .i64 key) (.slice o2 n c2) (.int .i64 0)) cur.heap.size (.slice o' n c') l) := by
  have h1 := box_put hZ 0 (.int .i64 key)
  have h2 := box_put h1 1 (.slice o2 n c2)
  have h3 := box_put h2 2 (.int .i64 0)
  exact ⟨B, o2, c2, rfl, h3, setP_below hx hB _ _ _, hB, own_putJ (own_putJ (own_putJ ho hZ 0 _) h1 1 _) h2 2 _⟩
theorem finCn {cur W : World} {key : Int} {o2 : Option Addr} {n c2 : Nat} {l : List Cd} (hx : Below cur.heap.size cur W) (ho : ownC W cur.heap.size (.slice o2 n c2) l) :
    ∃ B' o' c', Value.pointer (some ⟨W.heap.size, 0, none⟩) = .pointer (some ⟨B', 0, none⟩) ∧ Hid ((W.alloc (.cells #[.int .i64 key, .slice o2 n c2, .int .i64 0] 47)).heap[B']? = some (.cells #[.int .i64 key, .slice o' n c', .int .i64 0] 47 (0, 0))) ∧ Hid (Below cur.heap.size cur (W.alloc (.cells #[.int .i64 key, .slice o2 n c2, .int .i64 0] 47))) ∧ cur.heap.size ≤ B' ∧ Hid (ownC (W.alloc (.cells #[.int .i64 key, .slice o2 n c2, .int .i64 0] 47)) cur.heap.size (.slice o' n c') l) :=
  ⟨W.heap.size, o2, c2, rfl, World.alloc_heap_new W _, hx.alloc hx.size _, hx.size, World.ownsRow.alloc ho _⟩
theorem cloneN_any (o : Option Addr) (cap : Nat) (l : List Cd) (n : Nat) (hnl : n = l.length) (w : World) (hR : RdC w.heap.size w o l) (hn : o = none → cap = 0) (hl : l.length ≤ 1048576) :
    Calls Try.prog 96 #[.slice o n cap] w fun e w' => ∃ o2 c2, e = .returned (.slice o2 n c2) ∧ ownC w' w.heap.size (.slice o2 n c2) l ∧ Below w.heap.size w w' := by
  subst hnl
  refine (cloneCmds_any o cap l w hR hn hl).mono ?_
  rintro e w' ⟨v, rfl, h1, h2⟩
  obtain ⟨o2, c2, e2, _⟩ := ownL.open (L := layC) h1
  subst e2
  exact ⟨o2, c2, rfl, h1, h2⟩

set_option maxRecDepth 100000 in
set_option maxHeartbeats 8000000 in
theorem specCut_nil (key keep : Int) (w : World) (hkp : 0 ≤ keep) (hok : ∀ W : World, Below w.heap.size w W → Calls Try.prog 28 #[jrn key (.slice none 0 0) 0] W fun e w' => e = .returned (.bool true) ∧ Below W.heap.size W w') :
    Calls Try.prog 59 #[jrn key (.slice none 0 0) 0, .int .i64 keep] w fun e w' => ∃ o2 c2, e = .returned (jrn key (.slice o2 0 c2) 0) ∧ ownC w' w.heap.size (.slice o2 0 c2) ([] : List Cd) ∧ Below w.heap.size w w' := by
  obtain ⟨W0, hW0⟩ : ∃ W, ((w.alloc (.cells #[.int .i64 key, .slice none 0 0, .int .i64 0] 47)).alloc (.cells #[.int .i64 0, .slice none 0 0, .int .i64 0] 47)) = W := ⟨_, rfl⟩
  have hb_W0 : Below w.heap.size w W0 := by rw [← hW0]; exact (((Below.refl _ _).alloc (Nat.le_refl _) _).alloc (by simp <;> omega) _)
  have HB := hide hb_W0
  clear hb_W0
  have zz : w.heap.size < W0.heap.size := by rw [← hW0]; simp <;> omega
  have z0 : W0.cell? ⟨w.heap.size, 0, none⟩ = some (.int .i64 key) := by rw [← hW0]; simp [go_sem]
  have z1 : W0.cell? ⟨w.heap.size, 1, none⟩ = some (.slice none 0 0) := by rw [← hW0]; simp [go_sem]
  have z2 : W0.cell? ⟨w.heap.size, 2, none⟩ = some (.int .i64 0) := by rw [← hW0]; simp [go_sem]
  have zr : w.heap.size + 1 < W0.heap.size := by rw [← hW0]; simp
  have r0 : W0.cell? ⟨w.heap.size + 1, 0, none⟩ = some (.int .i64 0) := by rw [← hW0]; simp [go_sem]
  have r1 : W0.cell? ⟨w.heap.size + 1, 1, none⟩ = some (.slice none 0 0) := by rw [← hW0]; simp [go_sem]
  have r2 : W0.cell? ⟨w.heap.size + 1, 2, none⟩ = some (.int .i64 0) := by rw [← hW0]; simp [go_sem]
  have fr0 : W0.frozen? ⟨w.heap.size + 1, 0, none⟩ = false := by rw [← hW0]; simp [go_sem]
  have fr1 : W0.frozen? ⟨w.heap.size + 1, 1, none⟩ = false := by rw [← hW0]; simp [go_sem]
  have fr2 : W0.frozen? ⟨w.heap.size + 1, 2, none⟩ = false := by rw [← hW0]; simp [go_sem]
  have hzr := zr
  have HOK := hide (hok W0 HB.out)
  clear hok
  have hkd : ¬ (keep < 0) := by omega
  have hkd2 : decide (keep < 0) = false := decide_eq_false hkd
  have hmn : min keep 0 = 0 := by omega
  have hkz : ¬ (keep < 0 - 0) := by omega
  have hkz2 : decide (keep < 0) = false := decide_eq_false (by omega)
  go_enter Try.func59, Try.ntmps59
  go_wp2_with fail
  refine (HOK.out).mono ?_
  rintro e v1 ⟨rfl, hb⟩
  have hs1 := hb.size
  replace z0 := bC hb z0 zz
  replace z1 := bC hb z1 zz
  replace z2 := bC hb z2 zz
  replace zz := Nat.lt_of_lt_of_le zz hb.size
  replace r0 := bC hb r0 zr
  replace r1 := bC hb r1 zr
  replace r2 := bC hb r2 zr
  replace fr0 := bF hb fr0 zr
  replace fr1 := bF hb fr1 zr
  replace fr2 := bF hb fr2 zr
  replace zr := Nat.lt_of_lt_of_le zr hb.size
  replace HB := hide (HB.out.trans (hb.mono HB.out.size))
  clear hb
  go_upto_region 6 with fail
  go_cut [6] from 28 to 35 (fun s6 wx => ∃ B o2 c2, s6 = .pointer (some ⟨B, 0, none⟩) ∧ Hid (wx.heap[B]? = some (.cells #[.int .i64 key, .slice o2 0 c2, .int .i64 0] 47 (0, 0))) ∧ Hid (Below v1.heap.size v1 wx) ∧ v1.heap.size ≤ B ∧ Hid (ownC wx v1.heap.size (.slice o2 0 c2) ([] : List Cd)))
  case first =>
    go_region_held3 (fun w' => w'.cell? ⟨w.heap.size, 0, none⟩ = some (.int .i64 key) ∧ w'.cell? ⟨w.heap.size, 1, none⟩ = some (.slice none 0 0) ∧ w'.cell? ⟨w.heap.size, 2, none⟩ = some (.int .i64 0)) (first | with_reducible exact ⟨k0, k1, k2⟩ | with_reducible exact ⟨z0, z1, z2⟩ | with_reducible exact ⟨s0, s1, s2⟩ | go_keep) (first | (go_at_call 115; have hc_ := l4ownJ_any key 0 none 0 ([] : List Cd) 0 rfl v1.drew (.inl rfl) (fun _ => rfl) (by simp); with_reducible refine hc_.mono ?_; clear hc_; rintro e x0 ⟨o2, c2, rfl, ow2, hb⟩; have hp0 : Below v1.heap.size v1 x0 := Below.trans (show Below v1.heap.size v1 v1.drew from (Below.drew (Below.refl _ _))) (hb.mono (by simp)); have ow2 := own_mono ow2 (show v1.heap.size ≤ _ by (try simp) <;> omega); have k0 := bC hp0 z0 zz; have k1 := bC hp0 z1 zz; have k2 := bC hp0 z2 zz; clear hb) | (go_at_call 115; have hc_ := l4ownJ_any key 0 none 0 ([] : List Cd) 0 rfl (v1.alloc (.cells #[.int .i64 0, .slice none 0 0, .int .i64 0] 47)).drew (.inl rfl) (fun _ => rfl) (by simp); with_reducible refine hc_.mono ?_; clear hc_; rintro e x0 ⟨o2, c2, rfl, ow2, hb⟩; have hp0 : Below v1.heap.size v1 x0 := Below.trans (show Below v1.heap.size v1 (v1.alloc (.cells #[.int .i64 0, .slice none 0 0, .int .i64 0] 47)).drew from (Below.drew ((Below.refl _ _).alloc (Nat.le_refl _) _))) (hb.mono (by simp)); have ow2 := own_mono ow2 (show v1.heap.size ≤ _ by (try simp) <;> omega); have k0 := bC hp0 z0 zz; have k1 := bC hp0 z1 zz; have k2 := bC hp0 z2 zz; have hZ0 := box_newA hb; have hzc_0 := bx_cell hZ0 0 _ rfl; have hzf_0 := bx_frozen hZ0 0; have hzc_1 := bx_cell hZ0 1 _ rfl; have hzf_1 := bx_frozen hZ0 1; have hzc_2 := bx_cell hZ0 2 _ rfl; have hzf_2 := bx_frozen hZ0 2; have s0 : (((x0.setCell ⟨v1.heap.size, 0, none⟩ (.int .i64 key)).setCell ⟨v1.heap.size, 1, none⟩ (.slice o2 0 c2)).setCell ⟨v1.heap.size, 2, none⟩ (.int .i64 0)).cell? ⟨w.heap.size, 0, none⟩ = some (.int .i64 key) := setP_cell k0 zz; have s1 : (((x0.setCell ⟨v1.heap.size, 0, none⟩ (.int .i64 key)).setCell ⟨v1.heap.size, 1, none⟩ (.slice o2 0 c2)).setCell ⟨v1.heap.size, 2, none⟩ (.int .i64 0)).cell? ⟨w.heap.size, 1, none⟩ = some (.slice none 0 0) := setP_cell k1 zz; have s2 : (((x0.setCell ⟨v1.heap.size, 0, none⟩ (.int .i64 key)).setCell ⟨v1.heap.size, 1, none⟩ (.slice o2 0 c2)).setCell ⟨v1.heap.size, 2, none⟩ (.int .i64 0)).cell? ⟨w.heap.size, 2, none⟩ = some (.int .i64 0) := setP_cell k2 zz; clear hb))
    all_goals (go_wp2_with fail; go_meet)
    all_goals first
      | with_reducible exact finC hZ0 hp0 (Nat.le_refl _) ow2
      | with_reducible exact finCn hp0 ow2
  case rest =>
  obtain ⟨B, o2, c2, rfl, Hbx, Hbl, hB1, Hr⟩ := hcut
  have hwc := Hbl.out.size
  have qc0 := bC Hbl.out r0 zr
  have fqc0 := bF Hbl.out fr0 zr
  have bc0 := bx_cell Hbx.out 0 _ rfl
  have fbc0 := bx_frozen Hbx.out 0
  have qc1 := bC Hbl.out r1 zr
  have fqc1 := bF Hbl.out fr1 zr
  have bc1 := bx_cell Hbx.out 1 _ rfl
  have fbc1 := bx_frozen Hbx.out 1
  have qc2 := bC Hbl.out r2 zr
  have fqc2 := bF Hbl.out fr2 zr
  have bc2 := bx_cell Hbx.out 2 _ rfl
  have fbc2 := bx_frozen Hbx.out 2
  have hne2 : w.heap.size + 1 ≠ B := by omega
  have hne1 : B ≠ w.heap.size + 1 := by omega
  obtain ⟨W5, hW5⟩ : ∃ W, wc.setCell ⟨B, 2, none⟩ (.int .i64 0) = W := ⟨_, rfl⟩
  have hW5b : W5.heap[B]? = some (.cells #[.int .i64 key, .slice o2 0 c2, .int .i64 0] 47 (0, 0)) := by rw [← hW5]; exact box_put Hbx.out 2 _
  have b50 := bx_cell hW5b 0 _ rfl
  have q50 : W5.cell? ⟨w.heap.size + 1, 0, none⟩ = some (.int .i64 0) := by rw [← hW5]; exact (cell_far hne2).trans qc0
  have fq50 : W5.frozen? ⟨w.heap.size + 1, 0, none⟩ = false := by rw [← hW5]; exact (frozen_far hne2).trans fqc0
  have b51 := bx_cell hW5b 1 _ rfl
  have q51 : W5.cell? ⟨w.heap.size + 1, 1, none⟩ = some (.slice none 0 0) := by rw [← hW5]; exact (cell_far hne2).trans qc1
  have fq51 : W5.frozen? ⟨w.heap.size + 1, 1, none⟩ = false := by rw [← hW5]; exact (frozen_far hne2).trans fqc1
  have b52 := bx_cell hW5b 2 _ rfl
  have q52 : W5.cell? ⟨w.heap.size + 1, 2, none⟩ = some (.int .i64 0) := by rw [← hW5]; exact (cell_far hne2).trans qc2
  have fq52 : W5.frozen? ⟨w.heap.size + 1, 2, none⟩ = false := by rw [← hW5]; exact (frozen_far hne2).trans fqc2
  have HO5 : Hid (ownC W5 v1.heap.size (.slice o2 0 c2) ([] : List Cd)) := by rw [← hW5]; exact own_putJ Hr.out Hbx.out 2 _
  have HB5 : Hid (Below w.heap.size w W5) := by rw [← hW5]; exact (HB.out.trans (Hbl.out.mono HB.out.size)).setCell (p := ⟨B, 2, none⟩) (show w.heap.size ≤ B by have := HB.out.size; omega) _
  have hcz : w.heap.size + 1 < v1.heap.size := zr
  go_wp2
  refine bodyPost_ret (v := jrn key (.slice o2 0 c2) 0) (by simp [results, Try.results59, go_sem, q50, q51, q52]) rfl ⟨o2, c2, rfl, own_mono (own_low (own_low (own_low HO5.out hcz 0 _) hcz 1 _) hcz 2 _) (by omega), setP_below HB5.out (Nat.le_succ _) _ _ _⟩

set_option maxRecDepth 100000 in
set_option maxHeartbeats 8000000 in
theorem specCut_go (key safe keep : Int) (ad : Addr) (c : Nat) (l : List Cd) (n : Nat) (w : World) (hR : RdC w.heap.size w (some ad) l) (hlc : l.length ≤ c) (hl : l.length ≤ 100) (h0 : 0 ≤ safe) (h1 : safe ≤ (l.length : Int)) (hkp : 0 ≤ keep) (hn : (n : Int) = cutI l safe keep) (hok : ∀ W : World, Below w.heap.size w W → Calls Try.prog 28 #[jrn key (.slice (some ad) l.length c) safe] W fun e w' => e = .returned (.bool true) ∧ Below W.heap.size W w') :
    Calls Try.prog 59 #[jrn key (.slice (some ad) l.length c) safe, .int .i64 keep] w fun e w' => ∃ o2 c2, e = .returned (jrn key (.slice o2 n c2) (n : Int)) ∧ ownC w' w.heap.size (.slice o2 n c2) (l.take n) ∧ Below w.heap.size w w' := by
  obtain ⟨W0, hW0⟩ : ∃ W, ((w.alloc (.cells #[.int .i64 key, .slice (some ad) l.length c, .int .i64 safe] 47)).alloc (.cells #[.int .i64 0, .slice none 0 0, .int .i64 0] 47)) = W := ⟨_, rfl⟩
  have hb_W0 : Below w.heap.size w W0 := by rw [← hW0]; exact (((Below.refl _ _).alloc (Nat.le_refl _) _).alloc (by simp <;> omega) _)
  have HB := hide hb_W0
  clear hb_W0
  have zz : w.heap.size < W0.heap.size := by rw [← hW0]; simp <;> omega
  have z0 : W0.cell? ⟨w.heap.size, 0, none⟩ = some (.int .i64 key) := by rw [← hW0]; simp [go_sem]
  have z1 : W0.cell? ⟨w.heap.size, 1, none⟩ = some (.slice (some ad) l.length c) := by rw [← hW0]; simp [go_sem]
  have z2 : W0.cell? ⟨w.heap.size, 2, none⟩ = some (.int .i64 safe) := by rw [← hW0]; simp [go_sem]
  have zr : w.heap.size + 1 < W0.heap.size := by rw [← hW0]; simp
  have r0 : W0.cell? ⟨w.heap.size + 1, 0, none⟩ = some (.int .i64 0) := by rw [← hW0]; simp [go_sem]
  have r1 : W0.cell? ⟨w.heap.size + 1, 1, none⟩ = some (.slice none 0 0) := by rw [← hW0]; simp [go_sem]
  have r2 : W0.cell? ⟨w.heap.size + 1, 2, none⟩ = some (.int .i64 0) := by rw [← hW0]; simp [go_sem]
  have fr0 : W0.frozen? ⟨w.heap.size + 1, 0, none⟩ = false := by rw [← hW0]; simp [go_sem]
  have fr1 : W0.frozen? ⟨w.heap.size + 1, 1, none⟩ = false := by rw [← hW0]; simp [go_sem]
  have fr2 : W0.frozen? ⟨w.heap.size + 1, 2, none⟩ = false := by rw [← hW0]; simp [go_sem]
  have hzr := zr
  have HOK := hide (hok W0 HB.out)
  clear hok
  have hkd : ¬ (keep < 0) := by omega
  have hkd2 : decide (keep < 0) = false := decide_eq_false hkd
  have hnl : n ≤ l.length := by have := hn; unfold cutI at this; split at this <;> omega
  have hn0 : (0 : Int) ≤ (n : Int) := by omega
  have hn1 : (n : Int) ≤ (l.length : Int) := by omega
  have hn2 : (n : Int) ≤ (c : Int) := by omega
  have hnc : n ≤ c := by omega
  have HRT := hide (rdC_take n hR)
  have HTL := hide (show n = (l.take n).length by simp; omega)
  have HL2 := hide (show (l.take n).length ≤ 1048576 by simp; omega)
  have w1 : IntKind.i64.wrap ((l.length : Int) - safe) = (l.length : Int) - safe := by rw [IntKind.wrap_i64]; omega
  have HCN := hide (show (n : Int) = if keep < (l.length : Int) - safe then safe + keep else l.length from hn)
  clear hn hR
  by_cases hlt : keep < (l.length : Int) - safe
  · have w2 : IntKind.i64.wrap (safe + keep) = (n : Int) := by have := HCN.out; rw [if_pos hlt] at this; rw [IntKind.wrap_i64]; omega
    go_enter Try.func59, Try.ntmps59
    go_wp2_with fail
    refine (HOK.out).mono ?_
    rintro e v1 ⟨rfl, hb⟩
    have hs1 := hb.size
    replace z0 := bC hb z0 zz
    replace z1 := bC hb z1 zz
    replace z2 := bC hb z2 zz
    replace zz := Nat.lt_of_lt_of_le zz hb.size
    replace r0 := bC hb r0 zr
    replace r1 := bC hb r1 zr
    replace r2 := bC hb r2 zr
    replace fr0 := bF hb fr0 zr
    replace fr1 := bF hb fr1 zr
    replace fr2 := bF hb fr2 zr
    replace zr := Nat.lt_of_lt_of_le zr hb.size
    replace HB := hide (HB.out.trans (hb.mono HB.out.size))
    clear hb
    go_upto_region 6 with fail
    go_cut [6] from 28 to 35 (fun s6 wx => ∃ B o2 c2, s6 = .pointer (some ⟨B, 0, none⟩) ∧ Hid (wx.heap[B]? = some (.cells #[.int .i64 key, .slice o2 n c2, .int .i64 0] 47 (0, 0))) ∧ Hid (Below v1.heap.size v1 wx) ∧ v1.heap.size ≤ B ∧ Hid (ownC wx v1.heap.size (.slice o2 n c2) (l.take n)))
    case first =>
      go_region_held3 (fun w' => w'.cell? ⟨w.heap.size, 0, none⟩ = some (.int .i64 key) ∧ w'.cell? ⟨w.heap.size, 1, none⟩ = some (.slice (some ad) l.length c) ∧ w'.cell? ⟨w.heap.size, 2, none⟩ = some (.int .i64 safe)) (first | with_reducible exact ⟨k0, k1, k2⟩ | with_reducible exact ⟨z0, z1, z2⟩ | with_reducible exact ⟨s0, s1, s2⟩ | go_keep) (first | (go_at_call 115; have hc_ := l4ownJ_any key 0 (some ad) c (l.take n) n HTL.out v1.drew ((HRT.out.kept (HB.out.trans ((show Below v1.heap.size v1 v1.drew from (Below.drew (Below.refl _ _))).mono HB.out.size)) (Nat.le_refl _)).le ((HB.out.trans ((show Below v1.heap.size v1 v1.drew from (Below.drew (Below.refl _ _))).mono HB.out.size))).size) (fun h => by cases h) HL2.out; with_reducible refine hc_.mono ?_; clear hc_; rintro e x0 ⟨o2, c2, rfl, ow2, hb⟩; have hp0 : Below v1.heap.size v1 x0 := Below.trans (show Below v1.heap.size v1 v1.drew from (Below.drew (Below.refl _ _))) (hb.mono (by simp)); have ow2 := own_mono ow2 (show v1.heap.size ≤ _ by (try simp) <;> omega); have k0 := bC hp0 z0 zz; have k1 := bC hp0 z1 zz; have k2 := bC hp0 z2 zz; clear hb) | (go_at_call 115; have hc_ := l4ownJ_any key 0 (some ad) c (l.take n) n HTL.out (v1.alloc (.cells #[.int .i64 0, .slice none 0 0, .int .i64 0] 47)).drew ((HRT.out.kept (HB.out.trans ((show Below v1.heap.size v1 (v1.alloc (.cells #[.int .i64 0, .slice none 0 0, .int .i64 0] 47)).drew from (Below.drew ((Below.refl _ _).alloc (Nat.le_refl _) _))).mono HB.out.size)) (Nat.le_refl _)).le ((HB.out.trans ((show Below v1.heap.size v1 (v1.alloc (.cells #[.int .i64 0, .slice none 0 0, .int .i64 0] 47)).drew from (Below.drew ((Below.refl _ _).alloc (Nat.le_refl _) _))).mono HB.out.size))).size) (fun h => by cases h) HL2.out; with_reducible refine hc_.mono ?_; clear hc_; rintro e x0 ⟨o2, c2, rfl, ow2, hb⟩; have hp0 : Below v1.heap.size v1 x0 := Below.trans (show Below v1.heap.size v1 (v1.alloc (.cells #[.int .i64 0, .slice none 0 0, .int .i64 0] 47)).drew from (Below.drew ((Below.refl _ _).alloc (Nat.le_refl _) _))) (hb.mono (by simp)); have ow2 := own_mono ow2 (show v1.heap.size ≤ _ by (try simp) <;> omega); have k0 := bC hp0 z0 zz; have k1 := bC hp0 z1 zz; have k2 := bC hp0 z2 zz; have hZ0 := box_newA hb; have hzc_0 := bx_cell hZ0 0 _ rfl; have hzf_0 := bx_frozen hZ0 0; have hzc_1 := bx_cell hZ0 1 _ rfl; have hzf_1 := bx_frozen hZ0 1; have hzc_2 := bx_cell hZ0 2 _ rfl; have hzf_2 := bx_frozen hZ0 2; have s0 : (((x0.setCell ⟨v1.heap.size, 0, none⟩ (.int .i64 key)).setCell ⟨v1.heap.size, 1, none⟩ (.slice o2 n c2)).setCell ⟨v1.heap.size, 2, none⟩ (.int .i64 0)).cell? ⟨w.heap.size, 0, none⟩ = some (.int .i64 key) := setP_cell k0 zz; have s1 : (((x0.setCell ⟨v1.heap.size, 0, none⟩ (.int .i64 key)).setCell ⟨v1.heap.size, 1, none⟩ (.slice o2 n c2)).setCell ⟨v1.heap.size, 2, none⟩ (.int .i64 0)).cell? ⟨w.heap.size, 1, none⟩ = some (.slice (some ad) l.length c) := setP_cell k1 zz; have s2 : (((x0.setCell ⟨v1.heap.size, 0, none⟩ (.int .i64 key)).setCell ⟨v1.heap.size, 1, none⟩ (.slice o2 n c2)).setCell ⟨v1.heap.size, 2, none⟩ (.int .i64 0)).cell? ⟨w.heap.size, 2, none⟩ = some (.int .i64 safe) := setP_cell k2 zz; clear hb))
      all_goals (go_wp2_with fail; go_meet)
      all_goals first
        | with_reducible exact finC hZ0 hp0 (Nat.le_refl _) ow2
        | with_reducible exact finCn hp0 ow2
    case rest =>
    obtain ⟨B, o2, c2, rfl, Hbx, Hbl, hB1, Hr⟩ := hcut
    have hwc := Hbl.out.size
    have qc0 := bC Hbl.out r0 zr
    have fqc0 := bF Hbl.out fr0 zr
    have bc0 := bx_cell Hbx.out 0 _ rfl
    have fbc0 := bx_frozen Hbx.out 0
    have qc1 := bC Hbl.out r1 zr
    have fqc1 := bF Hbl.out fr1 zr
    have bc1 := bx_cell Hbx.out 1 _ rfl
    have fbc1 := bx_frozen Hbx.out 1
    have qc2 := bC Hbl.out r2 zr
    have fqc2 := bF Hbl.out fr2 zr
    have bc2 := bx_cell Hbx.out 2 _ rfl
    have fbc2 := bx_frozen Hbx.out 2
    have hne2 : w.heap.size + 1 ≠ B := by omega
    have hne1 : B ≠ w.heap.size + 1 := by omega
    obtain ⟨W5, hW5⟩ : ∃ W, wc.setCell ⟨B, 2, none⟩ (.int .i64 (n : Int)) = W := ⟨_, rfl⟩
    have hW5b : W5.heap[B]? = some (.cells #[.int .i64 key, .slice o2 n c2, .int .i64 (n : Int)] 47 (0, 0)) := by rw [← hW5]; exact box_put Hbx.out 2 _
    have b50 := bx_cell hW5b 0 _ rfl
    have q50 : W5.cell? ⟨w.heap.size + 1, 0, none⟩ = some (.int .i64 0) := by rw [← hW5]; exact (cell_far hne2).trans qc0
    have fq50 : W5.frozen? ⟨w.heap.size + 1, 0, none⟩ = false := by rw [← hW5]; exact (frozen_far hne2).trans fqc0
    have b51 := bx_cell hW5b 1 _ rfl
    have q51 : W5.cell? ⟨w.heap.size + 1, 1, none⟩ = some (.slice none 0 0) := by rw [← hW5]; exact (cell_far hne2).trans qc1
    have fq51 : W5.frozen? ⟨w.heap.size + 1, 1, none⟩ = false := by rw [← hW5]; exact (frozen_far hne2).trans fqc1
    have b52 := bx_cell hW5b 2 _ rfl
    have q52 : W5.cell? ⟨w.heap.size + 1, 2, none⟩ = some (.int .i64 0) := by rw [← hW5]; exact (cell_far hne2).trans qc2
    have fq52 : W5.frozen? ⟨w.heap.size + 1, 2, none⟩ = false := by rw [← hW5]; exact (frozen_far hne2).trans fqc2
    have HO5 : Hid (ownC W5 v1.heap.size (.slice o2 n c2) (l.take n)) := by rw [← hW5]; exact own_putJ Hr.out Hbx.out 2 _
    have HB5 : Hid (Below w.heap.size w W5) := by rw [← hW5]; exact (HB.out.trans (Hbl.out.mono HB.out.size)).setCell (p := ⟨B, 2, none⟩) (show w.heap.size ≤ B by have := HB.out.size; omega) _
    have hcz : w.heap.size + 1 < v1.heap.size := zr
    go_wp2
    refine bodyPost_ret (v := jrn key (.slice o2 n c2) (n : Int)) (by simp [results, Try.results59, go_sem, q50, q51, q52]) rfl ⟨o2, c2, rfl, own_mono (own_low (own_low (own_low HO5.out hcz 0 _) hcz 1 _) hcz 2 _) (by omega), setP_below HB5.out (Nat.le_succ _) _ _ _⟩
  · obtain rfl : n = l.length := by have := HCN.out; rw [if_neg hlt] at this; omega
    have hltd : decide (keep < (l.length : Int) - safe) = false := decide_eq_false hlt
    go_enter Try.func59, Try.ntmps59
    go_wp2_with fail
    refine (HOK.out).mono ?_
    rintro e v1 ⟨rfl, hb⟩
    have hs1 := hb.size
    replace z0 := bC hb z0 zz
    replace z1 := bC hb z1 zz
    replace z2 := bC hb z2 zz
    replace zz := Nat.lt_of_lt_of_le zz hb.size
    replace r0 := bC hb r0 zr
    replace r1 := bC hb r1 zr
    replace r2 := bC hb r2 zr
    replace fr0 := bF hb fr0 zr
    replace fr1 := bF hb fr1 zr
    replace fr2 := bF hb fr2 zr
    replace zr := Nat.lt_of_lt_of_le zr hb.size
    replace HB := hide (HB.out.trans (hb.mono HB.out.size))
    clear hb
    go_upto_region 6 with fail
    go_cut [6] from 28 to 35 (fun s6 wx => ∃ B o2 c2, s6 = .pointer (some ⟨B, 0, none⟩) ∧ Hid (wx.heap[B]? = some (.cells #[.int .i64 key, .slice o2 l.length c2, .int .i64 0] 47 (0, 0))) ∧ Hid (Below v1.heap.size v1 wx) ∧ v1.heap.size ≤ B ∧ Hid (ownC wx v1.heap.size (.slice o2 l.length c2) (l.take l.length)))
    case first =>
      go_region_held3 (fun w' => w'.cell? ⟨w.heap.size, 0, none⟩ = some (.int .i64 key) ∧ w'.cell? ⟨w.heap.size, 1, none⟩ = some (.slice (some ad) l.length c) ∧ w'.cell? ⟨w.heap.size, 2, none⟩ = some (.int .i64 safe)) (first | with_reducible exact ⟨k0, k1, k2⟩ | with_reducible exact ⟨z0, z1, z2⟩ | with_reducible exact ⟨s0, s1, s2⟩ | go_keep) (first | (go_at_call 115; have hc_ := l4ownJ_any key 0 (some ad) c (l.take l.length) l.length HTL.out v1.drew ((HRT.out.kept (HB.out.trans ((show Below v1.heap.size v1 v1.drew from (Below.drew (Below.refl _ _))).mono HB.out.size)) (Nat.le_refl _)).le ((HB.out.trans ((show Below v1.heap.size v1 v1.drew from (Below.drew (Below.refl _ _))).mono HB.out.size))).size) (fun h => by cases h) HL2.out; with_reducible refine hc_.mono ?_; clear hc_; rintro e x0 ⟨o2, c2, rfl, ow2, hb⟩; have hp0 : Below v1.heap.size v1 x0 := Below.trans (show Below v1.heap.size v1 v1.drew from (Below.drew (Below.refl _ _))) (hb.mono (by simp)); have ow2 := own_mono ow2 (show v1.heap.size ≤ _ by (try simp) <;> omega); have k0 := bC hp0 z0 zz; have k1 := bC hp0 z1 zz; have k2 := bC hp0 z2 zz; clear hb) | (go_at_call 115; have hc_ := l4ownJ_any key 0 (some ad) c (l.take l.length) l.length HTL.out (v1.alloc (.cells #[.int .i64 0, .slice none 0 0, .int .i64 0] 47)).drew ((HRT.out.kept (HB.out.trans ((show Below v1.heap.size v1 (v1.alloc (.cells #[.int .i64 0, .slice none 0 0, .int .i64 0] 47)).drew from (Below.drew ((Below.refl _ _).alloc (Nat.le_refl _) _))).mono HB.out.size)) (Nat.le_refl _)).le ((HB.out.trans ((show Below v1.heap.size v1 (v1.alloc (.cells #[.int .i64 0, .slice none 0 0, .int .i64 0] 47)).drew from (Below.drew ((Below.refl _ _).alloc (Nat.le_refl _) _))).mono HB.out.size))).size) (fun h => by cases h) HL2.out; with_reducible refine hc_.mono ?_; clear hc_; rintro e x0 ⟨o2, c2, rfl, ow2, hb⟩; have hp0 : Below v1.heap.size v1 x0 := Below.trans (show Below v1.heap.size v1 (v1.alloc (.cells #[.int .i64 0, .slice none 0 0, .int .i64 0] 47)).drew from (Below.drew ((Below.refl _ _).alloc (Nat.le_refl _) _))) (hb.mono (by simp)); have ow2 := own_mono ow2 (show v1.heap.size ≤ _ by (try simp) <;> omega); have k0 := bC hp0 z0 zz; have k1 := bC hp0 z1 zz; have k2 := bC hp0 z2 zz; have hZ0 := box_newA hb; have hzc_0 := bx_cell hZ0 0 _ rfl; have hzf_0 := bx_frozen hZ0 0; have hzc_1 := bx_cell hZ0 1 _ rfl; have hzf_1 := bx_frozen hZ0 1; have hzc_2 := bx_cell hZ0 2 _ rfl; have hzf_2 := bx_frozen hZ0 2; have s0 : (((x0.setCell ⟨v1.heap.size, 0, none⟩ (.int .i64 key)).setCell ⟨v1.heap.size, 1, none⟩ (.slice o2 l.length c2)).setCell ⟨v1.heap.size, 2, none⟩ (.int .i64 0)).cell? ⟨w.heap.size, 0, none⟩ = some (.int .i64 key) := setP_cell k0 zz; have s1 : (((x0.setCell ⟨v1.heap.size, 0, none⟩ (.int .i64 key)).setCell ⟨v1.heap.size, 1, none⟩ (.slice o2 l.length c2)).setCell ⟨v1.heap.size, 2, none⟩ (.int .i64 0)).cell? ⟨w.heap.size, 1, none⟩ = some (.slice (some ad) l.length c) := setP_cell k1 zz; have s2 : (((x0.setCell ⟨v1.heap.size, 0, none⟩ (.int .i64 key)).setCell ⟨v1.heap.size, 1, none⟩ (.slice o2 l.length c2)).setCell ⟨v1.heap.size, 2, none⟩ (.int .i64 0)).cell? ⟨w.heap.size, 2, none⟩ = some (.int .i64 safe) := setP_cell k2 zz; clear hb))
      all_goals (go_wp2_with fail; go_meet)
      all_goals first
        | with_reducible exact finC hZ0 hp0 (Nat.le_refl _) ow2
        | with_reducible exact finCn hp0 ow2
    case rest =>
    obtain ⟨B, o2, c2, rfl, Hbx, Hbl, hB1, Hr⟩ := hcut
    have hwc := Hbl.out.size
    have qc0 := bC Hbl.out r0 zr
    have fqc0 := bF Hbl.out fr0 zr
    have bc0 := bx_cell Hbx.out 0 _ rfl
    have fbc0 := bx_frozen Hbx.out 0
    have qc1 := bC Hbl.out r1 zr
    have fqc1 := bF Hbl.out fr1 zr
    have bc1 := bx_cell Hbx.out 1 _ rfl
    have fbc1 := bx_frozen Hbx.out 1
    have qc2 := bC Hbl.out r2 zr
    have fqc2 := bF Hbl.out fr2 zr
    have bc2 := bx_cell Hbx.out 2 _ rfl
    have fbc2 := bx_frozen Hbx.out 2
    have hne2 : w.heap.size + 1 ≠ B := by omega
    have hne1 : B ≠ w.heap.size + 1 := by omega
    obtain ⟨W5, hW5⟩ : ∃ W, wc.setCell ⟨B, 2, none⟩ (.int .i64 (l.length : Int)) = W := ⟨_, rfl⟩
    have hW5b : W5.heap[B]? = some (.cells #[.int .i64 key, .slice o2 l.length c2, .int .i64 (l.length : Int)] 47 (0, 0)) := by rw [← hW5]; exact box_put Hbx.out 2 _
    have b50 := bx_cell hW5b 0 _ rfl
    have q50 : W5.cell? ⟨w.heap.size + 1, 0, none⟩ = some (.int .i64 0) := by rw [← hW5]; exact (cell_far hne2).trans qc0
    have fq50 : W5.frozen? ⟨w.heap.size + 1, 0, none⟩ = false := by rw [← hW5]; exact (frozen_far hne2).trans fqc0
    have b51 := bx_cell hW5b 1 _ rfl
    have q51 : W5.cell? ⟨w.heap.size + 1, 1, none⟩ = some (.slice none 0 0) := by rw [← hW5]; exact (cell_far hne2).trans qc1
    have fq51 : W5.frozen? ⟨w.heap.size + 1, 1, none⟩ = false := by rw [← hW5]; exact (frozen_far hne2).trans fqc1
    have b52 := bx_cell hW5b 2 _ rfl
    have q52 : W5.cell? ⟨w.heap.size + 1, 2, none⟩ = some (.int .i64 0) := by rw [← hW5]; exact (cell_far hne2).trans qc2
    have fq52 : W5.frozen? ⟨w.heap.size + 1, 2, none⟩ = false := by rw [← hW5]; exact (frozen_far hne2).trans fqc2
    have HO5 : Hid (ownC W5 v1.heap.size (.slice o2 l.length c2) (l.take l.length)) := by rw [← hW5]; exact own_putJ Hr.out Hbx.out 2 _
    have HB5 : Hid (Below w.heap.size w W5) := by rw [← hW5]; exact (HB.out.trans (Hbl.out.mono HB.out.size)).setCell (p := ⟨B, 2, none⟩) (show w.heap.size ≤ B by have := HB.out.size; omega) _
    have hcz : w.heap.size + 1 < v1.heap.size := zr
    go_wp2
    refine bodyPost_ret (v := jrn key (.slice o2 l.length c2) (l.length : Int)) (by simp [results, Try.results59, go_sem, q50, q51, q52]) rfl ⟨o2, c2, rfl, own_mono (own_low (own_low (own_low HO5.out hcz 0 _) hcz 1 _) hcz 2 _) (by omega), setP_below HB5.out (Nat.le_succ _) _ _ _⟩

set_option maxRecDepth 100000 in
set_option maxHeartbeats 4000000 in
theorem specCut_sh (v : Value) (m : Jm) (keep : Int) (w : World) (hR : RdJm w.heap.size w v m) (hcp : roomJm v) (hf : fitJm m) :
    Calls Try.prog 59 #[v, .int .i64 keep] w fun e w' => ∃ v', e = .returned v' ∧ InJm w.heap.size w'.heap.size w' v' (cutM m keep) ∧ Below w.heap.size w w' := by
  have hok := fun W (hb : Below w.heap.size w W) => specJournalOk_sh v m W ((hR.kept hb (Nat.le_refl _)).le hb.size) hf
  obtain ⟨vl, rfl, ⟨o, c, rfl, r⟩⟩ := hR
  obtain ⟨hlc, hcap⟩ := hcp.two
  obtain ⟨key, l, safe⟩ := m
  dsimp only at *
  have HCM := hide (show cutM ⟨key, l, safe⟩ keep = if (journalB key l safe && decide (0 ≤ keep)) = true then ⟨key, l.take (cutN ⟨key, l, safe⟩ keep).toNat, cutN ⟨key, l, safe⟩ keep⟩ else jm0 from rfl)
  by_cases hall : (journalB key l safe && decide (0 ≤ keep)) = true
  · rw [if_pos hall] at HCM
    simp only [Bool.and_eq_true, decide_eq_true_eq] at hall
    obtain ⟨hj, hkp⟩ := hall
    rw [hj] at hok
    obtain ⟨hk, hl, h0, h1⟩ := journal_facts hj
    obtain ⟨n, hn⟩ : ∃ n : Nat, cutN ⟨key, l, safe⟩ keep = (n : Int) := ⟨(cutN ⟨key, l, safe⟩ keep).toNat, by unfold cutN; dsimp only; split <;> omega⟩
    rw [hn, Int.toNat_natCast] at HCM
    have hnl : n ≤ l.length := by have := hn; unfold cutN at this; dsimp only at this; split at this <;> omega
    have e1 : (l.take n).length = n := by simp; omega
    rw [HCM.out]
    cases o with
    | none =>
      have hc0 := hcap rfl
      subst hc0
      have hl0 : l = [] := List.eq_nil_of_length_eq_zero (by omega)
      subst hl0
      have hs0 : safe = 0 := by simp at h1; omega
      subst hs0
      have hn0 : n = 0 := by simpa using hnl
      subst hn0
      refine (specCut_nil key keep w hkp hok).mono ?_
      rintro e w' ⟨o2, c2, rfl, ho, hb⟩
      exact ⟨_, rfl, ⟨_, rfl, InRow.of ho⟩, hb⟩
    | some ad =>
      refine (specCut_go key safe keep ad c l n w r hlc hl h0 h1 hkp (show (n : Int) = cutI l safe keep from hn.symm) hok).mono ?_
      rintro e w' ⟨o2, c2, rfl, ho, hb⟩
      exact ⟨_, rfl, ⟨_, rfl, InRow.of ho⟩, hb⟩
  · rw [if_neg hall] at HCM
    have HALL := hide hall
    obtain ⟨W0, hW0⟩ : ∃ W, ((w.alloc (.cells #[.int .i64 key, .slice o l.length c, .int .i64 safe] 47)).alloc (.cells #[.int .i64 0, .slice none 0 0, .int .i64 0] 47)) = W := ⟨_, rfl⟩
    have hb_W0 : Below w.heap.size w W0 := by rw [← hW0]; exact (((Below.refl _ _).alloc (Nat.le_refl _) _).alloc (by simp <;> omega) _)
    have HB := hide hb_W0
    clear hb_W0
    have zz : w.heap.size < W0.heap.size := by rw [← hW0]; simp <;> omega
    have z0 : W0.cell? ⟨w.heap.size, 0, none⟩ = some (.int .i64 key) := by rw [← hW0]; simp [go_sem]
    have z1 : W0.cell? ⟨w.heap.size, 1, none⟩ = some (.slice o l.length c) := by rw [← hW0]; simp [go_sem]
    have z2 : W0.cell? ⟨w.heap.size, 2, none⟩ = some (.int .i64 safe) := by rw [← hW0]; simp [go_sem]
    have zr : w.heap.size + 1 < W0.heap.size := by rw [← hW0]; simp
    have r0 : W0.cell? ⟨w.heap.size + 1, 0, none⟩ = some (.int .i64 0) := by rw [← hW0]; simp [go_sem]
    have r1 : W0.cell? ⟨w.heap.size + 1, 1, none⟩ = some (.slice none 0 0) := by rw [← hW0]; simp [go_sem]
    have r2 : W0.cell? ⟨w.heap.size + 1, 2, none⟩ = some (.int .i64 0) := by rw [← hW0]; simp [go_sem]
    have fr0 : W0.frozen? ⟨w.heap.size + 1, 0, none⟩ = false := by rw [← hW0]; simp [go_sem]
    have fr1 : W0.frozen? ⟨w.heap.size + 1, 1, none⟩ = false := by rw [← hW0]; simp [go_sem]
    have fr2 : W0.frozen? ⟨w.heap.size + 1, 2, none⟩ = false := by rw [← hW0]; simp [go_sem]
    have HOK := hide (hok W0 HB.out)
    clear hok r
    cases hj : journalB key l safe with
    | false =>
      rw [hj] at HOK
      clear hj hall HALL
      go_enter Try.func59, Try.ntmps59
      go_wp2_with fail
      refine (HOK.out).mono ?_
      rintro e v1 ⟨rfl, hb⟩
      replace z0 := bC hb z0 zz
      replace z1 := bC hb z1 zz
      replace z2 := bC hb z2 zz
      replace zz := Nat.lt_of_lt_of_le zz hb.size
      replace r0 := bC hb r0 zr
      replace r1 := bC hb r1 zr
      replace r2 := bC hb r2 zr
      replace fr0 := bF hb fr0 zr
      replace fr1 := bF hb fr1 zr
      replace fr2 := bF hb fr2 zr
      replace zr := Nat.lt_of_lt_of_le zr hb.size
      replace HB := hide (HB.out.trans (hb.mono HB.out.size))
      clear hb
      go_wp2
      refine bodyPost_ret (v := jrn 0 (.slice none 0 0) 0) (by simp [results, Try.results59, go_sem, r0, r1, r2]) rfl ⟨_, rfl, ?_, setP_below HB.out (Nat.le_succ _) _ _ _⟩
      rw [HCM.out]
      exact ⟨_, rfl, World.ownsRow_nil _ _ _ _, fun b e => by cases e⟩
    | true =>
      have hkd : keep < 0 := by have := HALL.out; rw [hj] at this; simp at this; omega
      rw [hj] at HOK
      clear hj hall HALL
      go_enter Try.func59, Try.ntmps59
      go_wp2_with fail
      refine (HOK.out).mono ?_
      rintro e v1 ⟨rfl, hb⟩
      replace z0 := bC hb z0 zz
      replace z1 := bC hb z1 zz
      replace z2 := bC hb z2 zz
      replace zz := Nat.lt_of_lt_of_le zz hb.size
      replace r0 := bC hb r0 zr
      replace r1 := bC hb r1 zr
      replace r2 := bC hb r2 zr
      replace fr0 := bF hb fr0 zr
      replace fr1 := bF hb fr1 zr
      replace fr2 := bF hb fr2 zr
      replace zr := Nat.lt_of_lt_of_le zr hb.size
      replace HB := hide (HB.out.trans (hb.mono HB.out.size))
      clear hb
      go_wp2
      refine bodyPost_ret (v := jrn 0 (.slice none 0 0) 0) (by simp [results, Try.results59, go_sem, r0, r1, r2]) rfl ⟨_, rfl, ?_, setP_below HB.out (Nat.le_succ _) _ _ _⟩
      rw [HCM.out]
      exact ⟨_, rfl, World.ownsRow_nil _ _ _ _, fun b e => by cases e⟩

set_option maxRecDepth 100000 in
set_option maxHeartbeats 8000000 in
theorem implCut_nil (key keep : Int) (w : World) (hkp : 0 ≤ keep) (hok : ∀ W : World, Below w.heap.size w W → Calls Try.prog 29 #[jrn key (.slice none 0 0) 0] W fun e w' => e = .returned (.bool true) ∧ Below W.heap.size W w') :
    Calls Try.prog 38 #[jrn key (.slice none 0 0) 0, .int .i64 keep] w fun e w' => ∃ o2 c2, e = .returned (jrn key (.slice o2 0 c2) 0) ∧ ownC w' w.heap.size (.slice o2 0 c2) ([] : List Cd) ∧ Below w.heap.size w w' := by
  obtain ⟨W0, hW0⟩ : ∃ W, ((w.alloc (.cells #[.int .i64 key, .slice none 0 0, .int .i64 0] 47)).alloc (.cells #[.int .i64 0, .slice none 0 0, .int .i64 0] 47)) = W := ⟨_, rfl⟩
  have hb_W0 : Below w.heap.size w W0 := by rw [← hW0]; exact (((Below.refl _ _).alloc (Nat.le_refl _) _).alloc (by simp <;> omega) _)
  have HB := hide hb_W0
  clear hb_W0
  have zz : w.heap.size < W0.heap.size := by rw [← hW0]; simp <;> omega
  have z0 : W0.cell? ⟨w.heap.size, 0, none⟩ = some (.int .i64 key) := by rw [← hW0]; simp [go_sem]
  have z1 : W0.cell? ⟨w.heap.size, 1, none⟩ = some (.slice none 0 0) := by rw [← hW0]; simp [go_sem]
  have z2 : W0.cell? ⟨w.heap.size, 2, none⟩ = some (.int .i64 0) := by rw [← hW0]; simp [go_sem]
  have zr : w.heap.size + 1 < W0.heap.size := by rw [← hW0]; simp
  have r0 : W0.cell? ⟨w.heap.size + 1, 0, none⟩ = some (.int .i64 0) := by rw [← hW0]; simp [go_sem]
  have r1 : W0.cell? ⟨w.heap.size + 1, 1, none⟩ = some (.slice none 0 0) := by rw [← hW0]; simp [go_sem]
  have r2 : W0.cell? ⟨w.heap.size + 1, 2, none⟩ = some (.int .i64 0) := by rw [← hW0]; simp [go_sem]
  have fr0 : W0.frozen? ⟨w.heap.size + 1, 0, none⟩ = false := by rw [← hW0]; simp [go_sem]
  have fr1 : W0.frozen? ⟨w.heap.size + 1, 1, none⟩ = false := by rw [← hW0]; simp [go_sem]
  have fr2 : W0.frozen? ⟨w.heap.size + 1, 2, none⟩ = false := by rw [← hW0]; simp [go_sem]
  have hzr := zr
  have HOK := hide (hok W0 HB.out)
  clear hok
  have hkd : ¬ (keep < 0) := by omega
  have hkd2 : decide (keep < 0) = false := decide_eq_false hkd
  have hmn : min keep 0 = 0 := by omega
  have hkz : ¬ (keep < 0 - 0) := by omega
  have hkz2 : decide (keep < 0) = false := decide_eq_false (by omega)
  go_enter Try.func38, Try.ntmps38
  go_wp2_with fail
  refine (HOK.out).mono ?_
  rintro e v1 ⟨rfl, hb⟩
  have hs1 := hb.size
  replace z0 := bC hb z0 zz
  replace z1 := bC hb z1 zz
  replace z2 := bC hb z2 zz
  replace zz := Nat.lt_of_lt_of_le zz hb.size
  replace r0 := bC hb r0 zr
  replace r1 := bC hb r1 zr
  replace r2 := bC hb r2 zr
  replace fr0 := bF hb fr0 zr
  replace fr1 := bF hb fr1 zr
  replace fr2 := bF hb fr2 zr
  replace zr := Nat.lt_of_lt_of_le zr hb.size
  replace HB := hide (HB.out.trans (hb.mono HB.out.size))
  clear hb
  go_wp2
  go_region_held3 (fun w' => w'.cell? ⟨w.heap.size, 0, none⟩ = some (.int .i64 key) ∧ w'.cell? ⟨w.heap.size, 1, none⟩ = some (.slice none 0 0) ∧ w'.cell? ⟨w.heap.size, 2, none⟩ = some (.int .i64 0)) (first | with_reducible exact ⟨k0, k1, k2⟩ | with_reducible exact ⟨z0, z1, z2⟩ | with_reducible exact ⟨s0, s1, s2⟩ | go_keep) (first | (go_at_call 96; have hc_ := cloneN_any none 0 ([] : List Cd) 0 rfl v1.drew (.inl rfl) (fun _ => rfl) (by simp); with_reducible refine hc_.mono ?_; clear hc_; rintro e x0 ⟨o2, c2, rfl, ow2, hb⟩; have hp0 : Below v1.heap.size v1 x0 := Below.trans (show Below v1.heap.size v1 v1.drew from Below.drew (Below.refl _ _)) (hb.mono (by simp)); have ow2 := own_mono ow2 (show v1.heap.size ≤ _ by simp); have k0 := bC hp0 z0 zz; have k1 := bC hp0 z1 zz; have k2 := bC hp0 z2 zz; have qc0 := bC hp0 r0 zr; have qc1 := bC hp0 r1 zr; have qc2 := bC hp0 r2 zr; have fqc0 := bF hp0 fr0 zr; have fqc1 := bF hp0 fr1 zr; have fqc2 := bF hp0 fr2 zr; have s0 : (((x0.setCell ⟨w.heap.size + 1, 0, none⟩ (.int .i64 key)).setCell ⟨w.heap.size + 1, 1, none⟩ (.slice o2 0 c2)).setCell ⟨w.heap.size + 1, 2, none⟩ (.int .i64 0)).cell? ⟨w.heap.size, 0, none⟩ = some (.int .i64 key) := setP_cell k0 (Nat.lt_succ_self _); have s1 : (((x0.setCell ⟨w.heap.size + 1, 0, none⟩ (.int .i64 key)).setCell ⟨w.heap.size + 1, 1, none⟩ (.slice o2 0 c2)).setCell ⟨w.heap.size + 1, 2, none⟩ (.int .i64 0)).cell? ⟨w.heap.size, 1, none⟩ = some (.slice none 0 0) := setP_cell k1 (Nat.lt_succ_self _); have s2 : (((x0.setCell ⟨w.heap.size + 1, 0, none⟩ (.int .i64 key)).setCell ⟨w.heap.size + 1, 1, none⟩ (.slice o2 0 c2)).setCell ⟨w.heap.size + 1, 2, none⟩ (.int .i64 0)).cell? ⟨w.heap.size, 2, none⟩ = some (.int .i64 0) := setP_cell k2 (Nat.lt_succ_self _); have HO5 := hide ow2; have HP0 := hide hp0; clear hb ow2 hp0))
  have hcz : w.heap.size + 1 < v1.heap.size := zr
  go_wp2
  refine bodyPost_ret (v := jrn key (.slice o2 0 c2) 0) (by simp [results, Try.results38, go_sem, qc0, qc1, qc2]) rfl ⟨o2, c2, rfl, own_mono (own_low (own_low (own_low HO5.out hcz 0 _) hcz 1 _) hcz 2 _) (by omega), setP_below (HB.out.trans (HP0.out.mono HB.out.size)) (Nat.le_succ _) _ _ _⟩

set_option maxRecDepth 100000 in
set_option maxHeartbeats 8000000 in
theorem implCut_go (key safe keep : Int) (ad : Addr) (c : Nat) (l : List Cd) (n : Nat) (w : World) (hR : RdC w.heap.size w (some ad) l) (hlc : l.length ≤ c) (hl : l.length ≤ 100) (h0 : 0 ≤ safe) (h1 : safe ≤ (l.length : Int)) (hkp : 0 ≤ keep) (hn : (n : Int) = cutI l safe keep) (hok : ∀ W : World, Below w.heap.size w W → Calls Try.prog 29 #[jrn key (.slice (some ad) l.length c) safe] W fun e w' => e = .returned (.bool true) ∧ Below W.heap.size W w') :
    Calls Try.prog 38 #[jrn key (.slice (some ad) l.length c) safe, .int .i64 keep] w fun e w' => ∃ o2 c2, e = .returned (jrn key (.slice o2 n c2) (n : Int)) ∧ ownC w' w.heap.size (.slice o2 n c2) (l.take n) ∧ Below w.heap.size w w' := by
  obtain ⟨W0, hW0⟩ : ∃ W, ((w.alloc (.cells #[.int .i64 key, .slice (some ad) l.length c, .int .i64 safe] 47)).alloc (.cells #[.int .i64 0, .slice none 0 0, .int .i64 0] 47)) = W := ⟨_, rfl⟩
  have hb_W0 : Below w.heap.size w W0 := by rw [← hW0]; exact (((Below.refl _ _).alloc (Nat.le_refl _) _).alloc (by simp <;> omega) _)
  have HB := hide hb_W0
  clear hb_W0
  have zz : w.heap.size < W0.heap.size := by rw [← hW0]; simp <;> omega
  have z0 : W0.cell? ⟨w.heap.size, 0, none⟩ = some (.int .i64 key) := by rw [← hW0]; simp [go_sem]
  have z1 : W0.cell? ⟨w.heap.size, 1, none⟩ = some (.slice (some ad) l.length c) := by rw [← hW0]; simp [go_sem]
  have z2 : W0.cell? ⟨w.heap.size, 2, none⟩ = some (.int .i64 safe) := by rw [← hW0]; simp [go_sem]
  have zr : w.heap.size + 1 < W0.heap.size := by rw [← hW0]; simp
  have r0 : W0.cell? ⟨w.heap.size + 1, 0, none⟩ = some (.int .i64 0) := by rw [← hW0]; simp [go_sem]
  have r1 : W0.cell? ⟨w.heap.size + 1, 1, none⟩ = some (.slice none 0 0) := by rw [← hW0]; simp [go_sem]
  have r2 : W0.cell? ⟨w.heap.size + 1, 2, none⟩ = some (.int .i64 0) := by rw [← hW0]; simp [go_sem]
  have fr0 : W0.frozen? ⟨w.heap.size + 1, 0, none⟩ = false := by rw [← hW0]; simp [go_sem]
  have fr1 : W0.frozen? ⟨w.heap.size + 1, 1, none⟩ = false := by rw [← hW0]; simp [go_sem]
  have fr2 : W0.frozen? ⟨w.heap.size + 1, 2, none⟩ = false := by rw [← hW0]; simp [go_sem]
  have hzr := zr
  have HOK := hide (hok W0 HB.out)
  clear hok
  have hkd : ¬ (keep < 0) := by omega
  have hkd2 : decide (keep < 0) = false := decide_eq_false hkd
  have hnl : n ≤ l.length := by have := hn; unfold cutI at this; split at this <;> omega
  have hn0 : (0 : Int) ≤ (n : Int) := by omega
  have hn1 : (n : Int) ≤ (l.length : Int) := by omega
  have hn2 : (n : Int) ≤ (c : Int) := by omega
  have hnc : n ≤ c := by omega
  have HRT := hide (rdC_take n hR)
  have HTL := hide (show n = (l.take n).length by simp; omega)
  have HL2 := hide (show (l.take n).length ≤ 1048576 by simp; omega)
  have w1 : IntKind.i64.wrap ((l.length : Int) - safe) = (l.length : Int) - safe := by rw [IntKind.wrap_i64]; omega
  have HCN := hide (show (n : Int) = if keep < (l.length : Int) - safe then safe + keep else l.length from hn)
  clear hn hR
  have w2 : IntKind.i64.wrap (safe + min keep ((l.length : Int) - safe)) = (n : Int) := by have := HCN.out; rw [IntKind.wrap_i64]; split at this <;> omega
  go_enter Try.func38, Try.ntmps38
  go_wp2_with fail
  refine (HOK.out).mono ?_
  rintro e v1 ⟨rfl, hb⟩
  have hs1 := hb.size
  replace z0 := bC hb z0 zz
  replace z1 := bC hb z1 zz
  replace z2 := bC hb z2 zz
  replace zz := Nat.lt_of_lt_of_le zz hb.size
  replace r0 := bC hb r0 zr
  replace r1 := bC hb r1 zr
  replace r2 := bC hb r2 zr
  replace fr0 := bF hb fr0 zr
  replace fr1 := bF hb fr1 zr
  replace fr2 := bF hb fr2 zr
  replace zr := Nat.lt_of_lt_of_le zr hb.size
  replace HB := hide (HB.out.trans (hb.mono HB.out.size))
  clear hb
  go_wp2
  go_region_held3 (fun w' => w'.cell? ⟨w.heap.size, 0, none⟩ = some (.int .i64 key) ∧ w'.cell? ⟨w.heap.size, 1, none⟩ = some (.slice (some ad) l.length c) ∧ w'.cell? ⟨w.heap.size, 2, none⟩ = some (.int .i64 safe)) (first | with_reducible exact ⟨k0, k1, k2⟩ | with_reducible exact ⟨z0, z1, z2⟩ | with_reducible exact ⟨s0, s1, s2⟩ | go_keep) (first | (go_at_call 96; have hc_ := cloneN_any (some ad) c (l.take n) n HTL.out v1.drew ((HRT.out.kept (HB.out.trans ((show Below v1.heap.size v1 v1.drew from Below.drew (Below.refl _ _)).mono HB.out.size)) (Nat.le_refl _)).le ((HB.out.trans ((show Below v1.heap.size v1 v1.drew from Below.drew (Below.refl _ _)).mono HB.out.size))).size) (fun h => by cases h) HL2.out; with_reducible refine hc_.mono ?_; clear hc_; rintro e x0 ⟨o2, c2, rfl, ow2, hb⟩; have hp0 : Below v1.heap.size v1 x0 := Below.trans (show Below v1.heap.size v1 v1.drew from Below.drew (Below.refl _ _)) (hb.mono (by simp)); have ow2 := own_mono ow2 (show v1.heap.size ≤ _ by simp); have k0 := bC hp0 z0 zz; have k1 := bC hp0 z1 zz; have k2 := bC hp0 z2 zz; have qc0 := bC hp0 r0 zr; have qc1 := bC hp0 r1 zr; have qc2 := bC hp0 r2 zr; have fqc0 := bF hp0 fr0 zr; have fqc1 := bF hp0 fr1 zr; have fqc2 := bF hp0 fr2 zr; have s0 : (((x0.setCell ⟨w.heap.size + 1, 0, none⟩ (.int .i64 key)).setCell ⟨w.heap.size + 1, 1, none⟩ (.slice o2 n c2)).setCell ⟨w.heap.size + 1, 2, none⟩ (.int .i64 (n : Int))).cell? ⟨w.heap.size, 0, none⟩ = some (.int .i64 key) := setP_cell k0 (Nat.lt_succ_self _); have s1 : (((x0.setCell ⟨w.heap.size + 1, 0, none⟩ (.int .i64 key)).setCell ⟨w.heap.size + 1, 1, none⟩ (.slice o2 n c2)).setCell ⟨w.heap.size + 1, 2, none⟩ (.int .i64 (n : Int))).cell? ⟨w.heap.size, 1, none⟩ = some (.slice (some ad) l.length c) := setP_cell k1 (Nat.lt_succ_self _); have s2 : (((x0.setCell ⟨w.heap.size + 1, 0, none⟩ (.int .i64 key)).setCell ⟨w.heap.size + 1, 1, none⟩ (.slice o2 n c2)).setCell ⟨w.heap.size + 1, 2, none⟩ (.int .i64 (n : Int))).cell? ⟨w.heap.size, 2, none⟩ = some (.int .i64 safe) := setP_cell k2 (Nat.lt_succ_self _); have HO5 := hide ow2; have HP0 := hide hp0; clear hb ow2 hp0))
  have hcz : w.heap.size + 1 < v1.heap.size := zr
  go_wp2
  refine bodyPost_ret (v := jrn key (.slice o2 n c2) (n : Int)) (by simp [results, Try.results38, go_sem, qc0, qc1, qc2]) rfl ⟨o2, c2, rfl, own_mono (own_low (own_low (own_low HO5.out hcz 0 _) hcz 1 _) hcz 2 _) (by omega), setP_below (HB.out.trans (HP0.out.mono HB.out.size)) (Nat.le_succ _) _ _ _⟩

set_option maxRecDepth 100000 in
set_option maxHeartbeats 4000000 in
theorem implCut_sh (v : Value) (m : Jm) (keep : Int) (w : World) (hR : RdJm w.heap.size w v m) (hcp : roomJm v) (hf : fitJm m) :
    Calls Try.prog 38 #[v, .int .i64 keep] w fun e w' => ∃ v', e = .returned v' ∧ InJm w.heap.size w'.heap.size w' v' (cutM m keep) ∧ Below w.heap.size w w' := by
  have hok := fun W (hb : Below w.heap.size w W) => implJournalOk_sh v m W ((hR.kept hb (Nat.le_refl _)).le hb.size) hf
  obtain ⟨vl, rfl, ⟨o, c, rfl, r⟩⟩ := hR
  obtain ⟨hlc, hcap⟩ := hcp.two
  obtain ⟨key, l, safe⟩ := m
  dsimp only at *
  have HCM := hide (show cutM ⟨key, l, safe⟩ keep = if (journalB key l safe && decide (0 ≤ keep)) = true then ⟨key, l.take (cutN ⟨key, l, safe⟩ keep).toNat, cutN ⟨key, l, safe⟩ keep⟩ else jm0 from rfl)
  by_cases hall : (journalB key l safe && decide (0 ≤ keep)) = true
  · rw [if_pos hall] at HCM
    simp only [Bool.and_eq_true, decide_eq_true_eq] at hall
    obtain ⟨hj, hkp⟩ := hall
    rw [hj] at hok
    obtain ⟨hk, hl, h0, h1⟩ := journal_facts hj
    obtain ⟨n, hn⟩ : ∃ n : Nat, cutN ⟨key, l, safe⟩ keep = (n : Int) := ⟨(cutN ⟨key, l, safe⟩ keep).toNat, by unfold cutN; dsimp only; split <;> omega⟩
    rw [hn, Int.toNat_natCast] at HCM
    have hnl : n ≤ l.length := by have := hn; unfold cutN at this; dsimp only at this; split at this <;> omega
    have e1 : (l.take n).length = n := by simp; omega
    rw [HCM.out]
    cases o with
    | none =>
      have hc0 := hcap rfl
      subst hc0
      have hl0 : l = [] := List.eq_nil_of_length_eq_zero (by omega)
      subst hl0
      have hs0 : safe = 0 := by simp at h1; omega
      subst hs0
      have hn0 : n = 0 := by simpa using hnl
      subst hn0
      refine (implCut_nil key keep w hkp hok).mono ?_
      rintro e w' ⟨o2, c2, rfl, ho, hb⟩
      exact ⟨_, rfl, ⟨_, rfl, InRow.of ho⟩, hb⟩
    | some ad =>
      refine (implCut_go key safe keep ad c l n w r hlc hl h0 h1 hkp (show (n : Int) = cutI l safe keep from hn.symm) hok).mono ?_
      rintro e w' ⟨o2, c2, rfl, ho, hb⟩
      exact ⟨_, rfl, ⟨_, rfl, InRow.of ho⟩, hb⟩
  · rw [if_neg hall] at HCM
    have HALL := hide hall
    obtain ⟨W0, hW0⟩ : ∃ W, ((w.alloc (.cells #[.int .i64 key, .slice o l.length c, .int .i64 safe] 47)).alloc (.cells #[.int .i64 0, .slice none 0 0, .int .i64 0] 47)) = W := ⟨_, rfl⟩
    have hb_W0 : Below w.heap.size w W0 := by rw [← hW0]; exact (((Below.refl _ _).alloc (Nat.le_refl _) _).alloc (by simp <;> omega) _)
    have HB := hide hb_W0
    clear hb_W0
    have zz : w.heap.size < W0.heap.size := by rw [← hW0]; simp <;> omega
    have z0 : W0.cell? ⟨w.heap.size, 0, none⟩ = some (.int .i64 key) := by rw [← hW0]; simp [go_sem]
    have z1 : W0.cell? ⟨w.heap.size, 1, none⟩ = some (.slice o l.length c) := by rw [← hW0]; simp [go_sem]
    have z2 : W0.cell? ⟨w.heap.size, 2, none⟩ = some (.int .i64 safe) := by rw [← hW0]; simp [go_sem]
    have zr : w.heap.size + 1 < W0.heap.size := by rw [← hW0]; simp
    have r0 : W0.cell? ⟨w.heap.size + 1, 0, none⟩ = some (.int .i64 0) := by rw [← hW0]; simp [go_sem]
    have r1 : W0.cell? ⟨w.heap.size + 1, 1, none⟩ = some (.slice none 0 0) := by rw [← hW0]; simp [go_sem]
    have r2 : W0.cell? ⟨w.heap.size + 1, 2, none⟩ = some (.int .i64 0) := by rw [← hW0]; simp [go_sem]
    have fr0 : W0.frozen? ⟨w.heap.size + 1, 0, none⟩ = false := by rw [← hW0]; simp [go_sem]
    have fr1 : W0.frozen? ⟨w.heap.size + 1, 1, none⟩ = false := by rw [← hW0]; simp [go_sem]
    have fr2 : W0.frozen? ⟨w.heap.size + 1, 2, none⟩ = false := by rw [← hW0]; simp [go_sem]
    have HOK := hide (hok W0 HB.out)
    clear hok r
    cases hj : journalB key l safe with
    | false =>
      rw [hj] at HOK
      clear hj hall HALL
      go_enter Try.func38, Try.ntmps38
      go_wp2_with fail
      refine (HOK.out).mono ?_
      rintro e v1 ⟨rfl, hb⟩
      replace z0 := bC hb z0 zz
      replace z1 := bC hb z1 zz
      replace z2 := bC hb z2 zz
      replace zz := Nat.lt_of_lt_of_le zz hb.size
      replace r0 := bC hb r0 zr
      replace r1 := bC hb r1 zr
      replace r2 := bC hb r2 zr
      replace fr0 := bF hb fr0 zr
      replace fr1 := bF hb fr1 zr
      replace fr2 := bF hb fr2 zr
      replace zr := Nat.lt_of_lt_of_le zr hb.size
      replace HB := hide (HB.out.trans (hb.mono HB.out.size))
      clear hb
      go_wp2
      refine bodyPost_ret (v := jrn 0 (.slice none 0 0) 0) (by simp [results, Try.results38, go_sem, r0, r1, r2]) rfl ⟨_, rfl, ?_, setP_below HB.out (Nat.le_succ _) _ _ _⟩
      rw [HCM.out]
      exact ⟨_, rfl, World.ownsRow_nil _ _ _ _, fun b e => by cases e⟩
    | true =>
      have hkd : keep < 0 := by have := HALL.out; rw [hj] at this; simp at this; omega
      rw [hj] at HOK
      clear hj hall HALL
      go_enter Try.func38, Try.ntmps38
      go_wp2_with fail
      refine (HOK.out).mono ?_
      rintro e v1 ⟨rfl, hb⟩
      replace z0 := bC hb z0 zz
      replace z1 := bC hb z1 zz
      replace z2 := bC hb z2 zz
      replace zz := Nat.lt_of_lt_of_le zz hb.size
      replace r0 := bC hb r0 zr
      replace r1 := bC hb r1 zr
      replace r2 := bC hb r2 zr
      replace fr0 := bF hb fr0 zr
      replace fr1 := bF hb fr1 zr
      replace fr2 := bF hb fr2 zr
      replace zr := Nat.lt_of_lt_of_le zr hb.size
      replace HB := hide (HB.out.trans (hb.mono HB.out.size))
      clear hb
      go_wp2
      refine bodyPost_ret (v := jrn 0 (.slice none 0 0) 0) (by simp [results, Try.results38, go_sem, r0, r1, r2]) rfl ⟨_, rfl, ?_, setP_below HB.out (Nat.le_succ _) _ _ _⟩
      rw [HCM.out]
      exact ⟨_, rfl, World.ownsRow_nil _ _ _ _, fun b e => by cases e⟩

end Go.Proofs.Ytflakpmcgopdaaa

/- JournalRead: what it tells, and what its loop wants. -/
namespace Go.Proofs.Ytflakpmcgopdaaa
open Go.ChangeShapes Go.WideShapes Go.ChangeAt Go.RowKit Go.Joins
set_option linter.unusedVariables false
set_option linter.unusedSimpArgs false

/-- The command that stands at t in the bytes, the commands, the key. -/
def byC (L : List Int) (t : Nat) : Cd := (L.getD (4 + 3 * t) 0, L.getD (4 + 3 * t + 1) 0, L.getD (4 + 3 * t + 2) 0)
def cmdsR (L : List Int) (n : Nat) : List Cd := (List.range n).map (byC L)
theorem cmdsR_succ (L : List Int) (n : Nat) : cmdsR L (n + 1) = cmdsR L n ++ [byC L n] := by simp [cmdsR, List.range_succ]
theorem cmdsR_len (L : List Int) (n : Nat) : (cmdsR L n).length = n := by simp [cmdsR]
def keyR (L : List Int) : Int := L.getD 0 0 * 65536 + L.getD 1 0 * 256 + L.getD 2 0
def numR (L : List Int) : Nat := (L.length - 4) / 3
def fineR (L : List Int) : Bool := decide (4 ≤ L.length) && decide ((L.length - 4) % 3 = 0)
def okJ (L : List Int) : Bool := fineR L && journalB (keyR L) (cmdsR L (numR L)) (L.getD 3 0)
/-- What JournalRead tells. -/
def jrR (L : List Int) : Jm := if okJ L = true then ⟨keyR L, cmdsR L (numR L), L.getD 3 0⟩ else jm0
theorem okJ_long {L : List Int} (h : okJ L = true) : 4 ≤ L.length ∧ (L.length - 4) % 3 = 0 ∧ L.length ≤ 304 := by
  unfold okJ fineR at h
  simp only [Bool.and_eq_true, decide_eq_true_eq] at h
  have := (journal_facts h.2).2.1
  rw [cmdsR_len] at this
  unfold numR at this
  omega
theorem jrR_fit (L : List Int) : (jrR L).l.length ≤ 1048576 := by
  unfold jrR
  split
  · next h =>
    have := okJ_long h
    simp only [cmdsR_len, numR]; omega
  · decide
abbrev readJ (L : List Int) (w : World) (e : Ending) (w' : World) : Prop := ∃ v', e = .returned (.tuple #[v', .bool (okJ L)]) ∧ InJm w.heap.size w'.heap.size w' v' (jrR L) ∧ Below w.heap.size w w'
theorem finR {W : World} {s k : Value} :
    ∃ B', Value.pointer (some ⟨W.heap.size, 0, none⟩) = .pointer (some ⟨B', 0, none⟩) ∧ Hid ((W.alloc (.cells #[k, .slice none 0 0, s] 47)).drew.heap[B']? = some (.cells #[k, .slice none 0 0, s] 47 (0, 0))) ∧ Hid (Below W.heap.size W (W.alloc (.cells #[k, .slice none 0 0, s] 47)).drew) ∧ W.heap.size ≤ B' :=
  ⟨W.heap.size, rfl, World.alloc_heap_new W _, Below.drew ((Below.refl _ _).alloc (Nat.le_refl _) _), Nat.le_refl _⟩
theorem rd_oneR {w : World} {x y z : Int} {T : TypeId} : RdC (w.alloc (.cells #[.int .i64 x, .int .i64 y, .int .i64 z] T)).heap.size (w.alloc (.cells #[.int .i64 x, .int .i64 y, .int .i64 z] T)) (some ⟨w.heap.size, 0, none⟩) [(x, y, z)] :=
  .inr ⟨w.heap.size, 0, rfl, by simp, fun i hi j hj => by
    have e1 : i = 0 := by simpa using hi
    subst e1
    match j, hj with
    | 0, _ => simp [layC]
    | 1, _ => simp [layC]
    | 2, _ => simp [layC]⟩
theorem rd_oneCd {w : World} {x y z : Int} {T : TypeId} : RdC (w.alloc (.cells #[.int .i64 x, .int .i64 y, .int .i64 z] T)).heap.size (w.alloc (.cells #[.int .i64 x, .int .i64 y, .int .i64 z] T)).drew (some ⟨w.heap.size, 0, none⟩) [(x, y, z)] :=
  rd_oneR.kept (Below.drew (Below.refl _ _)) (Nat.le_refl _)
/-- The journal's box in a round of the loop. -/
def JB (w : World) (base B : Nat) (k s : Int) (o : Option Addr) (t c : Nat) (l : List Cd) : Prop := w.heap[B]? = some (.cells #[.int .i64 k, .slice o t c, .int .i64 s] 47 (0, 0)) ∧ ownC w base (.slice o t c) l

theorem JB.put {w6 wr : World} {base B : Nat} {k s : Int} {v : Value} {o6 : Option Addr} {t6 c6 : Nat} {l : List Cd} (hx6 : w6.heap[B]? = some (.cells #[.int .i64 k, v, .int .i64 s] 47 (0, 0))) (ho6 : ownC w6 base (.slice o6 t6 c6) l) (hb6 : Below base wr w6) (hB : base ≤ B) :
    ∃ o' c', Hid (JB (w6.setCell ⟨B, 1, none⟩ (.slice o6 t6 c6)) base B k s o' t6 c' l) ∧ Hid (Below base wr (w6.setCell ⟨B, 1, none⟩ (.slice o6 t6 c6))) :=
  ⟨o6, c6, ⟨box_put hx6 1 _, own_putJ ho6 hx6 1 _⟩, hb6.setCell (p := ⟨B, 1, none⟩) hB _⟩
theorem box_farR {wr w6 : World} {ob : Obj} {B : Nat} {q : Option Nat} {x : Obj} (h : wr.heap[B]? = some x) (hg : (wr.alloc ob).drew.grownBy w6 q) (hne : q = none ∨ q ≠ some B) : w6.heap[B]? = some x := by
  have hl := (Array.getElem?_eq_some_iff.1 h).1
  refine (hg.block B (by simp; omega) (fun e => ?_)).trans (((Below.drew ((Below.refl _ _).alloc (Nat.le_refl _) ob)).block B hl).trans h)
  rcases hne with hq | hq
  · rw [hq] at e; cases e
  · exact hq e.symm
theorem own_far {wr w6 : World} {ob : Obj} {base : Nat} {v : Value} {l : List Cd} (ho : ownC wr base v l) (hb : base ≤ wr.heap.size) (hg : (wr.alloc ob).drew.grownBy w6 v.ownBlock) : Below base wr w6 :=
  ((Below.drew ((Below.refl _ _).alloc (Nat.le_refl _) ob)).mono hb).grown hg (by simp; omega) (fun k h => (ho.lt k h).1)


end Go.Proofs.Ytflakpmcgopdaaa

/- CheckSum on both sides: a plain function on lists of bytes, and the contracts. -/
namespace Go.Proofs.Ytflakpmcgopdaaa
open Go.ChangeShapes Go.WideShapes Go.ChangeAt Go.RowKit Go.Joins
set_option linter.unusedVariables false
set_option linter.unusedSimpArgs false

def pairLS (l : List Int) (i : Nat) : Int := l.getD i 0 * 256 + l.getD (i + 1) 0
def stepL (n x : Int) : Int := if 65535 < n + x then n + x - 65535 else n + x
def sumToS (l : List Int) : Nat → Int
  | 0 => 0
  | k + 1 => stepL (sumToS l k) (pairLS l (2 * k))
def checkL (l : List Int) : Int := 65535 - sumToS l ((l.length + 1) / 2)

def sumL (l : List Int) : Int := if 2000 < l.length then -1 else checkL l

theorem pairL_bd {l : List Int} (h : isB l) (i : Nat) : 0 ≤ pairLS l i ∧ pairLS l i ≤ 65535 := by
  have h1 := h.get i; have h2 := h.get (i + 1); unfold pairLS; omega
theorem sumTo_bd {l : List Int} (h : isB l) (k : Nat) : 0 ≤ sumToS l k ∧ sumToS l k ≤ 65535 := by
  induction k with
  | zero => simp [sumToS]
  | succ k ih => have := pairL_bd h (2 * k); unfold sumToS stepL; split <;> omega

set_option maxHeartbeats 1000000 in
theorem pairAt_any (o : Option Addr) (cap : Nat) (l : List Int) (i : Nat) (w : World) (hR : Rd w o l) (hB8 : isB l) (hlen : l.length ≤ 1048576) (hi : i < l.length) :
    Calls Try.prog 90 #[.slice o l.length cap, .int .i64 i] w fun e w' => e = .returned (.int .i64 (pairLS l i)) ∧ w = w' := by
  rcases hR with hR | ⟨b, off, rfl, hbl, hcell⟩
  · subst hR; simp at hi
  have hc0 := hcell i hi
  have b0 := hB8.get i
  by_cases h1 : i + 1 < l.length
  · have hc1 := hcell (i + 1) h1
    have b1 := hB8.get (i + 1)
    have e1 : off + (i + 1) = off + i + 1 := by omega
    rw [e1] at hc1
    have HP := hide (show l.getD i 0 * 256 + l.getD (i + 1) 0 = pairLS l i from rfl)
    clear hcell
    generalize l.getD i 0 = x at *
    generalize l.getD (i + 1) 0 = y at *
    have HO := hide (or_bytes x y b0 b1)
    go_enter Try.func90, Try.ntmps90
    go_wp2
    go_ret
    exact ⟨ret_int (HO.out.trans HP.out), rfl⟩
  · have HP : Hid (l.getD i 0 * 256 = pairLS l i) := by
      have : l.getD (i + 1) 0 = 0 := by simp [List.getElem?_eq_none (Nat.le_of_not_lt h1)]
      unfold Hid pairLS; rw [this]; omega
    clear hcell
    generalize l.getD i 0 = x at *
    go_enter Try.func90, Try.ntmps90
    go_wp2
    go_ret
    exact ⟨ret_int HP.out, rfl⟩

theorem sumTo_yes (l : List Int) (j k : Nat) (hj : j = 2 * k) (h : 65535 < sumToS l k + pairLS l j) : sumToS l (k + 1) = sumToS l k + pairLS l j - 65535 := by subst hj; simp [sumToS, stepL, h]
theorem sumTo_no (l : List Int) (j k : Nat) (hj : j = 2 * k) (h : ¬ 65535 < sumToS l k + pairLS l j) : sumToS l (k + 1) = sumToS l k + pairLS l j := by subst hj; simp [sumToS, stepL, h]
theorem pairL_end (l : List Int) (j : Nat) (h : ¬ j + 1 < l.length) : pairLS l j = l.getD j 0 * 256 := by
  have : l.getD (j + 1) 0 = 0 := by simp [List.getElem?_eq_none (Nat.le_of_not_lt h)]
  unfold pairLS; rw [this]; omega
theorem sumTo_end (l : List Int) (j k : Nat) (hj : j = 2 * k) (h1 : j ≤ l.length + 1) (h2 : ¬ j < l.length) : 65535 - sumToS l k = checkL l := by
  have : k = (l.length + 1) / 2 := by omega
  rw [checkL, this]

end Go.Proofs.Ytflakpmcgopdaaa

/- Contracts of the laws' own helpers over bytes: szByteS, toByteS, eqByteS. -/
namespace Go.Proofs.Ytflakpmcgopdaaa
open Go.ChangeShapes Go.WideShapes Go.ChangeAt Go.RowKit Go.Joins
set_option linter.unusedVariables false
set_option linter.unusedSimpArgs false

def fillTo (l : List Int) (k : Nat) : List Int := l.take k ++ List.replicate (l.length - k) 0
theorem fillTo_length (l : List Int) (k : Nat) (h : k ≤ l.length) : (fillTo l k).length = l.length := by simp [fillTo]; omega
theorem fillTo_zero (l : List Int) : fillTo l 0 = List.replicate l.length 0 := by simp [fillTo]
theorem fillTo_all (l : List Int) : fillTo l l.length = l := by simp [fillTo]
theorem fillTo_set (l : List Int) (k : Nat) (h : k < l.length) : ((fillTo l k).map (Value.int .u8)).set k (.int .u8 (l.getD k 0)) = (fillTo l (k + 1)).map (Value.int .u8) := by
  rw [← List.map_set]
  congr 1
  have e1 : l.length - k = (l.length - (k + 1)) + 1 := by omega
  have e2 : (l.take k).length = k := by simp; omega
  unfold fillTo
  rw [e1, List.replicate_succ, List.set_append_right _ _ (by omega), e2, Nat.sub_self, List.set_cons_zero, List.take_succ_eq_append_getElem h]
  have e3 : l.getD k 0 = l[k] := by simp [h]
  rw [e3, List.append_assoc]
  rfl

/-- The row that is filled, at its (k+1)st store. -/
theorem fill_step {w wr : World} {g : Nat} {l : List Int} {k : Nat} (hk : k < l.length) (hg : w.heap.size ≤ g) (hown : wr.ownsRow w.heap.size 5 1 (.slice (some ⟨g, 0, none⟩) l.length l.length) l.length ((fillTo l k).map (Value.int .u8)))
    (hB : Below w.heap.size w wr) : (wr.setCell ⟨g, k, none⟩ (.int .u8 (l.getD k 0))).ownsRow w.heap.size 5 1 (.slice (some ⟨g, 0, none⟩) l.length l.length) l.length ((fillTo l (k + 1)).map (Value.int .u8)) ∧
      Below w.heap.size w (wr.setCell ⟨g, k, none⟩ (.int .u8 (l.getD k 0))) := by
  have h := (hown.stored k (.int .u8 (l.getD k 0))).1
  rw [fillTo_set l k hk] at h
  exact ⟨h, hB.setCell hg _⟩

set_option maxHeartbeats 1000000 in
theorem toByteS_any (o : Option Addr) (cap : Nat) (l : List Int) (w : World) (hR : Rd w o l) (hB8 : isB l) (hlen : l.length ≤ 1048576) :
    Calls Try.prog 65 #[.slice o l.length cap] w fun e w' => ∃ g, e = .returned (.slice (some ⟨g, 0, none⟩) l.length l.length) ∧ ownB w' w.heap.size (.slice (some ⟨g, 0, none⟩) l.length l.length) l ∧ Below w.heap.size w w' := by
  obtain ⟨i0, hi, hz0, hz1, hz2⟩ := info_parts infoU8
  have hB : Below w.heap.size w w := Below.refl _ _
  go_enter Try.func65, Try.ntmps65
  go_wp2_with (at_make; refine wpList_make_full _ rfl _ _ 22 rfl w.heap.size 5 i0 (.int .u8 0) 1 Try.underlying22 hi hz0 hz1 _ _ _ _ l.length rfl rfl rfl rfl ?b2 ?b3 ?b4 ?_)
  case b2 => rw [hz2]; omega
  case b3 => unfold maxLen; omega
  case b4 => simp
  intro w1 hown hgrow
  have hB1 : Below w.heap.size w w1 := hB.grown hgrow (Nat.le_refl _) (fun k h => by cases h)
  have hown1 : w1.ownsRow w.heap.size 5 1 (.slice (some ⟨w.heap.size, 0, none⟩) l.length l.length) l.length ((fillTo l 0).map (Value.int .u8)) := by
    rw [fillTo_zero]; simpa [toList_madeCells_one, Value.cells] using hown
  clear hown hgrow hB
  go_wp2
  go_loopw [4] (fun i wr => ∃ k : Nat, k ≤ l.length ∧ i = .int .i64 k ∧ wr.ownsRow w.heap.size 5 1 (.slice (some ⟨w.heap.size, 0, none⟩) l.length l.length) l.length ((fillTo l k).map (Value.int .u8)) ∧ Below w.heap.size w wr)
    (fun i _ => l.length - (intOf i).toNat)
  case atStart => exact ⟨0, Nat.zero_le _, rfl, hown1, hB1⟩
  case round =>
    obtain ⟨k, hk, rfl, hown, hBr⟩ := hrel
    by_cases hlt : k < l.length
    · rcases hR with hR | ⟨b, off, rfl, hbl, hcell⟩
      · subst hR; simp at hlt
      have hc : wr.cell? ⟨b, off + k, none⟩ = some (.int .u8 (l.getD k 0)) := (hBr.cell (p := ⟨b, off + k, none⟩) hbl).trans (hcell k hlt)
      have hcl := hown.cellAt k (by omega)
      have hfr := hown.frozenAt k
      obtain ⟨u, hu⟩ : ∃ u, wr.cell? ⟨w.heap.size, k, none⟩ = some u := ⟨_, hcl.trans (List.getElem?_eq_getElem (by simp [fillTo_length l k hk]; omega))⟩
      have R := fill_step (g := w.heap.size) hlt (Nat.le_refl _) hown hBr
      have HR := hide R
      clear R hown hBr hcl hB1 hown1
      generalize hx : l.getD k 0 = x at *
      go_wp2
      go_roundw
      case rel => exact ⟨k + 1, by omega, by go_num, HR.out.1, HR.out.2⟩
      case measure => simp [intOf]; omega
    · have e : k = l.length := by omega
      subst e
      rw [fillTo_all] at hown
      go_wp2
      go_ret
      exact ⟨w.heap.size, rfl, hown, hBr⟩

set_option maxHeartbeats 1000000 in
theorem eqByteS_any (o1 o2 : Option Addr) (c1 c2 : Nat) (l1 l2 : List Int) (w : World) (h1 : Rd w o1 l1) (h2 : Rd w o2 l2) (hl1 : l1.length ≤ 1048576) (hl2 : l2.length ≤ 1048576) :
    Calls Try.prog 61 #[.slice o1 l1.length c1, .slice o2 l2.length c2] w fun e w' => e = .returned (.bool (decide (l1 = l2))) ∧ Below w.heap.size w w' := by
  by_cases hlen : l1.length = l2.length
  · have hne : ((l1.length : Int) != (l2.length : Int)) = false := by simp [hlen]
    have HL := hide hlen
    have hle : l1.length ≤ l2.length := by omega
    have hge : l2.length ≤ l1.length := by omega
    clear hlen
    go_enter Try.func61, Try.ntmps61
    go_wp2
    go_loopw [5] (fun i wr => ∃ k : Nat, k ≤ l1.length ∧ i = .int .i64 k ∧ l1.take k = l2.take k ∧ Below w.heap.size w wr)
      (fun i _ => l1.length - (intOf i).toNat)
    case atStart => exact ⟨0, Nat.zero_le _, rfl, rfl, Below.refl _ _⟩
    case round =>
      obtain ⟨k, hk, rfl, htk, hBr⟩ := hrel
      have HT := hide htk
      by_cases hlt : k < l1.length
      · rcases h1 with h1 | ⟨b1, off1, rfl, hb1, hcell1⟩
        · subst h1; simp at hlt
        rcases h2 with h2 | ⟨b2, off2, rfl, hb2, hcell2⟩
        · subst h2; simp at hle; simp [hle] at hlt
        have hlt2 : k < l2.length := by omega
        have hc1 : wr.cell? ⟨b1, off1 + k, none⟩ = some (.int .u8 (l1.getD k 0)) := (hBr.cell (p := ⟨b1, off1 + k, none⟩) hb1).trans (hcell1 k hlt)
        have hc2 : wr.cell? ⟨b2, off2 + k, none⟩ = some (.int .u8 (l2.getD k 0)) := (hBr.cell (p := ⟨b2, off2 + k, none⟩) hb2).trans (hcell2 k (by omega))
        have HB := hide hBr
        have t1 := hide (take_succ_getD l1 k hlt)
        have t2 := hide (take_succ_getD l2 k hlt2)
        have n12 : l1 = l2 → l1.getD k 0 = l2.getD k 0 := fun h => by rw [h]
        have N12 := hide n12
        clear n12 hcell1 hcell2
        have i1 : (k : Int) < (l1.length : Int) := by omega
        have i2 : (k : Int) < (l2.length : Int) := by omega
        generalize l1.getD k 0 = x at *
        generalize l2.getD k 0 = y at *
        clear htk hBr
        by_cases hxy : x = y
        · have hb : (x != y) = false := by simp [hxy]
          have HX := hide hxy
          clear hxy N12
          go_wp2
          go_quiet (fail)
          go_wp2
          go_roundw
          case rel =>
            refine ⟨k + 1, by omega, by go_num, ?_, ?_⟩
            · rw [t1.out, t2.out, HT.out, HX.out]
            · exact below_drewN HB.out _
          case measure => simp [intOf]; omega
        · have hb : (x != y) = true := by simp [hxy]
          have HX : Hid (l1 ≠ l2) := fun h => hxy (N12.out h)
          clear hxy N12 t1 t2
          go_wp2
          go_quiet (fail)
          go_wp2
          go_ret
          exact ⟨ret_bool (decide_eq_false HX.out).symm, below_drewN HB.out _⟩
      · have e : l1 = l2 := by
          have := htk; rw [List.take_of_length_le (by omega), List.take_of_length_le (by omega)] at this; exact this
        have HE := hide e
        have HB := hide hBr
        clear e htk hBr
        go_wp2
        go_ret
        exact ⟨ret_bool (decide_eq_true HE.out).symm, HB.out⟩
  · have hne : ((l1.length : Int) != (l2.length : Int)) = true := by simp; omega
    have HE : Hid (l1 ≠ l2) := fun h => hlen (by rw [h])
    go_enter Try.func61, Try.ntmps61
    go_wp2
    go_ret
    exact ⟨ret_bool (decide_eq_false HE.out).symm, Below.refl _ _⟩

theorem eqByteS_same (o1 o2 : Option Addr) (c1 c2 : Nat) (l : List Int) (w : World) (h1 : Rd w o1 l) (h2 : Rd w o2 l) (hl : l.length ≤ 1048576) :
    Calls Try.prog 61 #[.slice o1 l.length c1, .slice o2 l.length c2] w fun e w' => e = .returned (.bool true) ∧ Below w.heap.size w w' := by
  have := eqByteS_any o1 o2 c1 c2 l l w h1 h2 hl hl
  simpa using this

end Go.Proofs.Ytflakpmcgopdaaa

/- The laws' marks: a row is filled with numbers that go up, and held against them. -/
namespace Go.Proofs.Ytflakpmcgopdaaa
open Go.ChangeShapes Go.WideShapes Go.ChangeAt Go.RowKit Go.Joins
set_option linter.unusedVariables false
set_option linter.unusedSimpArgs false

def markL (k : Int) (n : Nat) : List Int := (List.range n).map (fun (i : Nat) => (k + (i : Int)) % 256)
theorem markL_length (k : Int) (n : Nat) : (markL k n).length = n := by simp [markL]
theorem markL_get (k : Int) (n i : Nat) (h : i < n) : (markL k n).getD i 0 = (k + (i : Int)) % 256 := by simp [markL, h]
def markTo (l : List Int) (k : Int) (i : Nat) : List Int := markL k i ++ l.drop i
theorem markTo_zero (l : List Int) (k : Int) : markTo l k 0 = l := by simp [markTo, markL]
theorem markTo_all (l : List Int) (k : Int) : markTo l k l.length = markL k l.length := by simp [markTo]
theorem markTo_length (l : List Int) (k : Int) (i : Nat) (h : i ≤ l.length) : (markTo l k i).length = l.length := by simp [markTo, markL]; omega
theorem markTo_set (l : List Int) (k : Int) (i : Nat) (h : i < l.length) : ((markTo l k i).map (Value.int .u8)).set i (.int .u8 ((k + (i : Int)) % 256)) = (markTo l k (i + 1)).map (Value.int .u8) := by
  rw [← List.map_set]
  congr 1
  have e2 : (markL k i).length = i := markL_length k i
  unfold markTo
  rw [List.drop_eq_getElem_cons h, List.set_append_right _ _ (by omega), e2, Nat.sub_self, List.set_cons_zero]
  have e3 : markL k (i + 1) = markL k i ++ [(k + (i : Int)) % 256] := by simp [markL, List.range_succ]
  rw [e3, List.append_assoc]
  rfl

theorem mark_step {w wr : World} {base g cap : Nat} {l : List Int} {k : Int} {i : Nat} (hi : i < l.length) (hown : wr.ownsRow base 5 1 (.slice (some ⟨g, 0, none⟩) l.length cap) l.length ((markTo l k i).map (Value.int .u8)))
    (hg : w.grownBy wr (some g)) : (wr.setCell ⟨g, i, none⟩ (.int .u8 ((k + (i : Int)) % 256))).ownsRow base 5 1 (.slice (some ⟨g, 0, none⟩) l.length cap) l.length ((markTo l k (i + 1)).map (Value.int .u8)) ∧
      w.grownBy (wr.setCell ⟨g, i, none⟩ (.int .u8 ((k + (i : Int)) % 256))) (some g) := by
  have h := hown.stored i (.int .u8 ((k + (i : Int)) % 256))
  rw [markTo_set l k i hi] at h
  exact ⟨h.1, ⟨hg.os, hg.tape, hg.output, by have := h.2.size; have := hg.size; omega, fun j hj hne => (h.2.block j (Nat.lt_of_lt_of_le hj hg.size) hne).trans (hg.block j hj hne)⟩⟩

set_option maxHeartbeats 1000000 in
theorem markByteS_any (base : Nat) (v : Value) (l : List Int) (k : Int) (w : World) (hv : ownB w base v l) (h0 : 0 ≤ k) (h1 : k ≤ 1073741824) (hlen : l.length ≤ 1048576) :
    Calls Try.prog 62 #[v, .int .i64 k] w fun e w' => e = .returned (.int .i64 (k + l.length)) ∧ ownB w' base v (markL k l.length) ∧ w.grownBy w' v.ownBlock := by
  rcases hv.2 with ⟨rfl, h2⟩ | ⟨g, cap, cur, rfl, hg, _⟩
  · have e : l = [] := List.eq_nil_of_length_eq_zero h2
    subst e
    go_enter Try.func62, Try.ntmps62
    go_wp2
    refine wp_loop_rounds 1 ?_
    rw [rounds_succ]
    go_wp2
    go_ret
    exact ⟨by simp, by simpa [markL] using hv, World.grownBy.refl _ _⟩
  · go_enter Try.func62, Try.ntmps62
    go_wp2
    have hv0 : w.ownsRow base 5 1 (.slice (some ⟨g, 0, none⟩) l.length cap) l.length ((markTo l k 0).map (Value.int .u8)) := by rw [markTo_zero]; exact hv
    go_loopw [1, 5] (fun m j wr => ∃ i : Nat, i ≤ l.length ∧ j = .int .i64 i ∧ m = .int .i64 (k + (i : Int)) ∧ wr.ownsRow base 5 1 (.slice (some ⟨g, 0, none⟩) l.length cap) l.length ((markTo l k i).map (Value.int .u8)) ∧ w.grownBy wr (some g))
      (fun _ j _ => l.length - (intOf j).toNat)
    case atStart => exact ⟨0, Nat.zero_le _, rfl, by simp, hv0, World.grownBy.refl _ _⟩
    case round =>
      obtain ⟨i, hi, rfl, rfl, hown, hgr⟩ := hrel
      by_cases hlt : i < l.length
      · have hcl := hown.cellAt i (by omega)
        have hfr := hown.frozenAt i
        obtain ⟨u, hu⟩ : ∃ u, wr.cell? ⟨g, i, none⟩ = some u := ⟨_, hcl.trans (List.getElem?_eq_getElem (by simp [markTo_length l k i hi]; omega))⟩
        have R := hide (mark_step hlt hown hgr)
        clear hcl hown hgr hv hv0
        go_wp2
        go_roundw
        case rel => exact ⟨i + 1, by omega, by go_num, by go_num, R.out.1, R.out.2⟩
        case measure => simp [intOf]; omega
      · have e : i = l.length := by omega
        subst e
        rw [markTo_all] at hown
        have HO := hide hown
        clear hown
        go_wp2
        go_ret
        exact ⟨rfl, by unfold ownB; rw [markL_length]; exact HO.out, hgr⟩

set_option maxHeartbeats 1000000 in
theorem heldByteS_any (o : Option Addr) (cap n : Nat) (k : Int) (w : World) (hR : Rd w o (markL k n)) (h0 : 0 ≤ k) (h1 : k ≤ 1073741824) (hlen : n ≤ 1048576) :
    Calls Try.prog 63 #[.slice o n cap, .int .i64 k] w fun e w' => e = .returned (.int .i64 (k + n)) ∧ w = w' := by
  go_enter Try.func63, Try.ntmps63
  go_wp2
  go_loop [1, 5] (fun m j => ∃ i : Nat, i ≤ n ∧ j = .int .i64 i ∧ m = .int .i64 (k + (i : Int)))
    (fun _ j => n - (intOf j).toNat)
  case atStart => exact ⟨0, Nat.zero_le _, rfl, by simp⟩
  case round =>
    obtain ⟨i, hi, rfl, rfl⟩ := hrel
    by_cases hlt : i < n
    · rcases hR with hR | ⟨b, off, rfl, hbl, hcell⟩
      · have := markL_length k n; rw [hR] at this; simp at this; omega
      have hc := hcell i (by rw [markL_length]; exact hlt)
      rw [markL_get k n i hlt] at hc
      clear hcell
      go_wp2
      go_round
      case rel => exact ⟨i + 1, by omega, by go_num, by go_num⟩
      case measure => simp [intOf]; omega
    · have e : i = n := by omega
      subst e
      go_wp2
      go_ret
      exact ⟨rfl, rfl⟩

end Go.Proofs.Ytflakpmcgopdaaa

/- Bytes by layout, and the laws' own helpers over them, in the words of Fr. -/
namespace Go.Proofs.Ytflakpmcgopdaaa
open Go.ChangeShapes Go.WideShapes Go.ChangeAt Go.RowKit Go.Joins
set_option linter.unusedVariables false
set_option linter.unusedSimpArgs false

def layB : Lay Int := ⟨1, fun a => [.int .u8 a], 0, fun _ => rfl⟩
theorem flat_bytes : ∀ l : List Int, l.flatMap layB.cs = l.map (Value.int .u8)
  | [] => rfl
  | a :: l => by rw [List.flatMap_cons, flat_bytes l]; rfl
theorem ownB_lay {w : World} {base : Nat} {v : Value} {l : List Int} : ownB w base v l ↔ ownL layB 5 w base v l := by
  unfold ownB ownL; rw [flat_bytes]; exact Iff.rfl
theorem RdB_lay {C : Nat} {w : World} {o : Option Addr} {l : List Int} : RdB C w o l ↔ RdL layB C w o l := by
  constructor
  · rintro (h | ⟨b, off, ho, hb, r⟩)
    · exact .inl h
    · refine .inr ⟨b, off, ho, hb, fun i hi j hj => ?_⟩
      have hj0 : j = 0 := by have : j < 1 := hj; omega
      subst hj0
      have := r i hi
      rw [show layB.k = 1 from rfl, Nat.mul_one, Nat.add_zero]
      exact this
  · rintro (h | ⟨b, off, ho, hb, r⟩)
    · exact .inl h
    · refine .inr ⟨b, off, ho, hb, fun i hi => ?_⟩
      have := r i hi 0 (by decide)
      rw [show layB.k = 1 from rfl, Nat.mul_one, Nat.add_zero] at this
      exact this
theorem RdB_rd {w : World} {o : Option Addr} {l : List Int} : RdL layB w.heap.size w o l ↔ Rd w o l := RdB_lay.symm
abbrev InB := InL layB 5
theorem InB.of {w : World} {base : Nat} {v : Value} {l : List Int} (h : ownB w base v l) : InB base w.heap.size w v l := InRow.of (ownB_lay.1 h)

theorem toByteS_sh (v : Value) (l : List Int) (w : World) (hR : RdV layB w.heap.size w v l) (hB8 : isB l) (hlen : l.length ≤ 1048576) :
    Calls Try.prog 65 #[v] w fun e w' => ∃ v', e = .returned v' ∧ InB w.heap.size w'.heap.size w' v' l ∧ Below w.heap.size w w' := by
  obtain ⟨o, c, rfl, r⟩ := hR
  refine (toByteS_any o c l w (RdB_rd.1 r) hB8 hlen).mono ?_
  rintro e w' ⟨g, rfl, ho, hb⟩
  exact ⟨_, rfl, InB.of ho, hb⟩
theorem eqByteS_sh (v1 v2 : Value) (l : List Int) (w : World) (h1 : RdV layB w.heap.size w v1 l) (h2 : RdV layB w.heap.size w v2 l) (hl : l.length ≤ 1048576) :
    Calls Try.prog 61 #[v1, v2] w fun e w' => e = .returned (.bool true) ∧ Below w.heap.size w w' := by
  obtain ⟨o, c, rfl, r⟩ := h1
  obtain ⟨o2, c2, rfl, r2⟩ := h2
  exact eqByteS_same o o2 c c2 l w (RdB_rd.1 r) (RdB_rd.1 r2) hl
theorem markByteS_sh (lo hi : Nat) (v : Value) (l : List Int) (k : Int) (w : World) (hv : InB lo hi w v l) (h0 : 0 ≤ k) (h1 : k ≤ 1073741824) (hlen : l.length ≤ 1048576) :
    Calls Try.prog 62 #[v, .int .i64 k] w fun e w' => e = .returned (.int .i64 (k + l.length)) ∧ InB lo hi w' v (markL k l.length) ∧ w.grownBy w' v.ownBlock := by
  refine (markByteS_any lo v l k w (ownB_lay.2 hv.1) h0 h1 hlen).mono ?_
  rintro e w' ⟨rfl, ho, hg⟩
  exact ⟨rfl, ⟨ownB_lay.1 ho, hv.2⟩, hg⟩
theorem heldByteS_sh (v : Value) (n C : Nat) (k : Int) (w : World) (hR : RdV layB C w v (markL k n)) (hn : (markL k n).length = n) (hC : C ≤ w.heap.size) (h0 : 0 ≤ k) (h1 : k ≤ 1073741824) (hlen : n ≤ 1048576) :
    Calls Try.prog 63 #[v, .int .i64 k] w fun e w' => e = .returned (.int .i64 (k + n)) ∧ w = w' := by
  obtain ⟨o, c, rfl, r⟩ := hR
  rw [hn]
  exact heldByteS_any o c n k w (RdB_rd.1 (r.le hC)) h0 h1 hlen

end Go.Proofs.Ytflakpmcgopdaaa

/- JournalRead where the length is none that it reads. -/
namespace Go.Proofs.Ytflakpmcgopdaaa
open Go.ChangeShapes Go.WideShapes Go.ChangeAt Go.RowKit Go.Joins
set_option linter.unusedVariables false
set_option linter.unusedSimpArgs false


set_option maxRecDepth 100000 in
set_option maxHeartbeats 4000000 in
theorem specJRead_no (o : Option Addr) (cap n : Nat) (hn : n ≤ 1048576) (hno : ¬ (4 ≤ n ∧ (n - 4) % 3 = 0 ∧ n ≤ 400)) (w : World) :
    Calls Try.prog 64 #[.slice o n cap] w fun e w' => e = .returned (.tuple #[jrn 0 (.slice none 0 0) 0, .bool false]) ∧ Below w.heap.size w w' := by
  obtain ⟨W0, hW0⟩ : ∃ W, (w.alloc (.cells #[.int .i64 0, .slice none 0 0, .int .i64 0] 47)) = W := ⟨_, rfl⟩
  have hb_W0 : Below w.heap.size w W0 := by rw [← hW0]; exact ((Below.refl _ _).alloc (Nat.le_refl _) _)
  have HB := hide hb_W0
  clear hb_W0
  have zr : w.heap.size < W0.heap.size := by rw [← hW0]; simp
  have r0 : W0.cell? ⟨w.heap.size, 0, none⟩ = some (.int .i64 0) := by rw [← hW0]; simp [go_sem]
  have r1 : W0.cell? ⟨w.heap.size, 1, none⟩ = some (.slice none 0 0) := by rw [← hW0]; simp [go_sem]
  have r2 : W0.cell? ⟨w.heap.size, 2, none⟩ = some (.int .i64 0) := by rw [← hW0]; simp [go_sem]
  have fr0 : W0.frozen? ⟨w.heap.size, 0, none⟩ = false := by rw [← hW0]; simp [go_sem]
  have fr1 : W0.frozen? ⟨w.heap.size, 1, none⟩ = false := by rw [← hW0]; simp [go_sem]
  have fr2 : W0.frozen? ⟨w.heap.size, 2, none⟩ = false := by rw [← hW0]; simp [go_sem]
  by_cases h4 : 4 ≤ n
  · by_cases h3 : (n - 4) % 3 = 0
    · have g0 : ¬ ((n : Int) < 4) := by omega
      have g1 : IntKind.i64.wrap ((n : Int) - 4) = (n : Int) - 4 := by rw [IntKind.wrap_i64]; omega
      have g2 : ((n : Int) - 4).tmod 3 = 0 := by rw [Int.tmod_eq_emod_of_nonneg (by omega)]; omega
      have g3 : (400 : Int) < (n : Int) := by omega
      clear hno
      go_enter Try.func64, Try.ntmps64
      go_wp2
      exact bodyPost_ret (v := .tuple #[jrn 0 (.slice none 0 0) 0, .bool false]) (by simp [results, Try.results64, go_sem, r0, r1, r2]) rfl ⟨rfl, setP_below HB.out (Nat.le_refl _) _ _ _⟩
    · have g0 : ¬ ((n : Int) < 4) := by omega
      have g1 : IntKind.i64.wrap ((n : Int) - 4) = (n : Int) - 4 := by rw [IntKind.wrap_i64]; omega
      have g2 : ¬ (((n : Int) - 4).tmod 3 = 0) := by rw [Int.tmod_eq_emod_of_nonneg (by omega)]; omega
      clear hno
      go_enter Try.func64, Try.ntmps64
      go_wp2
      exact bodyPost_ret (v := .tuple #[jrn 0 (.slice none 0 0) 0, .bool false]) (by simp [results, Try.results64, go_sem, r0, r1, r2]) rfl ⟨rfl, setP_below HB.out (Nat.le_refl _) _ _ _⟩
  · have g0 : (n : Int) < 4 := by omega
    clear hno
    go_enter Try.func64, Try.ntmps64
    go_wp2
    exact bodyPost_ret (v := .tuple #[jrn 0 (.slice none 0 0) 0, .bool false]) (by simp [results, Try.results64, go_sem, r0, r1, r2]) rfl ⟨rfl, setP_below HB.out (Nat.le_refl _) _ _ _⟩

set_option maxRecDepth 100000 in
set_option maxHeartbeats 4000000 in
theorem implJRead_no (o : Option Addr) (cap n : Nat) (hn : n ≤ 1048576) (hno : ¬ (4 ≤ n ∧ (n - 4) % 3 = 0 ∧ n ≤ 304)) (w : World) :
    Calls Try.prog 30 #[.slice o n cap] w fun e w' => e = .returned (.tuple #[jrn 0 (.slice none 0 0) 0, .bool false]) ∧ Below w.heap.size w w' := by
  obtain ⟨W0, hW0⟩ : ∃ W, (w.alloc (.cells #[.int .i64 0, .slice none 0 0, .int .i64 0] 47)) = W := ⟨_, rfl⟩
  have hb_W0 : Below w.heap.size w W0 := by rw [← hW0]; exact ((Below.refl _ _).alloc (Nat.le_refl _) _)
  have HB := hide hb_W0
  clear hb_W0
  have zr : w.heap.size < W0.heap.size := by rw [← hW0]; simp
  have r0 : W0.cell? ⟨w.heap.size, 0, none⟩ = some (.int .i64 0) := by rw [← hW0]; simp [go_sem]
  have r1 : W0.cell? ⟨w.heap.size, 1, none⟩ = some (.slice none 0 0) := by rw [← hW0]; simp [go_sem]
  have r2 : W0.cell? ⟨w.heap.size, 2, none⟩ = some (.int .i64 0) := by rw [← hW0]; simp [go_sem]
  have fr0 : W0.frozen? ⟨w.heap.size, 0, none⟩ = false := by rw [← hW0]; simp [go_sem]
  have fr1 : W0.frozen? ⟨w.heap.size, 1, none⟩ = false := by rw [← hW0]; simp [go_sem]
  have fr2 : W0.frozen? ⟨w.heap.size, 2, none⟩ = false := by rw [← hW0]; simp [go_sem]
  by_cases h4 : 4 ≤ n
  · by_cases h3 : (n - 4) % 3 = 0
    · have g0 : ¬ ((n : Int) < 4) := by omega
      have g1 : IntKind.i64.wrap ((n : Int) - 4) = (n : Int) - 4 := by rw [IntKind.wrap_i64]; omega
      have g2 : ((n : Int) - 4).tmod 3 = 0 := by rw [Int.tmod_eq_emod_of_nonneg (by omega)]; omega
      have g3 : (304 : Int) < (n : Int) := by omega
      clear hno
      go_enter Try.func30, Try.ntmps30
      go_wp2
      exact bodyPost_ret (v := .tuple #[jrn 0 (.slice none 0 0) 0, .bool false]) (by simp [results, Try.results30, go_sem, r0, r1, r2]) rfl ⟨rfl, setP_below HB.out (Nat.le_refl _) _ _ _⟩
    · by_cases h5 : n ≤ 304
      · have g0 : ¬ ((n : Int) < 4) := by omega
        have g1 : IntKind.i64.wrap ((n : Int) - 4) = (n : Int) - 4 := by rw [IntKind.wrap_i64]; omega
        have g2 : ¬ (((n : Int) - 4).tmod 3 = 0) := by rw [Int.tmod_eq_emod_of_nonneg (by omega)]; omega
        have g3 : ¬ ((304 : Int) < (n : Int)) := by omega
        clear hno
        go_enter Try.func30, Try.ntmps30
        go_wp2
        exact bodyPost_ret (v := .tuple #[jrn 0 (.slice none 0 0) 0, .bool false]) (by simp [results, Try.results30, go_sem, r0, r1, r2]) rfl ⟨rfl, setP_below HB.out (Nat.le_refl _) _ _ _⟩
      · have g0 : ¬ ((n : Int) < 4) := by omega
        have g1 : IntKind.i64.wrap ((n : Int) - 4) = (n : Int) - 4 := by rw [IntKind.wrap_i64]; omega
        have g2 : ¬ (((n : Int) - 4).tmod 3 = 0) := by rw [Int.tmod_eq_emod_of_nonneg (by omega)]; omega
        have g3 : (304 : Int) < (n : Int) := by omega
        clear hno
        go_enter Try.func30, Try.ntmps30
        go_wp2
        exact bodyPost_ret (v := .tuple #[jrn 0 (.slice none 0 0) 0, .bool false]) (by simp [results, Try.results30, go_sem, r0, r1, r2]) rfl ⟨rfl, setP_below HB.out (Nat.le_refl _) _ _ _⟩
  · have g0 : (n : Int) < 4 := by omega
    clear hno
    go_enter Try.func30, Try.ntmps30
    go_wp2
    exact bodyPost_ret (v := .tuple #[jrn 0 (.slice none 0 0) 0, .bool false]) (by simp [results, Try.results30, go_sem, r0, r1, r2]) rfl ⟨rfl, setP_below HB.out (Nat.le_refl _) _ _ _⟩

end Go.Proofs.Ytflakpmcgopdaaa

