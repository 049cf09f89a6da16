/- Several texts in one: SPn, SOwn4, SL4b, SPNew, TableMath. -/
import Derived.Test.YtfmnhdemhbbjlaaGrSPw2
import Derived.Test.YtfmnhdemhbbjlaaGrSTab2
import Derived.Deep.RegionHeld3
import Derived.Deep.CutRange
import Derived.Deep.RegionLaw
import Derived.Test.YtfmnhdemhbbjlaaGrShBal
/- The program's pool as it is told: each list anew. -/
namespace Go.Proofs.Ytfmnhdemhbbjlaa
open Go.ChangeShapes Go.WideShapes Go.ChangeAt Go.RowKit Go.Joins
set_option linter.unusedVariables false
set_option linter.unusedSimpArgs false

theorem lists_lit (f : Pt) (w : World) : Calls Try.prog 77 #[.agg #[.bool (f 0).1, .int .i64 (f 0).2.1, .int .i64 (f 0).2.2, .bool (f 1).1, .int .i64 (f 1).2.1, .int .i64 (f 1).2.2, .bool (f 2).1, .int .i64 (f 2).2.1, .int .i64 (f 2).2.2, .bool (f 3).1, .int .i64 (f 3).2.1, .int .i64 (f 3).2.2, .bool (f 4).1, .int .i64 (f 4).2.1, .int .i64 (f 4).2.2, .bool (f 5).1, .int .i64 (f 5).2.1, .int .i64 (f 5).2.2, .bool (f 6).1, .int .i64 (f 6).2.1, .int .i64 (f 6).2.2, .bool (f 7).1, .int .i64 (f 7).2.1, .int .i64 (f 7).2.2]] w fun e w' => ∃ v, e = .returned v ∧ InT w.heap.size w'.heap.size w' v (ptLL f) ∧ Below w.heap.size w w' := lists_any f w
theorem cells_pt {W : World} {g : Nat} {f : Pt} (hg : W.heap[g]? = some (.cells (ptA f) 123 (0, 0))) : W.cell? ⟨g, 0, none⟩ = some (.bool (f 0).1) ∧ W.cell? ⟨g, 1, none⟩ = some (.int .i64 (f 0).2.1) ∧ W.cell? ⟨g, 2, none⟩ = some (.int .i64 (f 0).2.2) ∧ W.cell? ⟨g, 3, none⟩ = some (.bool (f 1).1) ∧ W.cell? ⟨g, 4, none⟩ = some (.int .i64 (f 1).2.1) ∧ W.cell? ⟨g, 5, none⟩ = some (.int .i64 (f 1).2.2) ∧ W.cell? ⟨g, 6, none⟩ = some (.bool (f 2).1) ∧ W.cell? ⟨g, 7, none⟩ = some (.int .i64 (f 2).2.1) ∧ W.cell? ⟨g, 8, none⟩ = some (.int .i64 (f 2).2.2) ∧ W.cell? ⟨g, 9, none⟩ = some (.bool (f 3).1) ∧ W.cell? ⟨g, 10, none⟩ = some (.int .i64 (f 3).2.1) ∧ W.cell? ⟨g, 11, none⟩ = some (.int .i64 (f 3).2.2) ∧ W.cell? ⟨g, 12, none⟩ = some (.bool (f 4).1) ∧ W.cell? ⟨g, 13, none⟩ = some (.int .i64 (f 4).2.1) ∧ W.cell? ⟨g, 14, none⟩ = some (.int .i64 (f 4).2.2) ∧ W.cell? ⟨g, 15, none⟩ = some (.bool (f 5).1) ∧ W.cell? ⟨g, 16, none⟩ = some (.int .i64 (f 5).2.1) ∧ W.cell? ⟨g, 17, none⟩ = some (.int .i64 (f 5).2.2) ∧ W.cell? ⟨g, 18, none⟩ = some (.bool (f 6).1) ∧ W.cell? ⟨g, 19, none⟩ = some (.int .i64 (f 6).2.1) ∧ W.cell? ⟨g, 20, none⟩ = some (.int .i64 (f 6).2.2) ∧ W.cell? ⟨g, 21, none⟩ = some (.bool (f 7).1) ∧ W.cell? ⟨g, 22, none⟩ = some (.int .i64 (f 7).2.1) ∧ W.cell? ⟨g, 23, none⟩ = some (.int .i64 (f 7).2.2) := by
  refine ⟨bx_cell hg 0 _ rfl, bx_cell hg 1 _ rfl, bx_cell hg 2 _ rfl, bx_cell hg 3 _ rfl, bx_cell hg 4 _ rfl, bx_cell hg 5 _ rfl, bx_cell hg 6 _ rfl, bx_cell hg 7 _ rfl, bx_cell hg 8 _ rfl, bx_cell hg 9 _ rfl, bx_cell hg 10 _ rfl, bx_cell hg 11 _ rfl, bx_cell hg 12 _ rfl, bx_cell hg 13 _ rfl, bx_cell hg 14 _ rfl, bx_cell hg 15 _ rfl, bx_cell hg 16 _ rfl, bx_cell hg 17 _ rfl, bx_cell hg 18 _ rfl, bx_cell hg 19 _ rfl, bx_cell hg 20 _ rfl, bx_cell hg 21 _ rfl, bx_cell hg 22 _ rfl, bx_cell hg 23 _ rfl⟩
theorem fold_pt (f : Pt) : (#[.bool (f 0).1, .int .i64 (f 0).2.1, .int .i64 (f 0).2.2, .bool (f 1).1, .int .i64 (f 1).2.1, .int .i64 (f 1).2.2, .bool (f 2).1, .int .i64 (f 2).2.1, .int .i64 (f 2).2.2, .bool (f 3).1, .int .i64 (f 3).2.1, .int .i64 (f 3).2.2, .bool (f 4).1, .int .i64 (f 4).2.1, .int .i64 (f 4).2.2, .bool (f 5).1, .int .i64 (f 5).2.1, .int .i64 (f 5).2.2, .bool (f 6).1, .int .i64 (f 6).2.1, .int .i64 (f 6).2.2, .bool (f 7).1, .int .i64 (f 7).2.1, .int .i64 (f 7).2.2] : Array Value) = ptA f := rfl
theorem range_pt {W : World} {g : Nat} {f : Pt} (hg : W.heap[g]? = some (.cells (ptA f) 123 (0, 0))) : W.rangeAt g 0 (ptL f) := fun j v hv => by
  rw [Nat.zero_add, cell_of_row _ _ j (ptA f) _ (0, 0) hg]
  simpa [ptA] using hv
theorem range_kept {w w' : World} {b o : Nat} {cs : List Value} (h : w.rangeAt b o cs) (hb : Below w.heap.size w w') (hlt : b < w.heap.size) : w'.rangeAt b o cs := fun j v hv => (hb.cell (p := ⟨b, o + j, none⟩) hlt).trans (h j v hv)
theorem range_far {w : World} {b o B : Nat} {cs : List Value} (h : w.rangeAt b o cs) (hne : b ≠ B) (j : Nat) (u : Value) : (w.setCell ⟨B, j, none⟩ u).rangeAt b o cs := fun i v hv => (cell_far hne).trans (h i v hv)
theorem range_grown {w w' : World} {b o : Nat} {cs : List Value} {r : Option Nat} (h : w.rangeAt b o cs) (hg : w.grownBy w' r) (hlt : b < w.heap.size) (hne : some b ≠ r) : w'.rangeAt b o cs := fun j v hv => by
  have h1 := h j v hv
  have h2 := hg.block b hlt hne
  simp only [World.cell?, h2] at h1 ⊢
  exact h1
theorem load_pt {W : World} {g : Nat} {f : Pt} (hg : W.heap[g]? = some (.cells (ptA f) 123 (0, 0))) : (loadCellsFrom ⟨g, 0, none⟩ 0 24 #[]).run Try.prog W = .ok (ptA f) W := by
  have := run_loadCells_list (P := Try.prog) W ⟨g, 0, none⟩ (ptL f) (fun j v hv => by
    have hadd : (⟨g, 0, none⟩ : Addr).add j = ⟨g, j, none⟩ := by unfold Addr.add; split <;> simp_all
    rw [hadd, cell_of_row _ _ j (ptA f) _ (0, 0) hg]
    simpa [ptA] using hv)
  simpa [loadCells, ptA, ptL_len] using this
theorem load_ptd {W : World} {g : Nat} {f : Pt} (hg : W.heap[g]? = some (.cells (ptA f) 123 (0, 0))) : (loadCellsFrom ⟨g, 0, none⟩ 0 24 #[]).run Try.prog W.drew = .ok (ptA f) W.drew := load_pt (W := W.drew) hg
theorem setQ_size (W : World) (B : Nat) (x y z : Value) : (setP W B x y z).heap.size = W.heap.size := by simp [World.setCell]
theorem finK {cur W : World} {B : Nat} {key : Int} {o2 : Option Addr} {c2 : Nat} {l : List Bk} {z0 z1 z2 : Value} (hZ : W.heap[B]? = some (.cells #[z0, z1, z2] 28 (0, 0))) (hx : Below cur.heap.size cur W) (hB : cur.heap.size ≤ B) (ho : ownK W cur.heap.size (.slice o2 l.length c2) l) :
    ∃ B' o' c', Value.pointer (some ⟨B, 0, none⟩) = .pointer (some ⟨B', 0, none⟩) ∧ Hid ((setP W B (.int .i64 key) (.slice o2 l.length c2) (.slice none 0 0)).heap[B']? = some (.cells #[.int .i64 key, .slice o' l.length c', .slice none 0 0] 28 (0, 0))) ∧ Hid (Below cur.heap.size cur (setP W B (.int .i64 key) (.slice o2 l.length c2) (.slice none 0 0))) ∧ cur.heap.size ≤ B' ∧ B' < (setP W B (.int .i64 key) (.slice o2 l.length c2) (.slice none 0 0)).heap.size ∧ Hid (ownK (setP W B (.int .i64 key) (.slice o2 l.length c2) (.slice none 0 0)) cur.heap.size (.slice o' l.length c') l) := by
  have b1 := box_put hZ 0 (.int .i64 key)
  have b2 := box_put b1 1 (.slice o2 l.length c2)
  have b3 := box_put b2 2 (.slice none 0 0)
  exact ⟨B, o2, c2, rfl, b3, setQ_below hx hB _ _ _, hB, (Array.getElem?_eq_some_iff.1 b3).1, own_putB (own_putB (own_putB ho hZ neP4 0 _) b1 neP4 1 _) b2 neP4 2 _⟩
theorem finKn {cur W : World} {key : Int} {o2 : Option Addr} {c2 : Nat} {l : List Bk} (hx : Below cur.heap.size cur W) (ho : ownK W cur.heap.size (.slice o2 l.length c2) l) :
    ∃ B' o' c', Value.pointer (some ⟨W.heap.size, 0, none⟩) = .pointer (some ⟨B', 0, none⟩) ∧ Hid ((W.alloc (.cells #[.int .i64 key, .slice o2 l.length c2, .slice none 0 0] 28)).heap[B']? = some (.cells #[.int .i64 key, .slice o' l.length c', .slice none 0 0] 28 (0, 0))) ∧ Hid (Below cur.heap.size cur (W.alloc (.cells #[.int .i64 key, .slice o2 l.length c2, .slice none 0 0] 28))) ∧ cur.heap.size ≤ B' ∧ B' < (W.alloc (.cells #[.int .i64 key, .slice o2 l.length c2, .slice none 0 0] 28)).heap.size ∧ Hid (ownK (W.alloc (.cells #[.int .i64 key, .slice o2 l.length c2, .slice none 0 0] 28)) cur.heap.size (.slice o' l.length c') l) :=
  ⟨W.heap.size, o2, c2, rfl, World.alloc_heap_new W _, hx.alloc hx.size _, hx.size, by simp, own_kept ho ((Below.refl _ _).alloc (Nat.le_refl _) _)⟩
theorem Rw.grow {α : Type} {Q : Nat → Nat → World → Value → α → Prop} {d : α} {xs : List α} {a b : Nat} {w w' : World} {hs : List Hd} {L H : Nat → Nat} {r : Option Nat} (hQ : Stps Q) (h : Rw Q d xs a b w hs L H) (hg : w.grownBy w' r) (ho : ∀ i, i < xs.length → ∀ g, r = some g → g < L i ∨ H i ≤ g) : Rw Q d xs a b w' hs L H := by
  cases r with
  | none => exact h.step hQ (Stp.grown (lo := 0) (hi := 0) hg (fun b e => by cases e)) (fun i _ => .inl (Nat.zero_le _))
  | some g => exact h.step hQ (Stp.grown (lo := g) (hi := g + 1) hg (fun b e => by injection e with e; omega)) (fun i hi => by have := ho i hi g rfl; omega)
theorem rd_oneH {w : World} {o : Option Addr} {n c : Nat} {T : TypeId} : RdL layH (w.alloc (.cells #[.slice o n c] T)).heap.size (w.alloc (.cells #[.slice o n c] T)) (some ⟨w.heap.size, 0, none⟩) [(o, n, c)] :=
  .inr ⟨w.heap.size, 0, rfl, by simp, fun i hi j hj => by
    have e1 : i = 0 := by simpa using hi
    subst e1
    match j, hj with
    | 0, _ => simp [layH]⟩
theorem RdL.range {w : World} {b off : Nat} {fs : List Pt} (h : ∀ i, i < fs.length → ∀ j, j < layT.k → w.cell? ⟨b, off + i * layT.k + j, none⟩ = (layT.cs (fs.getD i layT.d))[j]?) (i : Nat) (hi : i < fs.length) : w.rangeAt b (off + i * 24) (ptL (fs.getD i ptZ)) := fun j v hv => by
  have hj : j < 24 := by have := (List.getElem?_eq_some_iff.1 hv).1; rw [ptL_len] at this; exact this
  exact (h i hi j hj).trans hv
theorem rd_stp {B : Nat} {w wc wr : World} {oR : Option Addr} {fs : List Pt} (h : RdL layT w.heap.size w oR fs) (hb : Below w.heap.size w wc) (s : Stp B (B + 1) wc wr) (hB : w.heap.size ≤ B) : RdL layT w.heap.size wr oR fs := by
  rcases h with h | ⟨b, off, ho, hlt, r⟩
  · exact .inl h
  · refine .inr ⟨b, off, ho, hlt, fun i hi j hj => ?_⟩
    have h1 := (hb.cell (p := ⟨b, off + i * layT.k + j, none⟩) hlt).trans (r i hi j hj)
    have hl : (layT.cs (fs.getD i layT.d)).length = layT.k := layT.len _
    rw [List.getElem?_eq_getElem (by omega)] at h1 ⊢
    exact s.cellP h1 (.inl (show b < B by omega))
theorem all_take {mid hi cQ : Nat} {wr : World} {oQ : Option Addr} {hs : List Hd} {L H : Nat → Nat} {fs : List Pt} {n : Nat} (hn : n = fs.length) (h : Rw InT [] ((fs.map ptLL).take n) mid hi wr hs L H) (ho : ownL layH 116 wr mid (.slice oQ n cQ) hs) : ownL layH 116 wr mid (.slice oQ n cQ) hs ∧ Rw InT [] (fs.map ptLL) mid hi wr hs L H := by
  rw [hn, show fs.length = (fs.map ptLL).length by simp, List.take_length] at h
  exact ⟨ho, h⟩
theorem out_len {oQ : Option Addr} {n cQ : Nat} {L H : Nat → Nat} {fs : List Pt} (hn : n = fs.length) (h : outB (.slice oQ n cQ) n L H) : outB (.slice oQ n cQ) (fs.map ptLL).length L H := by
  rw [List.length_map, ← hn]; exact h
theorem stp_setQ (W : World) (B : Nat) (x y z : Value) : Stp B (B + 1) W (setP W B x y z) := ((stp_set W B 0 x).trans (stp_set _ B 1 y)).trans (stp_set _ B 2 z)
theorem take_map (fs : List Pt) (i : Nat) (h : i < fs.length) : (fs.map ptLL).take (i + 1) = (fs.map ptLL).take i ++ [ptLL (fs.getD i ptZ)] := by
  have hk : i < (fs.map ptLL).length := by rw [List.length_map]; exact h
  rw [List.take_succ_eq_append_getElem hk]
  simp [h]
/-- The tables so far, behind one more. -/
theorem Rw.more {v1 w8 : World} {mid b0 l2 n : Nat} {hs : List Hd} {L H : Nat → Nat} {xs : List (List (List Int))} {x : List (List Int)} {o4 oQ : Option Addr} {cQ n4 c4 : Nat} {O : Obj} (h : Rw InT [] xs mid b0 v1 hs L H) (hxn : xs.length = n) (hb : b0 ≤ l2) (hm : mid ≤ l2) (hl : l2 ≤ v1.heap.size) (q : InT l2 v1.heap.size v1 (.slice o4 n4 c4) x) (hout : outB (.slice oQ n cQ) n L H) (hlt : ∀ g, (Value.slice oQ n cQ).ownBlock = some g → g < b0) (hg : (v1.alloc O).grownBy w8 (Value.slice oQ n cQ).ownBlock) :
    Rw InT [] (xs ++ [x]) mid w8.heap.size w8 (hs ++ [(o4, n4, c4)]) (fun i => if i < n then L i else l2) (fun i => if i < n then H i else v1.heap.size) := by
  subst hxn
  have h1 := h.snoc hb hm hl q
  have h2 := h1.kept InT.stp ((Below.refl v1.heap.size v1).alloc (Nat.le_refl _) O)
  have hsz := hg.size
  rw [World.size_alloc] at hsz
  refine (h2.grow InT.stp hg (fun i hi g e => ?_)).mono (Nat.le_refl _) (by omega)
  by_cases hi' : i < xs.length
  · simp only [hi', if_true]; exact hout i hi' g e
  · simp only [hi', if_false]; have := hlt g e; omega
theorem stp_more {B : Nat} {wc v1 w8 : World} {O : Obj} {r : Option Nat} (s : Stp B (B + 1) wc v1) (hg : (v1.alloc O).grownBy w8 r) (hr : ∀ g, r = some g → wc.heap.size ≤ g) : Stp B (B + 1) wc w8 := by
  have hs := s.size
  have h1 := hg.size
  rw [World.size_alloc] at h1
  refine ⟨hg.os.trans s.os, hg.tape.trans s.tape, hg.output.trans s.output, by omega, fun k hk hn => ?_⟩
  exact (hg.block k (by simp; omega) (fun e => by have := hr k e.symm; omega)).trans ((Below.heap_alloc v1 O k (by omega)).trans (s.block k hk hn))
theorem InPm.mono {lo lo' hi : Nat} {w : World} {v : Value} {m : Pm} (h : InPm lo hi w v m) (hl : lo' ≤ lo) : InPm lo' hi w v m := by
  obtain ⟨vb, vr, mid, e, k1, k2, h1, h2⟩ := h
  exact ⟨vb, vr, mid, e, by omega, k2, InRow.mono h1 hl (Nat.le_refl _), h2⟩
theorem neBR : (137 : TypeId) ≠ 116 := by decide
theorem out_more {v1 : World} {b0 l2 : Nat} {L H : Nat → Nat} {n : Nat} {oQ o8 : Option Addr} {cQ c8 : Nat} {O : Obj} (hout : outB (.slice oQ n cQ) n L H) (hH : ∀ i, i < n → H i ≤ b0) (hb : b0 ≤ l2) (hl : l2 ≤ v1.heap.size) (hlt : ∀ g, (Value.slice oQ n cQ).ownBlock = some g → g < b0) (hn : (Value.slice o8 (n + 1) c8).ownBlock = (Value.slice oQ n cQ).ownBlock ∨ (Value.slice o8 (n + 1) c8).ownBlock = some (v1.alloc O).heap.size) :
    outB (.slice o8 (n + 1) c8) (n + 1) (fun i => if i < n then L i else l2) (fun i => if i < n then H i else v1.heap.size) := fun i hi g e => by
  rcases hn with hn | hn
  · rw [hn] at e
    by_cases hi' : i < n
    · simp only [hi', if_true]; exact hout i hi' g e
    · simp only [hi', if_false]; have := hlt g e; omega
  · rw [hn, World.size_alloc] at e
    have e' : v1.heap.size + 1 = g := Option.some.inj e
    by_cases hi' : i < n
    · simp only [hi', if_true]; have := hH i hi'; omega
    · simp only [hi', if_false]; omega

set_option maxRecDepth 100000 in
set_option maxHeartbeats 8000000 in
theorem plain_go (key : Int) (o : Option Addr) (cap : Nat) (l : List Bk) (oR : Option Addr) (cR : Nat) (fs : List Pt) (n : Nat) (hnn : n = fs.length) (w : World) (hR : RdK w.heap.size w o l) (hn : o = none → cap = 0) (hlen : l.length ≤ 1048576) (hG : RdL layT w.heap.size w oR fs) (hf3 : n ≤ 1048576) :
    Calls Try.prog 46 #[polv key (.slice o l.length cap) (.slice oR n cR)] w fun e w' => ∃ v, e = .returned v ∧ InPm w.heap.size w'.heap.size w' v ⟨key, l, fs.map ptLL⟩ ∧ Below w.heap.size w w' := by
  have HNN := hide hnn
  clear hnn
  obtain ⟨W0, hW0⟩ : ∃ W, ((w.alloc (.cells #[.int .i64 key, .slice o l.length cap, .slice oR n cR] 88)).alloc (.cells #[.int .i64 0, .slice none 0 0, .slice none 0 0] 28)) = W := ⟨_, rfl⟩
  have hb_W0 : Below w.heap.size w W0 := by rw [← hW0]; exact (((Below.refl _ _).alloc (Nat.le_refl _) _).alloc (by simp <;> omega) _)
  have HB := hide hb_W0
  clear hb_W0
  have zz : w.heap.size < W0.heap.size := by rw [← hW0]; simp <;> omega
  have z0 : W0.cell? ⟨w.heap.size, 0, none⟩ = some (.int .i64 key) := by rw [← hW0]; simp [go_sem]
  have z1 : W0.cell? ⟨w.heap.size, 1, none⟩ = some (.slice o l.length cap) := by rw [← hW0]; simp [go_sem]
  have z2 : W0.cell? ⟨w.heap.size, 2, none⟩ = some (.slice oR n cR) := by rw [← hW0]; simp [go_sem]
  have zr : w.heap.size + 1 < W0.heap.size := by rw [← hW0]; simp
  have r0 : W0.cell? ⟨w.heap.size + 1, 0, none⟩ = some (.int .i64 0) := by rw [← hW0]; simp [go_sem]
  have r1 : W0.cell? ⟨w.heap.size + 1, 1, none⟩ = some (.slice none 0 0) := by rw [← hW0]; simp [go_sem]
  have r2 : W0.cell? ⟨w.heap.size + 1, 2, none⟩ = some (.slice none 0 0) := by rw [← hW0]; simp [go_sem]
  have fr0 : W0.frozen? ⟨w.heap.size + 1, 0, none⟩ = false := by rw [← hW0]; simp [go_sem]
  have fr1 : W0.frozen? ⟨w.heap.size + 1, 1, none⟩ = false := by rw [← hW0]; simp [go_sem]
  have fr2 : W0.frozen? ⟨w.heap.size + 1, 2, none⟩ = false := by rw [← hW0]; simp [go_sem]
  have HR0 := hide (show W0.heap[w.heap.size + 1]? = some (.cells #[.int .i64 0, .slice none 0 0, .slice none 0 0] 28 (0, 0)) by rw [← hW0]; exact box_new2 w _ _ _)
  have hzr := zr
  have hzz0 := zz
  have HCL := hide (fun W (hb : Below W0.heap.size W0 W) => cloneBacks_any o cap l W ((hR.kept (HB.out.trans (hb.mono HB.out.size)) (Nat.le_refl _)).le (Nat.le_trans HB.out.size hb.size)) hn hlen)
  have HG := hide hG
  clear hR hG
  go_enter Try.func46, Try.ntmps46
  go_upto_region 1 with fail
  go_cut [3] from 6 to 11 (fun s3 wx => ∃ B o2 c2, s3 = .pointer (some ⟨B, 0, none⟩) ∧ Hid (wx.heap[B]? = some (.cells #[.int .i64 key, .slice o2 l.length c2, .slice none 0 0] 28 (0, 0))) ∧ Hid (Below W0.heap.size W0 wx) ∧ W0.heap.size ≤ B ∧ B < wx.heap.size ∧ Hid (ownK wx W0.heap.size (.slice o2 l.length c2) l))
  case first =>
    go_region_held3 (fun w' => w'.cell? ⟨w.heap.size, 0, none⟩ = some (.int .i64 key) ∧ w'.cell? ⟨w.heap.size, 1, none⟩ = some (.slice o l.length cap)) (first | with_reducible exact ⟨k0_0, k0_1⟩ | with_reducible exact ⟨z0, z1⟩ | with_reducible exact ⟨setP_cell k0_0 zz, setP_cell k0_1 zz⟩ | go_keep) (first | (go_at_call 76; have hc_ := HCL.out W0.drew (Below.drew (Below.refl _ _)); with_reducible refine hc_.mono ?_; clear hc_; rintro e x0 ⟨v2, rfl, ow2, hb⟩; have hp0 : Below W0.heap.size W0 x0 := Below.trans (show Below W0.heap.size W0 W0.drew from (Below.drew (Below.refl _ _))) (hb.mono (by simp)); have sp0 := hp0.size; obtain ⟨o2, c2, e2, _⟩ := ownL.open (L := layK) ow2; subst e2; have ow2 := own_mono ow2 (show W0.heap.size ≤ _ by (try simp)); have k0_0 := bC hp0 z0 zz; have k0_1 := bC hp0 z1 zz; clear hb) | (go_at_call 76; have hc_ := HCL.out (W0.alloc (.cells #[.int .i64 0, .slice none 0 0, .slice none 0 0] 28)).drew (Below.drew ((Below.refl _ _).alloc (Nat.le_refl _) _)); with_reducible refine hc_.mono ?_; clear hc_; rintro e x0 ⟨v2, rfl, ow2, hb⟩; have hp0 : Below W0.heap.size W0 x0 := Below.trans (show Below W0.heap.size W0 (W0.alloc (.cells #[.int .i64 0, .slice none 0 0, .slice none 0 0] 28)).drew from (Below.drew ((Below.refl _ _).alloc (Nat.le_refl _) _))) (hb.mono (by simp)); have sp0 := hp0.size; obtain ⟨o2, c2, e2, _⟩ := ownL.open (L := layK) ow2; subst e2; have ow2 := own_mono ow2 (show W0.heap.size ≤ _ by (try simp)); have k0_0 := bC hp0 z0 zz; have k0_1 := bC hp0 z1 zz; have hZa := box_newA hb; have hzla := (Array.getElem?_eq_some_iff.1 hZa).1; have hzc_0 := bx_cell hZa 0 _ rfl; have hzf_0 := bx_frozen hZa 0; have hzc_1 := bx_cell hZa 1 _ rfl; have hzf_1 := bx_frozen hZa 1; have hzc_2 := bx_cell hZa 2 _ rfl; have hzf_2 := bx_frozen hZa 2; clear hb))
    all_goals (go_wp2_with fail; go_meet)
    all_goals first
      | with_reducible exact finK hZa hp0 (Nat.le_refl _) ow2
      | with_reducible exact finKn hp0 ow2
  case rest =>
    obtain ⟨B, o2, c2, rfl, Hbx, Hbl, hB1, hB2, Hob⟩ := hcut
    have hb := Hbl.out
    have hwc := hb.size
    have HBLK := hide (hb.block _ hzr)
    clear Hbl
    replace z0 := bC hb z0 zz
    replace z1 := bC hb z1 zz
    replace z2 := bC hb z2 zz
    replace zz := Nat.lt_of_lt_of_le zz hb.size
    replace r0 := bC hb r0 zr
    replace r1 := bC hb r1 zr
    replace r2 := bC hb r2 zr
    replace fr0 := bF hb fr0 zr
    replace fr1 := bF hb fr1 zr
    replace fr2 := bF hb fr2 zr
    replace zr := Nat.lt_of_lt_of_le zr hb.size
    replace HB := hide (HB.out.trans (hb.mono HB.out.size))
    clear hb
    have HRB := hide ((HBLK.out).trans HR0.out)
    have HBC := HB
    have HLB := hide (fun b (e : (Value.slice o2 l.length c2).ownBlock = some b) => (Hob.out.lt b e).2)
    have hz2c := z2
    have hr0c := r0
    have hr1c := r1
    have hr2c := r2
    have hf0c := fr0
    have hf1c := fr1
    have hf2c := fr2
    clear z0 z1 r0 r1 r2 fr0 fr1 fr2
    go_wp2
    go_loopw [15] (fun iv wr => ∃ (i : Nat) (hs : List Hd) (L H : Nat → Nat) (oQ : Option Addr) (cQ : Nat), i ≤ n ∧ iv = .int .i64 (i : Int) ∧ Hid (wr.heap[B]? = some (.cells #[.int .i64 key, .slice o2 l.length c2, .slice oQ i cQ] 28 (0, 0))) ∧ Hid (ownL layH 116 wr wc.heap.size (.slice oQ i cQ) hs) ∧ Hid (Rw InT [] ((fs.map ptLL).take i) wc.heap.size wr.heap.size wr hs L H) ∧ Hid (outB (.slice oQ i cQ) i L H) ∧ Hid (ownK wr W0.heap.size (.slice o2 l.length c2) l) ∧ wc.heap.size ≤ wr.heap.size ∧ Hid (Stp B (B + 1) wc wr))
      (fun iv _ => n - (intOf iv).toNat)
    case atStart => exact ⟨0, [], fun _ => 0, fun _ => 0, none, 0, Nat.zero_le _, rfl, Hbx.out, World.ownsRow_nil _ _ _ _, by rw [List.take_zero]; exact Rw.nil _ _ _ _ _ _ _, fun i hi => absurd hi (Nat.not_lt_zero _), Hob.out, Nat.le_refl _, Stp.refl _⟩
    case round =>
      obtain ⟨i, hs, L, H, oQ, cQ, hi', rfl, HBX, HOW, HRW, HOUT, HOB, hsr, HST⟩ := hrel
      have hzB : B ≠ w.heap.size := by omega
      have hBr : B ≠ w.heap.size + 1 := by omega
      have HCELL := hide (fun (p : Addr) u (hp : p.block < W0.heap.size) (h : wc.cell? p = some u) => HST.out.cellP h (by omega))
      by_cases hlt : i < n
      · skip
        have hlt' : (i : Int) < (n : Int) := by omega
        skip
        have hif : i < fs.length := by rw [← HNN.out]; exact hlt
        have HRD := hide (show RdL layT w.heap.size wr oR fs from rd_stp HG.out HBC.out HST.out (show w.heap.size ≤ B by omega) )
        rcases HRD.out with hh | ⟨b, off, rfl, hbl, hrow⟩
        · rw [hh] at hif; exact absurd hif (Nat.not_lt_zero _)
        have HRG := hide (RdL.range hrow i hif)
        have HTK := hide (take_map fs i hif)
        clear hrow HRD
        obtain ⟨f, hf⟩ : ∃ f, fs.getD i ptZ = f := ⟨_, rfl⟩
        rw [hf] at HRG HTK
        clear hf
        obtain ⟨W2, hW2⟩ : ∃ W, wr.alloc (.cells (ptA f) 123) = W := ⟨_, rfl⟩
        have hb2 : Below wr.heap.size wr W2 := by rw [← hW2]; exact (Below.refl _ _).alloc (Nat.le_refl _) _
        have hz5 : W2.heap[wr.heap.size]? = some (.cells (ptA f) 123 (0, 0)) := by rw [← hW2]; exact World.alloc_heap_new wr _
        have hx2 := (hb2.block B (by omega)).trans HBX.out
        have hx2l := (Array.getElem?_eq_some_iff.1 hx2).1
        have HRA := hide (show W2.rangeAt wr.heap.size 0 (ptL f) from range_pt hz5)
        clear hz5
        have p2 : W2.cell? ⟨B, 2, none⟩ = some (.slice oQ i cQ) := bx_cell hx2 2 _ rfl
        have HX2 := hide hx2
        have HOW2 := hide (own_kept HOW.out hb2)
        have HRW2 := hide (HRW.out.kept InT.stp hb2)
        have HOB2 := hide (own_kept HOB.out hb2)
        have HST2 := hide (HST.out.trans (Stp.of hb2))
        have hs2 : wr.heap.size ≤ W2.heap.size := hb2.size
        have HLT := hide (fun g (e : (Value.slice oQ i cQ).ownBlock = some g) => (HOW.out.lt g e).2)
        have HHI := hide (fun j (hj : j < i) => (HRW.out.bd j (by rw [List.length_take, List.length_map]; omega)).2)
        have HLN := hide (show ((fs.map ptLL).take i).length = i by rw [List.length_take, List.length_map]; omega)
        clear hb2 hx2 HOW HRW HOB
        go_wp2_with (first | (refine wpList_load_mid rfl 123 (.tmp 17) rfl b (off + i * 24) rfl (ptL f) _ HRG.out ptU rfl ptI ?_) | (refine wpList_store_pt rfl (.tmp 5) (.tmp 18) rfl wr.heap.size f ptZ rfl rfl (World.alloc_heap_new wr _) ?_; rw [World.setRow_alloc_new, hW2]))
        skip
        have HHL := hide (show hs.length = i by have := HRW2.out.len; rw [HLN.out] at this; exact this)
        have HNB := hide (fun g (e : (Value.slice oQ i cQ).ownBlock = some g) => (HOW2.out.lt g e).1)
        refine wp_region_held_drew (S := fun w' => w'.rangeAt wr.heap.size 0 (ptL f)) (by kernel_rfl) HRA.out (fun hHeld => ?_)
        refine wpAnyH_take (i := 2) (oi := _) (v := ptv f) rfl (by kernel_rfl) (by kernel_rfl) (by kernel_rfl) (fun _ _ _ h => h) (yieldsIf_load_mid (by rfl) _ _ rfl wr.heap.size 0 rfl (ptL f) _ (fun w h => h) ptU rfl ptI) hHeld ?_
        try simp only [Act.put, List.setIfInBounds_toArray, List.set_cons_zero, List.set_cons_succ]
        refine wpAnyH_take (i := 0) (oi := _) (v := .pointer (some ⟨B, 2, none⟩)) rfl (by kernel_rfl) (by kernel_rfl) (by kernel_rfl) (fun _ _ _ h => h) (Or.inl ⟨by rfl, fun w _ => by go_simp⟩) hHeld ?_
        try simp only [Act.put, List.setIfInBounds_toArray, List.set_cons_zero, List.set_cons_succ]
        have ra0 : W2.drew.rangeAt wr.heap.size 0 (ptL f) := HRA.out
        have hzw : wr.heap.size < W2.heap.size := by rw [← hW2]; simp
        refine wpAnyH_ready (rs := [1, 3]) (by kernel_rfl) (by simp) ?_
        refine AllReadyH.cons rfl (fun K hK => ?_) ?_
        · skip
          go_simp
          refine hK.out _ _ ra0 (fun hHeld => ?_)
          clear hK K
          try simp only [Act.put, List.setIfInBounds_toArray, List.set_cons_zero, List.set_cons_succ]
          refine wpAnyH_ready (rs := [3]) (by kernel_rfl) (by simp) ?_
          refine AllReadyH.cons rfl (fun K hK => ?_) ?_
          · skip
            go_simp
            go_at_call 77
            refine (lists_any f _).mono ?_
            rintro e v1 ⟨v4, rfl, it4, hb4⟩
            replace hb4 : Below W2.heap.size W2 v1 := (Below.drew (Below.refl _ _)).trans hb4
            replace it4 : InT W2.heap.size v1.heap.size v1 v4 (ptLL f) := it4
            obtain ⟨o4, c4, e4, _⟩ := RiT.rd (InT.ri it4)
            rw [ptLL_len] at e4
            subst e4
            have hx4 := (hb4.block B hx2l).trans HX2.out
            have hx4l := (Array.getElem?_eq_some_iff.1 hx4).1
            have p4 : v1.cell? ⟨B, 2, none⟩ = some (.slice oQ i cQ) := bx_cell hx4 2 _ rfl
            have p4a : ∀ O, (v1.alloc O).cell? ⟨B, 2, none⟩ = some (.slice oQ i cQ) := (fun O => ((Below.refl v1.heap.size v1).alloc (Nat.le_refl _) O).cell (p := ⟨B, 2, none⟩) hx4l |>.trans p4)
            have hs4 := hb4.size
            have HOW4 := hide (own_kept HOW2.out hb4)
            have HRW4 := hide (HRW2.out.kept InT.stp hb4)
            have HOB4 := hide (own_kept HOB2.out hb4)
            have HST4 := hide (HST2.out.trans (Stp.of hb4))
            have HIT := hide it4
            have ra1 : v1.rangeAt wr.heap.size 0 (ptL f) := range_kept HRA.out hb4 hzw
            have HX4 := hide hx4
            clear it4 hb4 hx4
            go_wp2_with fail
            refine hK.out _ _ ra1 (fun hHeld => ?_)
            clear hK K
            try simp only [Act.put, List.setIfInBounds_toArray, List.set_cons_zero, List.set_cons_succ]
            refine wpAnyH_ready (rs := [4]) (by kernel_rfl) (by simp) ?_
            refine AllReadyH.cons rfl (fun K hK => ?_) ?_
            · skip
              go_simp
              refine hK.out _ _ (range_kept ra1 ((Below.refl v1.heap.size v1).alloc (Nat.le_refl _) (.cells #[.slice o4 8 c4] 116)) (by omega)) (fun hHeld => ?_)
              clear hK K
              try simp only [Act.put, List.setIfInBounds_toArray, List.set_cons_zero, List.set_cons_succ]
              refine wpAnyH_ready (rs := [5]) (by kernel_rfl) (by simp) ?_
              refine AllReadyH.cons rfl (fun K hK => ?_) ?_
              · skip
                refine step_append_lay appHT rfl (.tmp 20) (.tmp 23) rfl wc.heap.size (.slice oQ i cQ) hs rfl (HOW4.out.alloc (.cells #[.slice o4 8 c4] 116)) (some ⟨v1.heap.size, 0, none⟩) 1 _ [(o4, 8, c4)] 1 rfl rfl (by simp) rd_oneH (by rw [HHL.out]; simp; omega) (by simp; omega) ?_
                intro v8 w8 ho8 hg8 hn8
                obtain ⟨o8, c8, e8, _⟩ := ownL.open (L := layH) ho8
                have hl8 : (hs ++ [((o4, 8, c4) : Hd)]).length = i + 1 := (by rw [List.length_append, HHL.out]; rfl)
                rw [hl8] at e8
                subst e8
                have hx8 := (hg8.block B (by simp; omega) (fun e => by have := HLT.out B e.symm; have := HNB.out B e.symm; omega)).trans ((Below.heap_alloc _ _ _ hx4l).trans HX4.out)
                have p8 : w8.cell? ⟨B, 2, none⟩ = some (.slice oQ i cQ) := bx_cell hx8 2 _ rfl
                have f8 := bx_frozen hx8 2
                have ra3 : w8.rangeAt wr.heap.size 0 (ptL f) := range_grown (range_kept ra1 ((Below.refl v1.heap.size v1).alloc (Nat.le_refl _) _) (by omega)) hg8 (by simp; omega) (fun e => by have := HLT.out _ e.symm; omega)
                have HX8 := hide hx8
                have HO8 := hide ho8
                have HG8 := hide hg8
                have HN8 := hide hn8
                clear ho8 hg8 hn8 hx8
                refine hK.out _ _ ra3 (fun hHeld => ?_)
                clear hK K
                try simp only [Act.put, List.setIfInBounds_toArray, List.set_cons_zero, List.set_cons_succ]
                refine wpAnyH_take (i := 6) (oi := _) (v := .pointer (some ⟨B, 2, none⟩)) rfl (by kernel_rfl) (by kernel_rfl) (by kernel_rfl) (fun _ _ _ h => h) (Or.inl ⟨by rfl, fun w _ => by go_simp⟩) hHeld ?_
                try simp only [Act.put, List.setIfInBounds_toArray, List.set_cons_zero, List.set_cons_succ]
                refine wpAnyH_ready (rs := [7]) (by kernel_rfl) (by simp) ?_
                refine AllReadyH.cons rfl (fun K hK => ?_) ?_
                · skip
                  go_simp
                  refine hK.out _ _ (range_far ra3 (by omega) _ _) (fun hHeld => ?_)
                  clear hK K
                  try simp only [Act.put, List.setIfInBounds_toArray, List.set_cons_zero, List.set_cons_succ]
                  refine wpAnyH_done (by kernel_rfl) ?_ _
                  have HX9 : Hid ((w8.setCell ⟨B, 2, none⟩ (.slice o8 (i + 1) c8)).heap[B]? = some (.cells #[.int .i64 key, .slice o2 l.length c2, .slice o8 (i + 1) c8] 28 (0, 0))) := box_put HX8.out 2 _
                  have HO9 : Hid (ownL layH 116 (w8.setCell ⟨B, 2, none⟩ (.slice o8 (i + 1) c8)) wc.heap.size (.slice o8 (i + 1) c8) (hs ++ [(o4, 8, c4)])) := own_putB HO8.out HX8.out neP1 2 _
                  have hR8 := Rw.more HRW4.out HLN.out hs2 (show wc.heap.size ≤ W2.heap.size by omega) hs4 HIT.out HOUT.out HLT.out HG8.out
                  rw [← HTK.out] at hR8
                  have HR9 : Hid (Rw InT [] ((fs.map ptLL).take (i + 1)) wc.heap.size (w8.setCell ⟨B, 2, none⟩ (.slice o8 (i + 1) c8)).heap.size (w8.setCell ⟨B, 2, none⟩ (.slice o8 (i + 1) c8)) (hs ++ [(o4, 8, c4)]) _ _) := (hR8.step InT.stp (stp_set w8 B 2 (.slice o8 (i + 1) c8)) (fun j hj => .inl (Nat.le_trans (show B + 1 ≤ wc.heap.size from hB2) (hR8.bd j hj).1))).mono (Nat.le_refl _) (by simp)
                  have HU9 := hide (out_more HOUT.out HHI.out hs2 hs4 HLT.out HN8.out)
                  have HOB9 : Hid (ownK (w8.setCell ⟨B, 2, none⟩ (.slice o8 (i + 1) c8)) W0.heap.size (.slice o2 l.length c2) l) := own_putB (World.ownsRow.kept (World.ownsRow.alloc HOB4.out _) HG8.out (own_apart0 HOB4.out HOW4.out neBR)) HX8.out neP4 2 _
                  have HS9 := hide ((stp_more HST4.out HG8.out (fun g e => HNB.out g e)).trans (stp_set w8 B 2 (.slice o8 (i + 1) c8)))
                  have hs9 : wc.heap.size ≤ w8.heap.size := by have := HS9.out.size; simpa using this
                  clear hR8
                  go_wp2
                  go_roundw
                  case rel => exact ⟨i + 1, _, _, _, o8, c8, by omega, by go_num, HX9.out, HO9.out, HR9.out, HU9.out, HOB9.out, by simpa using hs9, HS9.out⟩
                  case measure => simp [intOf]; omega
                exact AllReadyH.nil
              exact AllReadyH.nil
            exact AllReadyH.nil
          exact AllReadyH.nil
        refine AllReadyH.cons rfl (fun K hK => ?_) ?_
        · skip
          go_simp
          go_at_call 77
          refine (lists_any f _).mono ?_
          rintro e v1 ⟨v4, rfl, it4, hb4⟩
          replace hb4 : Below W2.heap.size W2 v1 := (Below.drew (Below.refl _ _)).trans hb4
          replace it4 : InT W2.heap.size v1.heap.size v1 v4 (ptLL f) := it4
          obtain ⟨o4, c4, e4, _⟩ := RiT.rd (InT.ri it4)
          rw [ptLL_len] at e4
          subst e4
          have hx4 := (hb4.block B hx2l).trans HX2.out
          have hx4l := (Array.getElem?_eq_some_iff.1 hx4).1
          have p4 : v1.cell? ⟨B, 2, none⟩ = some (.slice oQ i cQ) := bx_cell hx4 2 _ rfl
          have p4a : ∀ O, (v1.alloc O).cell? ⟨B, 2, none⟩ = some (.slice oQ i cQ) := (fun O => ((Below.refl v1.heap.size v1).alloc (Nat.le_refl _) O).cell (p := ⟨B, 2, none⟩) hx4l |>.trans p4)
          have hs4 := hb4.size
          have HOW4 := hide (own_kept HOW2.out hb4)
          have HRW4 := hide (HRW2.out.kept InT.stp hb4)
          have HOB4 := hide (own_kept HOB2.out hb4)
          have HST4 := hide (HST2.out.trans (Stp.of hb4))
          have HIT := hide it4
          have ra1 : v1.rangeAt wr.heap.size 0 (ptL f) := range_kept HRA.out hb4 hzw
          have HX4 := hide hx4
          clear it4 hb4 hx4
          go_wp2_with fail
          refine hK.out _ _ ra1 (fun hHeld => ?_)
          clear hK K
          try simp only [Act.put, List.setIfInBounds_toArray, List.set_cons_zero, List.set_cons_succ]
          refine wpAnyH_ready (rs := [1, 4]) (by kernel_rfl) (by simp) ?_
          refine AllReadyH.cons rfl (fun K hK => ?_) ?_
          · skip
            go_simp
            refine hK.out _ _ ra1 (fun hHeld => ?_)
            clear hK K
            try simp only [Act.put, List.setIfInBounds_toArray, List.set_cons_zero, List.set_cons_succ]
            refine wpAnyH_ready (rs := [4]) (by kernel_rfl) (by simp) ?_
            refine AllReadyH.cons rfl (fun K hK => ?_) ?_
            · skip
              go_simp
              refine hK.out _ _ (range_kept ra1 ((Below.refl v1.heap.size v1).alloc (Nat.le_refl _) (.cells #[.slice o4 8 c4] 116)) (by omega)) (fun hHeld => ?_)
              clear hK K
              try simp only [Act.put, List.setIfInBounds_toArray, List.set_cons_zero, List.set_cons_succ]
              refine wpAnyH_ready (rs := [5]) (by kernel_rfl) (by simp) ?_
              refine AllReadyH.cons rfl (fun K hK => ?_) ?_
              · skip
                refine step_append_lay appHT rfl (.tmp 20) (.tmp 23) rfl wc.heap.size (.slice oQ i cQ) hs rfl (HOW4.out.alloc (.cells #[.slice o4 8 c4] 116)) (some ⟨v1.heap.size, 0, none⟩) 1 _ [(o4, 8, c4)] 1 rfl rfl (by simp) rd_oneH (by rw [HHL.out]; simp; omega) (by simp; omega) ?_
                intro v8 w8 ho8 hg8 hn8
                obtain ⟨o8, c8, e8, _⟩ := ownL.open (L := layH) ho8
                have hl8 : (hs ++ [((o4, 8, c4) : Hd)]).length = i + 1 := (by rw [List.length_append, HHL.out]; rfl)
                rw [hl8] at e8
                subst e8
                have hx8 := (hg8.block B (by simp; omega) (fun e => by have := HLT.out B e.symm; have := HNB.out B e.symm; omega)).trans ((Below.heap_alloc _ _ _ hx4l).trans HX4.out)
                have p8 : w8.cell? ⟨B, 2, none⟩ = some (.slice oQ i cQ) := bx_cell hx8 2 _ rfl
                have f8 := bx_frozen hx8 2
                have ra3 : w8.rangeAt wr.heap.size 0 (ptL f) := range_grown (range_kept ra1 ((Below.refl v1.heap.size v1).alloc (Nat.le_refl _) _) (by omega)) hg8 (by simp; omega) (fun e => by have := HLT.out _ e.symm; omega)
                have HX8 := hide hx8
                have HO8 := hide ho8
                have HG8 := hide hg8
                have HN8 := hide hn8
                clear ho8 hg8 hn8 hx8
                refine hK.out _ _ ra3 (fun hHeld => ?_)
                clear hK K
                try simp only [Act.put, List.setIfInBounds_toArray, List.set_cons_zero, List.set_cons_succ]
                refine wpAnyH_take (i := 6) (oi := _) (v := .pointer (some ⟨B, 2, none⟩)) rfl (by kernel_rfl) (by kernel_rfl) (by kernel_rfl) (fun _ _ _ h => h) (Or.inl ⟨by rfl, fun w _ => by go_simp⟩) hHeld ?_
                try simp only [Act.put, List.setIfInBounds_toArray, List.set_cons_zero, List.set_cons_succ]
                refine wpAnyH_ready (rs := [7]) (by kernel_rfl) (by simp) ?_
                refine AllReadyH.cons rfl (fun K hK => ?_) ?_
                · skip
                  go_simp
                  refine hK.out _ _ (range_far ra3 (by omega) _ _) (fun hHeld => ?_)
                  clear hK K
                  try simp only [Act.put, List.setIfInBounds_toArray, List.set_cons_zero, List.set_cons_succ]
                  refine wpAnyH_done (by kernel_rfl) ?_ _
                  have HX9 : Hid ((w8.setCell ⟨B, 2, none⟩ (.slice o8 (i + 1) c8)).heap[B]? = some (.cells #[.int .i64 key, .slice o2 l.length c2, .slice o8 (i + 1) c8] 28 (0, 0))) := box_put HX8.out 2 _
                  have HO9 : Hid (ownL layH 116 (w8.setCell ⟨B, 2, none⟩ (.slice o8 (i + 1) c8)) wc.heap.size (.slice o8 (i + 1) c8) (hs ++ [(o4, 8, c4)])) := own_putB HO8.out HX8.out neP1 2 _
                  have hR8 := Rw.more HRW4.out HLN.out hs2 (show wc.heap.size ≤ W2.heap.size by omega) hs4 HIT.out HOUT.out HLT.out HG8.out
                  rw [← HTK.out] at hR8
                  have HR9 : Hid (Rw InT [] ((fs.map ptLL).take (i + 1)) wc.heap.size (w8.setCell ⟨B, 2, none⟩ (.slice o8 (i + 1) c8)).heap.size (w8.setCell ⟨B, 2, none⟩ (.slice o8 (i + 1) c8)) (hs ++ [(o4, 8, c4)]) _ _) := (hR8.step InT.stp (stp_set w8 B 2 (.slice o8 (i + 1) c8)) (fun j hj => .inl (Nat.le_trans (show B + 1 ≤ wc.heap.size from hB2) (hR8.bd j hj).1))).mono (Nat.le_refl _) (by simp)
                  have HU9 := hide (out_more HOUT.out HHI.out hs2 hs4 HLT.out HN8.out)
                  have HOB9 : Hid (ownK (w8.setCell ⟨B, 2, none⟩ (.slice o8 (i + 1) c8)) W0.heap.size (.slice o2 l.length c2) l) := own_putB (World.ownsRow.kept (World.ownsRow.alloc HOB4.out _) HG8.out (own_apart0 HOB4.out HOW4.out neBR)) HX8.out neP4 2 _
                  have HS9 := hide ((stp_more HST4.out HG8.out (fun g e => HNB.out g e)).trans (stp_set w8 B 2 (.slice o8 (i + 1) c8)))
                  have hs9 : wc.heap.size ≤ w8.heap.size := by have := HS9.out.size; simpa using this
                  clear hR8
                  go_wp2
                  go_roundw
                  case rel => exact ⟨i + 1, _, _, _, o8, c8, by omega, by go_num, HX9.out, HO9.out, HR9.out, HU9.out, HOB9.out, by simpa using hs9, HS9.out⟩
                  case measure => simp [intOf]; omega
                exact AllReadyH.nil
              exact AllReadyH.nil
            exact AllReadyH.nil
          refine AllReadyH.cons rfl (fun K hK => ?_) ?_
          · skip
            go_simp
            refine hK.out _ _ (range_kept ra1 ((Below.refl v1.heap.size v1).alloc (Nat.le_refl _) (.cells #[.slice o4 8 c4] 116)) (by omega)) (fun hHeld => ?_)
            clear hK K
            try simp only [Act.put, List.setIfInBounds_toArray, List.set_cons_zero, List.set_cons_succ]
            refine wpAnyH_ready (rs := [1]) (by kernel_rfl) (by simp) ?_
            refine AllReadyH.cons rfl (fun K hK => ?_) ?_
            · skip
              go_simp
              refine hK.out _ _ (range_kept ra1 ((Below.refl v1.heap.size v1).alloc (Nat.le_refl _) (.cells #[.slice o4 8 c4] 116)) (by omega)) (fun hHeld => ?_)
              clear hK K
              try simp only [Act.put, List.setIfInBounds_toArray, List.set_cons_zero, List.set_cons_succ]
              refine wpAnyH_ready (rs := [5]) (by kernel_rfl) (by simp) ?_
              refine AllReadyH.cons rfl (fun K hK => ?_) ?_
              · skip
                refine step_append_lay appHT rfl (.tmp 20) (.tmp 23) rfl wc.heap.size (.slice oQ i cQ) hs rfl (HOW4.out.alloc (.cells #[.slice o4 8 c4] 116)) (some ⟨v1.heap.size, 0, none⟩) 1 _ [(o4, 8, c4)] 1 rfl rfl (by simp) rd_oneH (by rw [HHL.out]; simp; omega) (by simp; omega) ?_
                intro v8 w8 ho8 hg8 hn8
                obtain ⟨o8, c8, e8, _⟩ := ownL.open (L := layH) ho8
                have hl8 : (hs ++ [((o4, 8, c4) : Hd)]).length = i + 1 := (by rw [List.length_append, HHL.out]; rfl)
                rw [hl8] at e8
                subst e8
                have hx8 := (hg8.block B (by simp; omega) (fun e => by have := HLT.out B e.symm; have := HNB.out B e.symm; omega)).trans ((Below.heap_alloc _ _ _ hx4l).trans HX4.out)
                have p8 : w8.cell? ⟨B, 2, none⟩ = some (.slice oQ i cQ) := bx_cell hx8 2 _ rfl
                have f8 := bx_frozen hx8 2
                have ra3 : w8.rangeAt wr.heap.size 0 (ptL f) := range_grown (range_kept ra1 ((Below.refl v1.heap.size v1).alloc (Nat.le_refl _) _) (by omega)) hg8 (by simp; omega) (fun e => by have := HLT.out _ e.symm; omega)
                have HX8 := hide hx8
                have HO8 := hide ho8
                have HG8 := hide hg8
                have HN8 := hide hn8
                clear ho8 hg8 hn8 hx8
                refine hK.out _ _ ra3 (fun hHeld => ?_)
                clear hK K
                try simp only [Act.put, List.setIfInBounds_toArray, List.set_cons_zero, List.set_cons_succ]
                refine wpAnyH_take (i := 6) (oi := _) (v := .pointer (some ⟨B, 2, none⟩)) rfl (by kernel_rfl) (by kernel_rfl) (by kernel_rfl) (fun _ _ _ h => h) (Or.inl ⟨by rfl, fun w _ => by go_simp⟩) hHeld ?_
                try simp only [Act.put, List.setIfInBounds_toArray, List.set_cons_zero, List.set_cons_succ]
                refine wpAnyH_ready (rs := [7]) (by kernel_rfl) (by simp) ?_
                refine AllReadyH.cons rfl (fun K hK => ?_) ?_
                · skip
                  go_simp
                  refine hK.out _ _ (range_far ra3 (by omega) _ _) (fun hHeld => ?_)
                  clear hK K
                  try simp only [Act.put, List.setIfInBounds_toArray, List.set_cons_zero, List.set_cons_succ]
                  refine wpAnyH_done (by kernel_rfl) ?_ _
                  have HX9 : Hid ((w8.setCell ⟨B, 2, none⟩ (.slice o8 (i + 1) c8)).heap[B]? = some (.cells #[.int .i64 key, .slice o2 l.length c2, .slice o8 (i + 1) c8] 28 (0, 0))) := box_put HX8.out 2 _
                  have HO9 : Hid (ownL layH 116 (w8.setCell ⟨B, 2, none⟩ (.slice o8 (i + 1) c8)) wc.heap.size (.slice o8 (i + 1) c8) (hs ++ [(o4, 8, c4)])) := own_putB HO8.out HX8.out neP1 2 _
                  have hR8 := Rw.more HRW4.out HLN.out hs2 (show wc.heap.size ≤ W2.heap.size by omega) hs4 HIT.out HOUT.out HLT.out HG8.out
                  rw [← HTK.out] at hR8
                  have HR9 : Hid (Rw InT [] ((fs.map ptLL).take (i + 1)) wc.heap.size (w8.setCell ⟨B, 2, none⟩ (.slice o8 (i + 1) c8)).heap.size (w8.setCell ⟨B, 2, none⟩ (.slice o8 (i + 1) c8)) (hs ++ [(o4, 8, c4)]) _ _) := (hR8.step InT.stp (stp_set w8 B 2 (.slice o8 (i + 1) c8)) (fun j hj => .inl (Nat.le_trans (show B + 1 ≤ wc.heap.size from hB2) (hR8.bd j hj).1))).mono (Nat.le_refl _) (by simp)
                  have HU9 := hide (out_more HOUT.out HHI.out hs2 hs4 HLT.out HN8.out)
                  have HOB9 : Hid (ownK (w8.setCell ⟨B, 2, none⟩ (.slice o8 (i + 1) c8)) W0.heap.size (.slice o2 l.length c2) l) := own_putB (World.ownsRow.kept (World.ownsRow.alloc HOB4.out _) HG8.out (own_apart0 HOB4.out HOW4.out neBR)) HX8.out neP4 2 _
                  have HS9 := hide ((stp_more HST4.out HG8.out (fun g e => HNB.out g e)).trans (stp_set w8 B 2 (.slice o8 (i + 1) c8)))
                  have hs9 : wc.heap.size ≤ w8.heap.size := by have := HS9.out.size; simpa using this
                  clear hR8
                  go_wp2
                  go_roundw
                  case rel => exact ⟨i + 1, _, _, _, o8, c8, by omega, by go_num, HX9.out, HO9.out, HR9.out, HU9.out, HOB9.out, by simpa using hs9, HS9.out⟩
                  case measure => simp [intOf]; omega
                exact AllReadyH.nil
              exact AllReadyH.nil
            exact AllReadyH.nil
          exact AllReadyH.nil
        exact AllReadyH.nil
      · skip
        have e : i = n := by omega
        subst e
        have hrb := HST.out.box HRB.out (.inl (show w.heap.size + 1 < B by omega))
        have r0 : wr.cell? ⟨w.heap.size + 1, 0, none⟩ = some (.int .i64 0) := bx_cell hrb 0 _ rfl
        have fr0 := bx_frozen hrb 0
        have r1 : wr.cell? ⟨w.heap.size + 1, 1, none⟩ = some (.slice none 0 0) := bx_cell hrb 1 _ rfl
        have fr1 := bx_frozen hrb 1
        have r2 : wr.cell? ⟨w.heap.size + 1, 2, none⟩ = some (.slice none 0 0) := bx_cell hrb 2 _ rfl
        have fr2 := bx_frozen hrb 2
        have p0 : wr.cell? ⟨B, 0, none⟩ = some (.int .i64 key) := bx_cell HBX.out 0 _ rfl
        have p1 : wr.cell? ⟨B, 1, none⟩ = some (.slice o2 l.length c2) := bx_cell HBX.out 1 _ rfl
        have p2 : wr.cell? ⟨B, 2, none⟩ = some (.slice oQ i cQ) := bx_cell HBX.out 2 _ rfl
        have HIN : Hid (InPm W0.heap.size wr.heap.size wr (plv key (.slice o2 l.length c2) (.slice oQ i cQ)) ⟨key, l, fs.map ptLL⟩) := ⟨_, _, wc.heap.size, rfl, hwc, hsr, ⟨HOB.out, HLB.out⟩, ⟨hs, L, H, InRow.of (all_take HNN.out HRW.out HOW.out).1, (all_take HNN.out HRW.out HOW.out).2, out_len HNN.out HOUT.out⟩⟩
        have HBW := hide (HBC.out.trans (HST.out.below (show w.heap.size ≤ B by omega) (by omega)))
        clear hrb
        go_wp2
        refine bodyPost_ret (v := plv key (.slice o2 l.length c2) (.slice oQ i cQ)) (by simp [results, Try.results46, go_sem, r0, r1, r2]) rfl ⟨_, rfl, ?_, setQ_below HBW.out (Nat.le_succ _) _ _ _⟩
        rw [setQ_size]
        exact InPm.mono (HIN.out.step (stp_setQ wr (w.heap.size + 1) _ _ _) (.inl (by omega))) (by omega)

theorem plain_any (key : Int) (o : Option Addr) (cap : Nat) (l : List Bk) (oR : Option Addr) (cR : Nat) (fs : List Pt) (w : World) (hR : RdK w.heap.size w o l) (hn : o = none → cap = 0) (hlen : l.length ≤ 1048576) (hG : RdL layT w.heap.size w oR fs) (hf3 : fs.length ≤ 1048576) :
    Calls Try.prog 46 #[polv key (.slice o l.length cap) (.slice oR fs.length cR)] w fun e w' => ∃ v, e = .returned v ∧ InPm w.heap.size w'.heap.size w' v ⟨key, l, fs.map ptLL⟩ ∧ Below w.heap.size w w' := plain_go key o cap l oR cR fs fs.length rfl w hR hn hlen hG hf3

end Go.Proofs.Ytfmnhdemhbbjlaa

/- The model's copy of a pool. -/
namespace Go.Proofs.Ytfmnhdemhbbjlaa
open Go.ChangeShapes Go.WideShapes Go.ChangeAt Go.RowKit Go.Joins
set_option linter.unusedVariables false
set_option linter.unusedSimpArgs false

theorem appII : AppOk layI 117 3 := ⟨Try.underlying117, ⟨_, _, infoInt, rfl, by decide⟩, by decide, fun a u hu => by
  have : u = .int .i64 a := by simpa [layI] using hu
  subst this; rfl⟩
theorem appHI : AppOk layH 116 117 := ⟨Try.underlying116, ⟨_, _, infoIntS, rfl, by decide⟩, by decide, fun a u hu => by
  have : u = .slice a.1 a.2.1 a.2.2 := by simpa [layH] using hu
  subst this; rfl⟩
/-- As RiV; a slice of nothing has no room. -/
def RcV {α : Type} (L : Lay α) (lo hi : Nat) (w : World) (v : Value) (l : List α) : Prop := RiV L lo hi w v l ∧ capV v
abbrev RcT := RiRows (RcV layI) []
abbrev RcR := RiRows RcT []
theorem RcI.mon : Monos (RcV layI) := ⟨fun h h1 h2 => ⟨RiV.mono h.1 h1 h2, h.2⟩⟩
theorem RcI.stp : Stps (RcV layI) := ⟨fun h s hd => ⟨RiV.step h.1 s hd, h.2⟩⟩
theorem RcT.mon : Monos RcT := RiRows.mono RcI.mon
theorem RcT.stp : Stps RcT := RiRows.step RcI.stp
theorem RcR.mon : Monos RcR := RiRows.mono RcT.mon
theorem RcR.stp : Stps RcR := RiRows.step RcT.stp
theorem RiRows.map {α : Type} {Q Q' : Nat → Nat → World → Value → α → Prop} {d : α} (hq : ∀ {lo hi : Nat} {w : World} {v : Value} {x : α}, Q lo hi w v x → Q' lo hi w v x) {lo hi : Nat} {w : World} {v : Value} {xs : List α} (h : RiRows Q d lo hi w v xs) : RiRows Q' d lo hi w v xs := by
  obtain ⟨hs, h0, h1, h2⟩ := h
  exact ⟨hs, h0, h1, fun i hi => hq (h2 i hi)⟩
theorem RiRows.at {α : Type} {Q : Nat → Nat → World → Value → α → Prop} {d : α} {a C : Nat} {w : World} {o : Option Addr} {n c : Nat} {xs : List α} (h : RiRows Q d a C w (.slice o n c) xs) (hC : C ≤ w.heap.size) (i : Nat) (hi : i < xs.length) : ∃ b off u, o = some ⟨b, off, none⟩ ∧ b < C ∧ w.cell? ⟨b, off + i, none⟩ = some u ∧ Q a C w u (xs.getD i d) := by
  obtain ⟨hs, h0, h1, h2⟩ := h
  obtain ⟨o1, c1, e, r⟩ := h1.open
  injection e with e1 e2 e3
  subst e1
  rcases r with r | ⟨b, off, ho, hb, r⟩
  · subst r; simp at h0; omega
  · exact ⟨b, off, hv hs i, ho, hb, RdL.head r i (by omega), h2 i hi⟩
theorem RcT.len {lo hi : Nat} {w : World} {v : Value} {ll : List (List Int)} (h : RcT lo hi w v ll) : ∃ o c, v = .slice o ll.length c := by
  obtain ⟨hs, h0, ⟨o, c, e, _⟩, _⟩ := h
  exact ⟨o, c, by rw [e, h0]⟩
theorem RcV.opn {lo hi : Nat} {w : World} {v : Value} {l : List Int} (h : RcV layI lo hi w v l) : ∃ o c, v = .slice o l.length c ∧ RdL layI hi w o l ∧ (o = none → c = 0) := by
  obtain ⟨o, c, e, r⟩ := RiV.open h.1
  exact ⟨o, c, e, r, fun h0 => h.2 l.length c (by rw [e, h0])⟩
theorem own_none3 {α : Type} {L : Lay α} (w : World) (O : Obj) (e : TypeId) : ownL L e ((w.alloc O).alloc (.cells #[] e)) (w.heap.size + 1) (.slice (some ⟨w.heap.size + 1, 0, none⟩) 0 0) ([] : List α) := by
  have h := own_none0 (L := L) (w.alloc O) e
  rw [World.size_alloc] at h
  exact h
/-- Tables of the call's own. -/
def GTabs (w : World) (base : Nat) (hs : List Hd) (lll : List (List (List Int))) : Prop := hs.length = lll.length ∧ ∀ i, i < lll.length → ∃ o3 c3 hs8, hs.getD i (none, 0, 0) = (o3, (lll.getD i []).length, c3) ∧ ownL layH 117 w base (.slice o3 (lll.getD i []).length c3) hs8 ∧ Tab (fun q => (lll.getD i []).getD q []) (lll.getD i []).length w base hs8
theorem GTabs.nil (w : World) (base : Nat) : GTabs w base [] [] := ⟨rfl, fun i h => absurd h (Nat.not_lt_zero _)⟩
theorem GTabs.kept {w w' : World} {base : Nat} {hs : List Hd} {R : List (List (List Int))} (h : GTabs w base hs R) (hb : Below w.heap.size w w') : GTabs w' base hs R :=
  ⟨h.1, fun i hi => by obtain ⟨o3, c3, hs8, e, h1, h2⟩ := h.2 i hi; exact ⟨o3, c3, hs8, e, own_kept h1 hb, h2.kept hb⟩⟩
theorem GTabs.other {w w' : World} {base b2 n2 : Nat} {hs : List Hd} {R : List (List (List Int))} {v2 : Value} {x2 : List Value} (h : GTabs w base hs R) (h2 : w.ownsRow b2 116 1 v2 n2 x2) (hg : w.grownBy w' v2.ownBlock) : GTabs w' base hs R :=
  ⟨h.1, fun i hi => by obtain ⟨o3, c3, hs8, e, k1, k2⟩ := h.2 i hi; exact ⟨o3, c3, hs8, e, World.ownsRow.kept k1 hg (own_apart k1 h2 neT1), k2.other h2 neT2 hg⟩⟩
theorem GTabs.putB {w : World} {base : Nat} {hs : List Hd} {R : List (List (List Int))} {B : Nat} {c : Array Value} (h : GTabs w base hs R) (hB : w.heap[B]? = some (.cells c 28 (0, 0))) (j : Nat) (u : Value) : GTabs (w.setCell ⟨B, j, none⟩ u) base hs R :=
  ⟨h.1, fun i hi => by obtain ⟨o3, c3, hs8, e, h1, h2⟩ := h.2 i hi; exact ⟨o3, c3, hs8, e, own_putB h1 hB neP2 j u, h2.grown (grown_set w B j u) (fun q hq => own_box (h2.row q hq) hB neP3)⟩⟩
theorem GTabs.snoc {w : World} {base : Nat} {hs hs8 : List Hd} {R : List (List (List Int))} {ll : List (List Int)} {o3 : Option Addr} {c3 : Nat} (h : GTabs w base hs R) (h1 : ownL layH 117 w base (.slice o3 ll.length c3) hs8) (h2 : Tab (fun q => ll.getD q []) ll.length w base hs8) : GTabs w base (hs ++ [(o3, ll.length, c3)]) (R ++ [ll]) := by
  have hl := h.1
  refine ⟨by simp [hl], fun i hi => ?_⟩
  by_cases hi' : i < R.length
  · have e1 : (R ++ [ll]).getD i [] = R.getD i [] := by rw [List.getD_eq_getElem?_getD, List.getElem?_append_left hi', ← List.getD_eq_getElem?_getD]
    have e2 : (hs ++ [(o3, ll.length, c3)]).getD i (none, 0, 0) = hs.getD i (none, 0, 0) := by rw [List.getD_eq_getElem?_getD, List.getElem?_append_left (by omega), ← List.getD_eq_getElem?_getD]
    rw [e1, e2]; exact h.2 i hi'
  · have e0 : i = R.length := by simp at hi; omega
    subst e0
    have e1 : (R ++ [ll]).getD R.length [] = ll := by simp
    have e2 : (hs ++ [(o3, ll.length, c3)]).getD R.length (none, 0, 0) = (o3, ll.length, c3) := by rw [← hl]; simp
    rw [e1, e2]; exact ⟨o3, c3, hs8, rfl, h1, h2⟩
theorem GTabs.rc {w : World} {base : Nat} {hs : List Hd} {R : List (List (List Int))} {o : Option Addr} {n c : Nat} (h : GTabs w base hs R) (ho : ownL layH 116 w base (.slice o n c) hs) : RcR base w.heap.size w (.slice o n c) R := by
  refine ⟨hs, h.1, InRow.ri (InRow.of ho), fun i hi => ?_⟩
  obtain ⟨o3, c3, hs8, e, h1, h2⟩ := h.2 i hi
  have e' : hv hs i = .slice o3 (R.getD i []).length c3 := by unfold hv; rw [e]
  rw [e']
  exact ⟨hs8, h2.len, InRow.ri (InRow.of h1), fun j hj => ⟨InRow.ri (InRow.of (h2.row j hj)), InRow.cap (InRow.of (h2.row j hj))⟩⟩
theorem RcR.ri {lo hi : Nat} {w : World} {v : Value} {R : List (List (List Int))} (h : RcR lo hi w v R) : RiR lo hi w v R := RiRows.map (fun q => RiRows.map (fun r => r.1) q) h
theorem GTabs.ri {w : World} {base : Nat} {hs : List Hd} {R : List (List (List Int))} {o : Option Addr} {n c : Nat} (h : GTabs w base hs R) (ho : ownL layH 116 w base (.slice o n c) hs) : RiR base w.heap.size w (.slice o n c) R := RcR.ri (h.rc ho)
theorem GTabs.mono {w : World} {base b2 : Nat} {hs : List Hd} {R : List (List (List Int))} (h : GTabs w base hs R) (hb : b2 ≤ base) : GTabs w b2 hs R :=
  ⟨h.1, fun i hi => by obtain ⟨o3, c3, hs8, e, h1, h2⟩ := h.2 i hi; exact ⟨o3, c3, hs8, e, own_mono h1 hb, Tab.mono h2 hb⟩⟩
theorem take_rows (R : List (List (List Int))) (i : Nat) (h : i < R.length) : R.take (i + 1) = R.take i ++ [R.getD i []] := by
  rw [List.take_succ_eq_append_getElem h]
  simp [h]

set_option maxRecDepth 100000 in
set_option maxHeartbeats 16000000 in
theorem l4own_gt (key : Int) (o : Option Addr) (cap : Nat) (l : List Bk) (oR : Option Addr) (cR : Nat) (lll : List (List (List Int))) (n : Nat) (hnn : n = lll.length) (w : World) (hR : RdK w.heap.size w o l) (hn : o = none → cap = 0) (hlen : l.length ≤ 1048576) (hG : RcR 0 w.heap.size w (.slice oR n cR) lll) (hf : n ≤ 1048576) (hx : ∀ i, i < lll.length → (lll.getD i []).length ≤ 1048576) (hy : ∀ i, i < lll.length → ∀ j, j < (lll.getD i []).length → ((lll.getD i []).getD j []).length ≤ 1048576) :
    Calls Try.prog 41 #[plv key (.slice o l.length cap) (.slice oR n cR)] w fun e w' => ∃ o2 c2 oQ cQ hs, e = .returned (plv key (.slice o2 l.length c2) (.slice oQ n cQ)) ∧ ownK w' w.heap.size (.slice o2 l.length c2) l ∧ ownL layH 116 w' w.heap.size (.slice oQ n cQ) hs ∧ GTabs w' w.heap.size hs lll ∧ Below w.heap.size w w' := by
  have HNN := hide hnn
  clear hnn
  obtain ⟨W0, hW0⟩ : ∃ W, ((w.alloc (.cells #[.int .i64 key, .slice o l.length cap, .slice oR n cR] 28)).alloc (.cells #[.int .i64 0, .slice none 0 0, .slice none 0 0] 28)) = W := ⟨_, rfl⟩
  have hb_W0 : Below w.heap.size w W0 := by rw [← hW0]; exact (((Below.refl _ _).alloc (Nat.le_refl _) _).alloc (by simp <;> omega) _)
  have HB := hide hb_W0
  clear hb_W0
  have zz : w.heap.size < W0.heap.size := by rw [← hW0]; simp <;> omega
  have z0 : W0.cell? ⟨w.heap.size, 0, none⟩ = some (.int .i64 key) := by rw [← hW0]; simp [go_sem]
  have z1 : W0.cell? ⟨w.heap.size, 1, none⟩ = some (.slice o l.length cap) := by rw [← hW0]; simp [go_sem]
  have z2 : W0.cell? ⟨w.heap.size, 2, none⟩ = some (.slice oR n cR) := by rw [← hW0]; simp [go_sem]
  have zr : w.heap.size + 1 < W0.heap.size := by rw [← hW0]; simp
  have r0 : W0.cell? ⟨w.heap.size + 1, 0, none⟩ = some (.int .i64 0) := by rw [← hW0]; simp [go_sem]
  have r1 : W0.cell? ⟨w.heap.size + 1, 1, none⟩ = some (.slice none 0 0) := by rw [← hW0]; simp [go_sem]
  have r2 : W0.cell? ⟨w.heap.size + 1, 2, none⟩ = some (.slice none 0 0) := by rw [← hW0]; simp [go_sem]
  have fr0 : W0.frozen? ⟨w.heap.size + 1, 0, none⟩ = false := by rw [← hW0]; simp [go_sem]
  have fr1 : W0.frozen? ⟨w.heap.size + 1, 1, none⟩ = false := by rw [← hW0]; simp [go_sem]
  have fr2 : W0.frozen? ⟨w.heap.size + 1, 2, none⟩ = false := by rw [← hW0]; simp [go_sem]
  have HR0 := hide (show W0.heap[w.heap.size + 1]? = some (.cells #[.int .i64 0, .slice none 0 0, .slice none 0 0] 28 (0, 0)) by rw [← hW0]; exact box_new2 w _ _ _)
  have hzr := zr
  have hzz0 := zz
  have HRK := hide (fun W (hb : Below W0.heap.size W0 W) => (hR.kept (HB.out.trans (hb.mono HB.out.size)) (Nat.le_refl _)))
  have HG := hide hG
  have HX := hide hx
  have HY := hide hy
  clear hR hG hx hy
  have hw0 := HB.out.size
  go_enter Try.func41, Try.ntmps41
  go_upto_region 1 with fail
  go_cut [3] from 7 to 13 (fun s3 wx => ∃ B o2 c2, s3 = .pointer (some ⟨B, 0, none⟩) ∧ Hid (wx.heap[B]? = some (.cells #[.int .i64 key, .slice o2 l.length c2, .slice none 0 0] 28 (0, 0))) ∧ Hid (Below W0.heap.size W0 wx) ∧ W0.heap.size ≤ B ∧ B < wx.heap.size ∧ Hid (ownK wx W0.heap.size (.slice o2 l.length c2) l))
  case first =>
    go_region_held3 (fun w' => w'.cell? ⟨w.heap.size, 0, none⟩ = some (.int .i64 key) ∧ w'.cell? ⟨w.heap.size, 1, none⟩ = some (.slice o l.length cap)) (first | with_reducible exact ⟨k0_0, k0_1⟩ | with_reducible exact ⟨z0, z1⟩ | with_reducible exact ⟨setP_cell k0_0 (show w.heap.size < _ by omega), setP_cell k0_1 (show w.heap.size < _ by omega)⟩ | go_keep) (first | (have own_ : ownL layK 137 (W0.alloc (.cells #[] 137)).drew W0.heap.size (.slice (some ⟨W0.heap.size, 0, none⟩) 0 0) ([] : List Bk) := own_none0 W0 _; have hbv : Below W0.heap.size W0 (W0.alloc (.cells #[] 137)).drew := Below.drew ((Below.refl _ _).alloc (Nat.le_refl _) _); refine step_append_lay appK0 rfl _ _ rfl W0.heap.size (.slice (some ⟨W0.heap.size, 0, none⟩) 0 0) ([] : List Bk) rfl own_ o cap w.heap.size l l.length rfl rfl hn (HRK.out _ hbv) (by simp; omega) (by (try simp) <;> omega) ?_; intro v8 x0 ho8 hg8 _; have hp0 : Below W0.heap.size W0 x0 := hbv.grown hg8 (by (try simp) <;> omega) (fun k h => by simp [Value.ownBlock] at h; omega); have sp0 := hp0.size; obtain ⟨o2, c2, e2, _⟩ := ownL.open (L := layK) ho8; subst e2; have ow2 : ownK x0 W0.heap.size (.slice o2 l.length c2) l := ho8; have k0_0 := bC hp0 z0 zz; have k0_1 := bC hp0 z1 zz; clear ho8 hg8 hbv own_) | (have own_ : ownL layK 137 ((W0.alloc (.cells #[] 137)).alloc (.cells #[.int .i64 0, .slice none 0 0, .slice none 0 0] 28)).drew W0.heap.size (.slice (some ⟨W0.heap.size, 0, none⟩) 0 0) ([] : List Bk) := World.ownsRow.alloc (own_none0 W0 _) _; have hbv : Below W0.heap.size W0 ((W0.alloc (.cells #[] 137)).alloc (.cells #[.int .i64 0, .slice none 0 0, .slice none 0 0] 28)).drew := Below.drew (((Below.refl _ _).alloc (Nat.le_refl _) _).alloc (by simp) _); refine step_append_lay appK0 rfl _ _ rfl W0.heap.size (.slice (some ⟨W0.heap.size, 0, none⟩) 0 0) ([] : List Bk) rfl own_ o cap w.heap.size l l.length rfl rfl hn (HRK.out _ hbv) (by simp; omega) (by (try simp) <;> omega) ?_; intro v8 x0 ho8 hg8 _; have hp0 : Below W0.heap.size W0 x0 := hbv.grown hg8 (by (try simp) <;> omega) (fun k h => by simp [Value.ownBlock] at h; omega); have sp0 := hp0.size; obtain ⟨o2, c2, e2, _⟩ := ownL.open (L := layK) ho8; subst e2; have ow2 : ownK x0 W0.heap.size (.slice o2 l.length c2) l := ho8; have k0_0 := bC hp0 z0 zz; have k0_1 := bC hp0 z1 zz; have hZa : x0.heap[W0.heap.size + 1]? = some (.cells #[.int .i64 0, .slice none 0 0, .slice none 0 0] 28 (0, 0)) := (hg8.block _ (by (try simp) <;> omega) (by simp [Value.ownBlock])).trans (box_new2 W0 _ _ _); have hzc_0 := bx_cell hZa 0 _ rfl; have hzf_0 := bx_frozen hZa 0; have hzc_1 := bx_cell hZa 1 _ rfl; have hzf_1 := bx_frozen hZa 1; have hzc_2 := bx_cell hZa 2 _ rfl; have hzf_2 := bx_frozen hZa 2; clear ho8 hg8 hbv own_) | (have own_ : ownL layK 137 ((W0.alloc (.cells #[.int .i64 0, .slice none 0 0, .slice none 0 0] 28)).alloc (.cells #[] 137)).drew W0.heap.size (.slice (some ⟨W0.heap.size + 1, 0, none⟩) 0 0) ([] : List Bk) := own_mono (own_none3 W0 _ _) (Nat.le_succ _); have hbv : Below W0.heap.size W0 ((W0.alloc (.cells #[.int .i64 0, .slice none 0 0, .slice none 0 0] 28)).alloc (.cells #[] 137)).drew := Below.drew (((Below.refl _ _).alloc (Nat.le_refl _) _).alloc (by simp) _); refine step_append_lay appK0 rfl _ _ rfl W0.heap.size (.slice (some ⟨W0.heap.size + 1, 0, none⟩) 0 0) ([] : List Bk) rfl own_ o cap w.heap.size l l.length rfl rfl hn (HRK.out _ hbv) (by simp; omega) (by (try simp) <;> omega) ?_; intro v8 x0 ho8 hg8 _; have hp0 : Below W0.heap.size W0 x0 := hbv.grown hg8 (by (try simp) <;> omega) (fun k h => by simp [Value.ownBlock] at h; omega); have sp0 := hp0.size; obtain ⟨o2, c2, e2, _⟩ := ownL.open (L := layK) ho8; subst e2; have ow2 : ownK x0 W0.heap.size (.slice o2 l.length c2) l := ho8; have k0_0 := bC hp0 z0 zz; have k0_1 := bC hp0 z1 zz; have hZa : x0.heap[W0.heap.size]? = some (.cells #[.int .i64 0, .slice none 0 0, .slice none 0 0] 28 (0, 0)) := (hg8.block _ (by (try simp) <;> omega) (by simp [Value.ownBlock])).trans (box_old2 W0 _ _ _); have hzc_0 := bx_cell hZa 0 _ rfl; have hzf_0 := bx_frozen hZa 0; have hzc_1 := bx_cell hZa 1 _ rfl; have hzf_1 := bx_frozen hZa 1; have hzc_2 := bx_cell hZa 2 _ rfl; have hzf_2 := bx_frozen hZa 2; clear ho8 hg8 hbv own_))
    all_goals (go_wp2_with fail; go_meet)
    all_goals first
      | with_reducible exact finK hZa hp0 (by omega) ow2
      | with_reducible exact finKn hp0 ow2
  case rest =>
    obtain ⟨B, o2, c2, rfl, Hbx, Hbl, hB1, hB2, Hob⟩ := hcut
    have hb := Hbl.out
    have hwc := hb.size
    have HBLK := hide (hb.block _ hzr)
    clear Hbl
    replace z0 := bC hb z0 zz
    replace z1 := bC hb z1 zz
    replace z2 := bC hb z2 zz
    replace zz := Nat.lt_of_lt_of_le zz hb.size
    replace r0 := bC hb r0 zr
    replace r1 := bC hb r1 zr
    replace r2 := bC hb r2 zr
    replace fr0 := bF hb fr0 zr
    replace fr1 := bF hb fr1 zr
    replace fr2 := bF hb fr2 zr
    replace zr := Nat.lt_of_lt_of_le zr hb.size
    replace HB := hide (HB.out.trans (hb.mono HB.out.size))
    clear hb
    have HRB := hide ((HBLK.out).trans HR0.out)
    have HBC := HB
    have hz2c := z2
    have hzc : w.heap.size < W0.heap.size := hzz0
    clear z0 z1 r0 r1 r2 fr0 fr1 fr2 z2
    go_wp2
    go_loopw [4] (fun iv wr => ∃ (i : Nat) (hs : List Hd) (oQ : Option Addr) (cQ : Nat), i ≤ n ∧ iv = .int .i64 (i : Int) ∧ Hid (wr.heap[B]? = some (.cells #[.int .i64 key, .slice o2 l.length c2, .slice oQ i cQ] 28 (0, 0))) ∧ Hid (ownL layH 116 wr wc.heap.size (.slice oQ i cQ) hs) ∧ Hid (GTabs wr wc.heap.size hs (lll.take i)) ∧ Hid (ownK wr W0.heap.size (.slice o2 l.length c2) l) ∧ wc.heap.size ≤ wr.heap.size ∧ Hid (Stp B (B + 1) wc wr))
      (fun iv _ => n - (intOf iv).toNat)
    case atStart => exact ⟨0, [], none, 0, Nat.zero_le _, rfl, Hbx.out, World.ownsRow_nil _ _ _ _, by rw [List.take_zero]; exact GTabs.nil _ _, Hob.out, Nat.le_refl _, Stp.refl _⟩
    case round =>
      rename World => wo
      obtain ⟨i, hs, oQ, cQ, hi', rfl, HBX, HOW, HGT, HOB, hsr, HST⟩ := hrel
      have HBW := hide (HBC.out.trans (HST.out.below (show w.heap.size ≤ B by omega) (by omega)))
      have zq : wo.cell? ⟨w.heap.size, 2, none⟩ = some (.slice oR n cR) := HST.out.cellP hz2c (.inl (show w.heap.size < B by omega))
      have hzwr : w.heap.size < wo.heap.size := by omega
      by_cases hlt : i < n
      · skip
        have hlt' : (i : Int) < (n : Int) := by omega
        have hif : i < lll.length := by rw [← HNN.out]; exact hlt
        obtain ⟨b, off, u, rfl, hbl, hcu0, hru0⟩ := HG.out.at (Nat.le_refl _) i hif
        obtain ⟨o3, c3, rfl⟩ := RcT.len hru0
        have hcu : wo.cell? ⟨b, off + i, none⟩ = some (.slice o3 (lll.getD i []).length c3) := bC HBW.out hcu0 hbl
        have HRU := hide hru0
        have HTK := hide (take_rows lll i hif)
        have HXI := hide (HX.out i hif)
        have HYI := hide (HY.out i hif)
        clear hcu0 hru0
        obtain ⟨ll, hll⟩ : ∃ ll, lll.getD i [] = ll := ⟨_, rfl⟩
        rw [hll] at hcu HRU HTK HXI HYI
        clear hll
        obtain ⟨m, hm⟩ : ∃ m, ll.length = m := ⟨_, rfl⟩
        rw [hm] at hcu
        have HM := hide hm
        have hm6 : m ≤ 1048576 := by rw [← hm]; exact HXI.out
        clear hm
        have hbw : b < wo.heap.size := by omega
        go_wp2
        go_loopw [5, 6] (fun tv kv wq => ∃ (k : Nat) (hs8 : List Hd), k ≤ m ∧ kv = .int .i64 (k : Int) ∧ Hid (ownL layH 117 wq wo.heap.size tv hs8) ∧ Hid (Tab (fun q => ll.getD q []) k wq wo.heap.size hs8) ∧ Hid (Below wo.heap.size wo wq))
          (fun _ kv _ => m - (intOf kv).toNat)
        case atStart => exact ⟨0, [], Nat.zero_le _, rfl, World.ownsRow_nil _ _ _ _, Tab.nil _ _ _, Below.refl _ _⟩
        case round =>
          rename World => wq
          rename_i tv _
          obtain ⟨k, hs8, hk', rfl, HO, HT, HBQ⟩ := hrel
          have hsq := HBQ.out.size
          have zq' := bC HBQ.out zq hzwr
          have hcq := bC HBQ.out hcu hbw
          have HBWQ := hide (HBW.out.trans (HBQ.out.mono (show w.heap.size ≤ wo.heap.size by omega)))
          by_cases hlk : k < m
          · skip
            have hlk' : (k : Int) < (m : Int) := by omega
            obtain ⟨b2, off2, u2, e2, hbl2, hcu2, hrow⟩ := HRU.out.at (Nat.le_refl _) k (by rw [HM.out]; exact hlk)
            subst e2
            obtain ⟨o9, c9, rfl, hr9, hc9⟩ := RcV.opn hrow
            have hcr := bC HBWQ.out hcu2 hbl2
            have HR9 := hide (hr9.kept HBWQ.out (Nat.le_refl _))
            have hy9 := HYI.out k (by rw [HM.out]; exact hlk)
            clear hcu2 hrow hr9
            obtain ⟨row, hrw⟩ : ∃ row, ll.getD k [] = row := ⟨_, rfl⟩
            rw [hrw] at hcr HR9 hy9
            have HRW := hide hrw
            clear hrw
            obtain ⟨r9, hr9⟩ : ∃ r, row.length = r := ⟨_, rfl⟩
            rw [hr9] at hcr hy9
            have HL9 := hide hr9
            clear hr9
            obtain ⟨W1, hW1⟩ : ∃ W, wq.alloc (.cells #[] 3) = W := ⟨_, rfl⟩
            have hb1 : Below wq.heap.size wq W1 := by rw [← hW1]; exact (Below.refl _ _).alloc (Nat.le_refl _) _
            have HE1 := hide (show ownL layI 3 W1 wq.heap.size (.slice (some ⟨wq.heap.size, 0, none⟩) 0 0) ([] : List Int) by rw [← hW1]; exact own_none0 wq _)
            have hs1 := hb1.size
            have zq1 := bC hb1 zq' (by omega)
            have hcq1 := bC hb1 hcq (by omega)
            have hcr1 := bC hb1 hcr (by omega)
            have HR1 := hide (HR9.out.kept hb1 (by omega))
            have HB1 := hide hb1
            clear hb1
            go_wp2_with (first | (at_builtin; refine wpList_append_lay appII rfl (.tmp 32) (.tmp 40) rfl wq.heap.size _ ([] : List Int) rfl HE1.out o9 c9 w.heap.size row r9 HL9.out.symm rfl hc9 HR1.out (by rw [HL9.out]; simp; omega) hs1 ?_))
            intro v2 w2 ho2 hg2 _
            obtain ⟨o4, c4, e4, _⟩ := ownL.open (L := layI) ho2
            rw [HL9.out] at e4
            subst e4
            have hb2 : Below wq.heap.size wq w2 := HB1.out.grown hg2 hs1 (fun g e => by have e' : wq.heap.size = g := Option.some.inj e; omega)
            have HT2 := hide ((HT.out.kept hb2).snoc HT.out.lt hsq (show ownI w2 wq.heap.size (.slice o4 r9 c4) (ll.getD k []) by rw [HRW.out]; exact ho2))
            have HO2 := hide (own_kept HO.out hb2)
            have HB2 := hide (HBQ.out.trans (hb2.mono hsq))
            have hsz2 := hb2.size
            have hl8 : hs8.length ≤ 1048576 := by rw [HT.out.len]; omega
            clear ho2 hg2 hb2
            go_wp2_with (first | (at_builtin; refine wpList_append_lay appHI rfl (.tmp 31) (.tmp 42) rfl wo.heap.size _ hs8 rfl (World.ownsRow.alloc HO2.out (.cells #[.slice o4 r9 c4] 117)) (some ⟨w2.heap.size, 0, none⟩) 1 _ [(o4, r9, c4)] 1 rfl rfl (by simp) rd_oneH (by simp; omega) (by simp; omega) ?_))
            intro v5 w5 ho5 hg5 _
            have HA := hide (World.ownsRow.alloc HO2.out (.cells #[.slice o4 r9 c4] 117))
            have HT5 := hide (Tab.other (HT2.out.kept ((Below.refl _ _).alloc (Nat.le_refl _) _)) HA.out intNe hg5)
            have HB5 := hide ((HB2.out.alloc HB2.out.size _).grown hg5 (by simp; omega) (fun k h => (HA.out.lt k h).1))
            have HO5 := hide ho5
            clear hg5 ho5
            go_wp2
            go_roundw
            case rel => exact ⟨k + 1, _, by omega, by go_num, HO5.out, HT5.out, HB5.out⟩
            case measure => simp [intOf]; omega
          · skip
            have e : k = m := by omega
            subst e
            obtain ⟨o4, c4, e4, _⟩ := ownL.open (L := layH) HO.out
            rw [HT.out.len] at e4
            subst e4
            have hx2 := (HBQ.out.block B (by omega)).trans HBX.out
            have p2 : wq.cell? ⟨B, 2, none⟩ = some (.slice oQ i cQ) := bx_cell hx2 2 _ rfl
            have HX2 := hide hx2
            have HHL := hide (show hs.length = i by have := HGT.out.1; rw [List.length_take] at this; omega)
            have HNB := hide (fun g (e : (Value.slice oQ i cQ).ownBlock = some g) => HOW.out.lt g e)
            have HOW2 := hide (own_kept HOW.out HBQ.out)
            have hl0 : hs.length ≤ 1048576 := by rw [HHL.out]; omega
            have HBB : Hid (∀ g, (Value.slice oQ i cQ).ownBlock = some g → g ≠ B) := fun g e => by have := HNB.out g e; omega
            clear hx2
            go_wp2_with (first | (at_builtin; refine wpList_append_lay appHT rfl (.tmp 45) (.tmp 47) rfl wc.heap.size (.slice oQ i cQ) hs rfl (World.ownsRow.alloc HOW2.out (.cells #[.slice o4 k c4] 116)) (some ⟨wq.heap.size, 0, none⟩) 1 _ [(o4, k, c4)] 1 rfl rfl (by simp) rd_oneH (by simp; omega) (by simp; omega) ?_))
            intro v8 w8 ho8 hg8 _
            obtain ⟨o8, c8, e8, _⟩ := ownL.open (L := layH) ho8
            have hl8 : (hs ++ [((o4, k, c4) : Hd)]).length = i + 1 := by rw [List.length_append, HHL.out]; rfl
            rw [hl8] at e8
            subst e8
            have hx8 := (hg8.block B (by simp; omega) (fun e => HBB.out B e.symm rfl)).trans ((Below.heap_alloc _ _ _ (by omega)).trans HX2.out)
            have p8 : w8.cell? ⟨B, 2, none⟩ = some (.slice oQ i cQ) := bx_cell hx8 2 _ rfl
            have f8 := bx_frozen hx8 2
            have HA8 := hide (World.ownsRow.alloc HOW2.out (.cells #[.slice o4 k c4] 116))
            have hG8 : GTabs w8 wc.heap.size (hs ++ [(o4, k, c4)]) (lll.take (i + 1)) := by
              rw [HTK.out]
              have h1 := (HGT.out.kept HBQ.out).snoc (ll := ll) (own_mono (by rw [HM.out]; exact HO.out) hsr) (Tab.mono (by rw [HM.out]; exact HT.out) hsr)
              rw [HM.out] at h1
              exact (h1.kept ((Below.refl wq.heap.size wq).alloc (Nat.le_refl _) _)).other HA8.out hg8
            have HX9 : Hid ((w8.setCell ⟨B, 2, none⟩ (.slice o8 (i + 1) c8)).heap[B]? = some (.cells #[.int .i64 key, .slice o2 l.length c2, .slice o8 (i + 1) c8] 28 (0, 0))) := box_put hx8 2 _
            have HO9 := hide (own_putB (B := B) ho8 hx8 neP1 2 (.slice o8 (i + 1) c8))
            have HG9 := hide (hG8.putB hx8 2 (.slice o8 (i + 1) c8))
            have HOB9 := hide (own_putB (World.ownsRow.kept (World.ownsRow.alloc (own_kept HOB.out HBQ.out) (.cells #[.slice o4 k c4] 116)) hg8 (own_apart0 (own_kept HOB.out HBQ.out) HOW2.out neBR)) hx8 neP4 2 (.slice o8 (i + 1) c8))
            have HS9 := hide ((stp_more (HST.out.trans (Stp.of HBQ.out)) hg8 (fun g e => (HNB.out g e).1)).trans (stp_set w8 B 2 (.slice o8 (i + 1) c8)))
            have hs9 : wc.heap.size ≤ w8.heap.size := by have := HS9.out.size; simpa using this
            clear ho8 hg8 hx8 hG8
            go_wp2
            go_roundw
            case rel => exact ⟨i + 1, _, o8, c8, by omega, by go_num, HX9.out, HO9.out, HG9.out, HOB9.out, by simpa using hs9, HS9.out⟩
            case measure => simp [intOf]; omega
      · skip
        have e : i = n := by omega
        subst e
        have hrb := HST.out.box HRB.out (.inl (show w.heap.size + 1 < B by omega))
        have r0 : wo.cell? ⟨w.heap.size + 1, 0, none⟩ = some (.int .i64 0) := bx_cell hrb 0 _ rfl
        have fr0 := bx_frozen hrb 0
        have r1 : wo.cell? ⟨w.heap.size + 1, 1, none⟩ = some (.slice none 0 0) := bx_cell hrb 1 _ rfl
        have fr1 := bx_frozen hrb 1
        have r2 : wo.cell? ⟨w.heap.size + 1, 2, none⟩ = some (.slice none 0 0) := bx_cell hrb 2 _ rfl
        have fr2 := bx_frozen hrb 2
        have p0 : wo.cell? ⟨B, 0, none⟩ = some (.int .i64 key) := bx_cell HBX.out 0 _ rfl
        have p1 : wo.cell? ⟨B, 1, none⟩ = some (.slice o2 l.length c2) := bx_cell HBX.out 1 _ rfl
        have p2 : wo.cell? ⟨B, 2, none⟩ = some (.slice oQ i cQ) := bx_cell HBX.out 2 _ rfl
        have HFI : Hid (ownK (setP wo (w.heap.size + 1) (.int .i64 key) (.slice o2 l.length c2) (.slice oQ i cQ)) w.heap.size (.slice o2 l.length c2) l ∧ ownL layH 116 (setP wo (w.heap.size + 1) (.int .i64 key) (.slice o2 l.length c2) (.slice oQ i cQ)) w.heap.size (.slice oQ i cQ) hs ∧ GTabs (setP wo (w.heap.size + 1) (.int .i64 key) (.slice o2 l.length c2) (.slice oQ i cQ)) w.heap.size hs lll) := by
          have g1 := box_put hrb 0 (.int .i64 key)
          have g2 := box_put g1 1 (.slice o2 l.length c2)
          have hg : GTabs wo wc.heap.size hs lll := by have h := HGT.out; rw [HNN.out, List.take_length] at h; exact h
          exact ⟨own_mono (own_putB (own_putB (own_putB HOB.out hrb neP4 0 _) g1 neP4 1 _) g2 neP4 2 _) (by omega), own_mono (own_putB (own_putB (own_putB HOW.out hrb neP1 0 _) g1 neP1 1 _) g2 neP1 2 _) (by omega), GTabs.mono (((hg.putB hrb 0 _).putB g1 1 _).putB g2 2 _) (by omega)⟩
        clear hrb
        go_wp2
        refine bodyPost_ret (v := plv key (.slice o2 l.length c2) (.slice oQ i cQ)) (by simp [results, Try.results41, go_sem, r0, r1, r2]) rfl ⟨o2, c2, oQ, cQ, hs, rfl, HFI.out.1, HFI.out.2.1, HFI.out.2.2, setQ_below HBW.out (Nat.le_succ _) _ _ _⟩

theorem GTabs.pm {w : World} {lo base : Nat} {key : Int} {l : List Bk} {hs : List Hd} {lll : List (List (List Int))} {o2 oQ : Option Addr} {c2 n cQ : Nat} (h1 : ownK w base (.slice o2 l.length c2) l) (h2 : ownL layH 116 w base (.slice oQ n cQ) hs) (h3 : GTabs w base hs lll) : RiPm base w.heap.size w (plv key (.slice o2 l.length c2) (.slice oQ n cQ)) ⟨key, l, lll⟩ := ⟨_, _, rfl, InRow.ri (InRow.of h1), GTabs.ri h3 h2⟩
theorem l4own_go (key : Int) (o : Option Addr) (cap : Nat) (l : List Bk) (oR : Option Addr) (cR : Nat) (lll : List (List (List Int))) (n : Nat) (hnn : n = lll.length) (w : World) (hR : RdK w.heap.size w o l) (hn : o = none → cap = 0) (hlen : l.length ≤ 1048576) (hG : RcR 0 w.heap.size w (.slice oR n cR) lll) (hf : n ≤ 1048576) (hx : ∀ i, i < lll.length → (lll.getD i []).length ≤ 1048576) (hy : ∀ i, i < lll.length → ∀ j, j < (lll.getD i []).length → ((lll.getD i []).getD j []).length ≤ 1048576) :
    Calls Try.prog 41 #[plv key (.slice o l.length cap) (.slice oR n cR)] w fun e w' => ∃ v, e = .returned v ∧ RiPm w.heap.size w'.heap.size w' v ⟨key, l, lll⟩ ∧ Below w.heap.size w w' := by
  refine (l4own_gt key o cap l oR cR lll n hnn w hR hn hlen hG hf hx hy).mono ?_
  rintro e w' ⟨o2, c2, oQ, cQ, hs, rfl, h1, h2, h3, hb⟩
  exact ⟨_, rfl, GTabs.pm (lo := 0) h1 h2 h3, hb⟩

end Go.Proofs.Ytfmnhdemhbbjlaa

/- The model's way with a command to a pool, whatever it is; a new pool. -/
namespace Go.Proofs.Ytfmnhdemhbbjlaa
open Go.ChangeShapes Go.WideShapes Go.ChangeAt Go.RowKit Go.Joins
set_option linter.unusedVariables false
set_option linter.unusedSimpArgs false


set_option maxRecDepth 100000 in
set_option maxHeartbeats 2000000 in
theorem l4new_any (key : Int) (w : World) (hk : keyB key = true) :
    Calls Try.prog 43 #[.int .i64 key] w fun e w' => ∃ g, e = .returned (plv key (.slice none 0 0) (.slice (some ⟨g, 0, none⟩) 1 1)) ∧ RingO w' w.heap.size (.slice (some ⟨g, 0, none⟩) 1 1) (fun b => pairI key b []) [] ∧ Below w.heap.size w w' := by
  obtain ⟨W0, hW0⟩ : ∃ W, (w.alloc (.cells #[.int .i64 0, .slice none 0 0, .slice none 0 0] 28)) = W := ⟨_, rfl⟩
  have hb_W0 : Below w.heap.size w W0 := by rw [← hW0]; exact ((Below.refl _ _).alloc (Nat.le_refl _) _)
  have HB := hide hb_W0
  clear hb_W0
  have zr : w.heap.size < W0.heap.size := by rw [← hW0]; simp
  have r0 : W0.cell? ⟨w.heap.size, 0, none⟩ = some (.int .i64 0) := by rw [← hW0]; simp [go_sem]
  have r1 : W0.cell? ⟨w.heap.size, 1, none⟩ = some (.slice none 0 0) := by rw [← hW0]; simp [go_sem]
  have r2 : W0.cell? ⟨w.heap.size, 2, none⟩ = some (.slice none 0 0) := by rw [← hW0]; simp [go_sem]
  have fr0 : W0.frozen? ⟨w.heap.size, 0, none⟩ = false := by rw [← hW0]; simp [go_sem]
  have fr1 : W0.frozen? ⟨w.heap.size, 1, none⟩ = false := by rw [← hW0]; simp [go_sem]
  have fr2 : W0.frozen? ⟨w.heap.size, 2, none⟩ = false := by rw [← hW0]; simp [go_sem]
  have hz00 := zr
  have HT := hide (l3tableO_any key none 0 [] W0 (.inl rfl) (by simp) hk rfl)
  go_enter Try.func43, Try.ntmps43
  go_wp2_with fail
  refine (HT.out).mono ?_
  rintro e v1 ⟨o3, c3, hs3, rfl, ow3, tb3, hb⟩
  have hs1 := hb.size
  have HX := hide (And.intro ow3 tb3)
  clear ow3 tb3
  replace r0 := bC hb r0 zr
  replace r1 := bC hb r1 zr
  replace r2 := bC hb r2 zr
  replace fr0 := bF hb fr0 zr
  replace fr1 := bF hb fr1 zr
  replace fr2 := bF hb fr2 zr
  replace zr := Nat.lt_of_lt_of_le zr hb.size
  replace HB := hide (HB.out.trans (hb.mono HB.out.size))
  clear hb
  have hbx : v1.heap.size + 1 = (v1.alloc (.cells #[.slice o3 8 c3] 116)).heap.size := by simp
  have hne : v1.heap.size ≠ w.heap.size := by omega
  have hne' : w.heap.size ≠ v1.heap.size := by omega
  obtain ⟨W2, hW2⟩ : ∃ W, v1.alloc (.cells #[.slice o3 8 c3] 116) = W := ⟨_, rfl⟩
  have hb2 : Below v1.heap.size v1 W2 := by rw [← hW2]; exact (Below.refl _ _).alloc (Nat.le_refl _) _
  have HRI : Hid (RingO W2 (w.heap.size + 1) (.slice (some ⟨v1.heap.size, 0, none⟩) 1 1) (fun b => pairI key b []) []) := ⟨o3, c3, hs3, by rw [← hW2]; exact own_mono (one_own v1 o3 8 c3 _) (by omega), own_mono (own_kept HX.out.1 hb2) (by omega), Tab.mono (HX.out.2.kept hb2) (by omega)⟩
  have hs2 := hb2.size
  replace r0 := bC hb2 r0 zr
  replace r1 := bC hb2 r1 zr
  replace r2 := bC hb2 r2 zr
  replace fr0 := bF hb2 fr0 zr
  replace fr1 := bF hb2 fr1 zr
  replace fr2 := bF hb2 fr2 zr
  have HB2 : Hid (Below w.heap.size w W2) := HB.out.trans (hb2.mono HB.out.size)
  go_wp2
  refine bodyPost_ret (v := plv key (.slice none 0 0) (.slice (some ⟨v1.heap.size, 0, none⟩) 1 1)) (by simp [results, Try.results43, go_sem, r0, r1, r2]) rfl ⟨v1.heap.size, rfl, ?_, ?_⟩
  · exact RingO.mono (((HRI.out.low (Nat.lt_succ_self _) 0 _).low (Nat.lt_succ_self _) 1 _).low (Nat.lt_succ_self _) 2 _) (Nat.le_succ _)
  · exact ((HB2.out.setCell (p := ⟨w.heap.size, 0, none⟩) (by (try simp) <;> omega) _).setCell (p := ⟨w.heap.size, 1, none⟩) (by (try simp) <;> omega) _).setCell (p := ⟨w.heap.size, 2, none⟩) (by (try simp) <;> omega) _

end Go.Proofs.Ytfmnhdemhbbjlaa

/- A new pool, on both sides. -/
namespace Go.Proofs.Ytfmnhdemhbbjlaa
open Go.ChangeShapes Go.WideShapes Go.ChangeAt Go.RowKit Go.Joins
set_option linter.unusedVariables false
set_option linter.unusedSimpArgs false

def pm0 : Pm := ⟨0, [], []⟩
/-- The table of these, as lists. -/
def newT (key : Int) (l : List Bk) : List (List Int) := rowsOf (fun b => pairI key b l) 8
theorem newT_len (key : Int) (l : List Bk) : (newT key l).length = 8 := rowsOf_length _ _
theorem newT_row (key : Int) (l : List Bk) (j : Nat) : ((newT key l).getD j []).length ≤ 2 := by
  by_cases h : j < 8
  · unfold newT; rw [rowsOf_get _ _ _ h]; exact pairI_len key j l
  · rw [List.getD_eq_getElem?_getD, List.getElem?_eq_none (by rw [newT_len]; omega)]; simp
theorem newT_sz (key : Int) (l : List Bk) : szT (newT key l) ≤ 16 := by
  have h := sumN_bd (lenT (newT key l)) 2 (fun i => newT_row key l i) (newT key l).length
  unfold szT
  rw [newT_len] at h ⊢
  omega
theorem Tab.congr {R R' : Nat → List Int} {k : Nat} {w : World} {base : Nat} {hs : List Hd} (h : Tab R k w base hs) (e : ∀ i, i < k → R i = R' i) : Tab R' k w base hs := ⟨h.len, fun i hi => by rw [← e i hi]; exact h.row i hi, h.apart⟩
theorem tab_new {key : Int} {l : List Bk} {w : World} {base : Nat} {hs : List Hd} (h : Tab (fun b => pairI key b l) 8 w base hs) : Tab (fun q => (newT key l).getD q []) (newT key l).length w base hs := by
  rw [newT_len]
  exact h.congr (fun i hi => by unfold newT; rw [rowsOf_get _ _ _ hi])
/-- A ring of tables of those who served. -/
def ringT (key : Int) (R : List (List Bk)) : List (List (List Int)) := R.map (newT key)
theorem ringT_get (key : Int) (R : List (List Bk)) (i : Nat) (h : i < R.length) : (ringT key R).getD i [] = newT key (R.getD i []) := by simp [ringT, h]
theorem ringT_fit (key : Int) (l : List Bk) (R : List (List Bk)) (hl : l.length ≤ 1048576) (hR : R.length ≤ 3) : fitPm ⟨key, l, ringT key R⟩ := by
  have hlen : (ringT key R).length = R.length := by simp [ringT]
  have hz : ∀ i, lenR (ringT key R) i ≤ 16 := fun i => by
    by_cases h : i < R.length
    · unfold lenR; rw [ringT_get _ _ _ h]; exact newT_sz key _
    · unfold lenR; rw [List.getD_eq_getElem?_getD, List.getElem?_eq_none (by rw [hlen]; omega)]; exact Nat.zero_le _
  refine ⟨hl, by show (ringT key R).length ≤ _; omega, ?_, fun i hi => ?_, fun i hi j hj => ?_⟩
  · have h := sumN_bd (lenR (ringT key R)) 16 hz (ringT key R).length
    show sumN (lenR (ringT key R)) (ringT key R).length ≤ 1048576
    rw [hlen] at h ⊢
    omega
  · have hi' : i < R.length := by rw [← hlen]; exact hi
    show ((ringT key R).getD i []).length ≤ _
    rw [ringT_get _ _ _ hi', newT_len]; omega
  · have hi' : i < R.length := by rw [← hlen]; exact hi
    show (((ringT key R).getD i []).getD j []).length ≤ _
    rw [ringT_get _ _ _ hi']
    have := newT_row key (R.getD i []) j; omega
def pnewM (key : Int) : Pm := if keyB key = true then ⟨key, [], ringT key [[]]⟩ else pm0
theorem pnew_fit (key : Int) : fitPm (pnewM key) := by
  unfold pnewM
  split
  · exact ringT_fit key [] [[]] (by simp) (by simp)
  · exact ⟨by simp [pm0], by simp [pm0], by simp [pm0, szR, sumN], fun i hi => absurd hi (Nat.not_lt_zero _), fun i hi => absurd hi (Nat.not_lt_zero _)⟩
theorem pm0_ri (lo hi : Nat) (w : World) : RiPm lo hi w (plv 0 (.slice none 0 0) (.slice none 0 0)) pm0 := ⟨_, _, rfl, ⟨none, 0, rfl, .inl rfl⟩, ⟨[], rfl, ⟨none, 0, rfl, .inl rfl⟩, fun i h => absurd h (Nat.not_lt_zero _)⟩⟩
theorem pm0_in (lo hi : Nat) (w : World) (h : lo ≤ hi) : InPm lo hi w (plv 0 (.slice none 0 0) (.slice none 0 0)) pm0 := ⟨_, _, lo, rfl, Nat.le_refl _, h, ⟨World.ownsRow_nil _ _ _ _, fun b e => by cases e⟩, ⟨[], fun _ => 0, fun _ => 0, ⟨World.ownsRow_nil _ _ _ _, fun b e => by cases e⟩, Rw.nil _ _ _ _ _ _ _, fun i h => absurd h (Nat.not_lt_zero _)⟩⟩
theorem ring_rc {key : Int} {w : World} {base g : Nat} {l : List Bk} (h : RingO w base (.slice (some ⟨g, 0, none⟩) 1 1) (fun b => pairI key b l) []) : RcR 0 w.heap.size w (.slice (some ⟨g, 0, none⟩) 1 1) (ringT key [l]) := by
  obtain ⟨o3, c3, hs3, h1, h2, h3⟩ := h
  have h4 : GTabs w base [(o3, 8, c3)] (ringT key [l]) := by
    have := (GTabs.nil w base).snoc (ll := newT key l) (by rw [newT_len]; exact h2) (tab_new h3)
    rw [newT_len] at this
    exact this
  exact RcR.mon.go (h4.rc h1) (Nat.zero_le _) (Nat.le_refl _)

set_option maxRecDepth 100000 in
set_option maxHeartbeats 2000000 in
theorem implPoolNew_any (key : Int) (w : World) :
    Calls Try.prog 18 #[.int .i64 key] w fun e w' => ∃ v, e = .returned (.tuple #[v, .bool (keyB key)]) ∧ InPm w.heap.size w'.heap.size w' v (pnewM key) ∧ Below w.heap.size w w' := by
  have HKE := hide (fun W => isKey_any key W)
  have HPM := hide (show pnewM key = if keyB key = true then ⟨key, [], ringT key [[]]⟩ else pm0 from rfl)
  obtain ⟨W0, hW0⟩ : ∃ W, (w.alloc (.cells #[.int .i64 0, .slice none 0 0, .slice none 0 0] 28)) = W := ⟨_, rfl⟩
  have hb_W0 : Below w.heap.size w W0 := by rw [← hW0]; exact ((Below.refl _ _).alloc (Nat.le_refl _) _)
  have HB := hide hb_W0
  clear hb_W0
  have zr : w.heap.size < W0.heap.size := by rw [← hW0]; simp
  have r0 : W0.cell? ⟨w.heap.size, 0, none⟩ = some (.int .i64 0) := by rw [← hW0]; simp [go_sem]
  have r1 : W0.cell? ⟨w.heap.size, 1, none⟩ = some (.slice none 0 0) := by rw [← hW0]; simp [go_sem]
  have r2 : W0.cell? ⟨w.heap.size, 2, none⟩ = some (.slice none 0 0) := by rw [← hW0]; simp [go_sem]
  have fr0 : W0.frozen? ⟨w.heap.size, 0, none⟩ = false := by rw [← hW0]; simp [go_sem]
  have fr1 : W0.frozen? ⟨w.heap.size, 1, none⟩ = false := by rw [← hW0]; simp [go_sem]
  have fr2 : W0.frozen? ⟨w.heap.size, 2, none⟩ = false := by rw [← hW0]; simp [go_sem]
  have hzr := zr
  cases hk : keyB key with
  | false =>
    rw [hk] at HKE HPM
    go_enter Try.func18, Try.ntmps18
    go_wp2_with fail
    refine (HKE.out _).mono ?_
    rintro e _ ⟨rfl, rfl⟩
    go_wp2
    refine bodyPost_ret (v := .tuple #[plv 0 (.slice none 0 0) (.slice none 0 0), .bool false]) (by simp [results, Try.results18, go_sem, r0, r1, r2]) rfl ⟨_, rfl, ?_, setQ_below HB.out (Nat.le_refl _) _ _ _⟩
    rw [HPM.out, if_neg (by simp)]
    exact pm0_in _ _ _ (setQ_below HB.out (Nat.le_refl _) _ _ _).size
  | true =>
    have HK := hide hk
    rw [hk] at HKE HPM
    clear hk
    go_enter Try.func18, Try.ntmps18
    go_wp2_with fail
    refine (HKE.out _).mono ?_
    rintro e _ ⟨rfl, rfl⟩
    have HW := hide (with_any key none 0 0 none 0 none 0 [] W0 [] (by simp) (.inl rfl) (by simp) (fun _ => rfl) (.inl rfl) (by simp) HK.out rfl)
    go_wp2_with fail
    refine (HW.out).mono ?_
    rintro e v1 ⟨o2, c2, rfl, ow2, hb⟩
    have HOW := hide ow2
    have hs1 := hb.size
    clear ow2
    replace r0 := bC hb r0 zr
    replace r1 := bC hb r1 zr
    replace r2 := bC hb r2 zr
    replace fr0 := bF hb fr0 zr
    replace fr1 := bF hb fr1 zr
    replace fr2 := bF hb fr2 zr
    replace zr := Nat.lt_of_lt_of_le zr hb.size
    replace HB := hide (HB.out.trans (hb.mono HB.out.size))
    clear hb
    have HP := hide (plain_any key none 0 [] o2 c2 (newF key [] :: ([] : List Pt).take 2) v1 (.inl rfl) (fun _ => rfl) (by simp) (ownL.rds (L := layT) HOW.out) (by simp))
    go_wp2_with fail
    refine (HP.out).mono ?_
    rintro e v2 ⟨v9, rfl, hin, hb⟩
    have HIN := hide hin
    have hs2 := hb.size
    clear hin
    obtain ⟨o9, c9, oR9, cR9, e9⟩ : ∃ (o9 : Option Addr) (c9 : Nat) (oR9 : Option Addr) (cR9 : Nat), v9 = plv key (.slice o9 0 c9) (.slice oR9 1 cR9) := HIN.out.opn
    subst e9
    replace r0 := bC hb r0 zr
    replace r1 := bC hb r1 zr
    replace r2 := bC hb r2 zr
    replace fr0 := bF hb fr0 zr
    replace fr1 := bF hb fr1 zr
    replace fr2 := bF hb fr2 zr
    replace zr := Nat.lt_of_lt_of_le zr hb.size
    replace HB := hide (HB.out.trans (hb.mono HB.out.size))
    clear hb
    go_wp2
    refine bodyPost_ret (v := .tuple #[plv key (.slice o9 0 c9) (.slice oR9 1 cR9), .bool true]) (by simp [results, Try.results18, go_sem, r0, r1, r2]) rfl ⟨_, rfl, ?_, setQ_below HB.out (Nat.le_refl _) _ _ _⟩
    rw [HPM.out, if_pos trivial, setQ_size]
    have h := HIN.out.step (stp_setQ v2 w.heap.size (.int .i64 key) (.slice o9 0 c9) (.slice oR9 1 cR9)) (.inl (by omega))
    have e1 : (newF key [] :: ([] : List Pt).take 2).map ptLL = ringT key [[]] := by simp [ringT, newT, ptLL_new key (l := []) rfl]
    rw [e1] at h
    exact InPm.mono h (by omega)

end Go.Proofs.Ytfmnhdemhbbjlaa

/- Tables, as the model has them: ways, homes, what is put, dropped, due; no program. -/
namespace Go.Proofs.Ytfmnhdemhbbjlaa
open Go.ChangeShapes Go.WideShapes Go.ChangeAt Go.RowKit Go.Joins
set_option linter.unusedVariables false
set_option linter.unusedSimpArgs false

/-- Where a flow belongs. -/
def homeN (n : Nat) (a p : Int) : Nat := ((a * 31 + p) % (n : Int)).toNat
theorem homeN_lt {n : Nat} (hn : 0 < n) (a p : Int) : homeN n a p < n := by
  unfold homeN
  have h1 := Int.emod_nonneg (a * 31 + p) (show (n : Int) ≠ 0 by omega)
  have h2 := Int.emod_lt_of_pos (a * 31 + p) (show (0 : Int) < n by omega)
  omega
theorem homeN_cast {n : Nat} (hn : 0 < n) (a p : Int) : ((homeN n a p : Nat) : Int) = (a * 31 + p) % (n : Int) := by
  unfold homeN
  have h1 := Int.emod_nonneg (a * 31 + p) (show (n : Int) ≠ 0 by omega)
  omega
theorem homeN_tmod {n : Nat} (hn : 0 < n) {a p : Int} (h : flowOkB a p = true) : (a * 31 + p).tmod (n : Int) = ((homeN n a p : Nat) : Int) := by
  rw [homeN_cast hn, Int.tmod_eq_emod_of_nonneg]
  have := flowOkB_iff.1 h
  omega
theorem homeN_tmod' {n : Nat} (hn : 0 < n) {a p : Int} (h : flowOkB a p = true) : (31 * a + p).tmod (n : Int) = ((homeN n a p : Nat) : Int) := by
  rw [Int.mul_comm]; exact homeN_tmod hn h
theorem next_tmod (n i : Nat) : ((i : Int) + 1).tmod (n : Int) = (((i + 1) % n : Nat) : Int) := by
  rw [Int.tmod_eq_emod_of_nonneg (by omega)]; simp
/-- How far it is from one slot to another, going up. -/
def farN (n i k : Nat) : Nat := (k + n - i) % n
theorem far_tmod {n i k : Nat} (hi : i < n) (hk : k < n) : ((k : Int) - (i : Int) + (n : Int)).tmod (n : Int) = ((farN n i k : Nat) : Int) := by
  rw [Int.tmod_eq_emod_of_nonneg (by omega), show (k : Int) - i + n = ((k + n - i : Nat) : Int) by omega]; simp [farN]
theorem next_lt {n : Nat} (hn : 0 < n) (i : Nat) : (i + 1) % n < n := Nat.mod_lt _ hn

/-- The way of a flow from slot i on, so many slots at most: where it ends, and whether that is its own. -/
def wayGo (l : List Sl) (a p : Int) : Nat → Nat → Int × Bool
  | 0, _ => (-1, false)
  | f + 1, i => if (l.getD i sl0).u = true then (if (l.getD i sl0).a = a ∧ (l.getD i sl0).p = p then ((i : Int), true) else wayGo l a p f ((i + 1) % l.length)) else ((i : Int), false)
def endL (l : List Sl) (a p : Int) : Int × Bool := wayGo l a p l.length (homeN l.length a p)
theorem wayGo_free {l : List Sl} {a p : Int} {f i : Nat} (h : (l.getD i sl0).u = false) : wayGo l a p (f + 1) i = ((i : Int), false) := by simp only [wayGo, h]; simp
theorem wayGo_own {l : List Sl} {a p : Int} {f i : Nat} (h : (l.getD i sl0).u = true) (h1 : (l.getD i sl0).a = a) (h2 : (l.getD i sl0).p = p) : wayGo l a p (f + 1) i = ((i : Int), true) := by simp only [wayGo, h, h1, h2]; simp
theorem wayGo_next {l : List Sl} {a p : Int} {f i : Nat} (h : (l.getD i sl0).u = true) (h1 : ¬ ((l.getD i sl0).a = a ∧ (l.getD i sl0).p = p)) : wayGo l a p (f + 1) i = wayGo l a p f ((i + 1) % l.length) := by simp only [wayGo, h, h1]; simp
/-- Where a way ends: nowhere, at a slot that is free, or at its own. -/
theorem wayGo_cases (l : List Sl) (hn : 0 < l.length) (a p : Int) : ∀ (f i : Nat), i < l.length → wayGo l a p f i = (-1, false) ∨ ∃ k, k < l.length ∧ ((wayGo l a p f i = ((k : Int), false) ∧ (l.getD k sl0).u = false) ∨ (wayGo l a p f i = ((k : Int), true) ∧ (l.getD k sl0).u = true ∧ (l.getD k sl0).a = a ∧ (l.getD k sl0).p = p))
  | 0, i, _ => .inl rfl
  | f + 1, i, hi => by
    cases hu : (l.getD i sl0).u with
    | false => exact .inr ⟨i, hi, .inl ⟨wayGo_free hu, hu⟩⟩
    | true =>
      by_cases h : (l.getD i sl0).a = a ∧ (l.getD i sl0).p = p
      · exact .inr ⟨i, hi, .inr ⟨wayGo_own hu h.1 h.2, hu, h.1, h.2⟩⟩
      · rw [wayGo_next hu h]
        exact wayGo_cases l hn a p f _ (next_lt hn i)
theorem endL_cases (l : List Sl) (hn : 0 < l.length) (a p : Int) : endL l a p = (-1, false) ∨ ∃ k, k < l.length ∧ ((endL l a p = ((k : Int), false) ∧ (l.getD k sl0).u = false) ∨ (endL l a p = ((k : Int), true) ∧ (l.getD k sl0).u = true ∧ (l.getD k sl0).a = a ∧ (l.getD k sl0).p = p)) :=
  wayGo_cases l hn a p _ _ (homeN_lt hn a p)

/-- A slot that may be. -/
def slotB (s : Sl) : Bool := if s.u = true then flowOkB s.a s.p && decide (0 ≤ s.v) && decide (s.v ≤ 100000) && decide (0 ≤ s.t) && decide (s.t ≤ 200000) else decide (s.a = 0) && decide (s.p = 0) && decide (s.v = 0) && decide (s.t = 0)
theorem slotB_used {s : Sl} (h : s.u = true) : slotB s = true ↔ flowOkB s.a s.p = true ∧ 0 ≤ s.v ∧ s.v ≤ 100000 ∧ 0 ≤ s.t ∧ s.t ≤ 200000 := by simp [slotB, h, and_assoc]
theorem slotB_free {s : Sl} (h : s.u = false) : slotB s = true ↔ s = sl0 := by
  obtain ⟨u, a, p, v, t⟩ := s
  simp at h; subst h
  simp [slotB, and_assoc]
/-- Whoever stands at i is got there. -/
def wayB (l : List Sl) (i : Nat) : Bool := !(l.getD i sl0).u || (endL l (l.getD i sl0).a (l.getD i sl0).p == ((i : Int), true))
def tabAt (l : List Sl) (i : Nat) : Bool := slotB (l.getD i sl0) && wayB l i
def tableOkB (l : List Sl) : Bool := decide (1 ≤ l.length) && decide (l.length ≤ 16) && (List.range l.length).all (tabAt l)
theorem tableOkB_iff {l : List Sl} : tableOkB l = true ↔ 1 ≤ l.length ∧ l.length ≤ 16 ∧ ∀ i, i < l.length → tabAt l i = true := by simp [tableOkB, and_assoc]
theorem tableOkB_yes {l : List Sl} (h1 : 1 ≤ l.length) (h2 : l.length ≤ 16) (h : ∀ i, i < l.length → tabAt l i = true) : true = tableOkB l := (tableOkB_iff.2 ⟨h1, h2, h⟩).symm
theorem tableOkB_no {l : List Sl} {i : Nat} (hi : i < l.length) (h : tabAt l i = false) : false = tableOkB l := by
  cases hb : tableOkB l with
  | false => rfl
  | true => rw [(tableOkB_iff.1 hb).2.2 i hi] at h; cases h
theorem tableOkB_len {l : List Sl} (h : ¬ (1 ≤ l.length ∧ l.length ≤ 16)) : false = tableOkB l := by
  cases hb : tableOkB l with
  | false => rfl
  | true => exact absurd ⟨(tableOkB_iff.1 hb).1, (tableOkB_iff.1 hb).2.1⟩ h
theorem tabAt_slot {l : List Sl} {i : Nat} (h : slotB (l.getD i sl0) = false) : tabAt l i = false := by unfold tabAt; rw [h]; rfl
theorem tabAt_way {l : List Sl} {i : Nat} (hu : (l.getD i sl0).u = true) (h : endL l (l.getD i sl0).a (l.getD i sl0).p ≠ ((i : Int), true)) : tabAt l i = false := by unfold tabAt wayB; rw [hu, beq_eq_false_iff_ne.2 h]; cases slotB (l.getD i sl0) <;> rfl
theorem tabAt_free {l : List Sl} {i : Nat} (hu : (l.getD i sl0).u = false) (h : slotB (l.getD i sl0) = true) : tabAt l i = true := by unfold tabAt wayB; rw [hu, h]; rfl
theorem tabAt_used {l : List Sl} {i : Nat} (h : slotB (l.getD i sl0) = true) (h' : endL l (l.getD i sl0).a (l.getD i sl0).p = ((i : Int), true)) : tabAt l i = true := by unfold tabAt wayB; rw [h, h']; cases (l.getD i sl0).u <;> simp
/-- All up to k may be, ways and all. -/
def tabTo (l : List Sl) (k : Nat) : Prop := ∀ i, i < k → tabAt l i = true
theorem tabTo_succ {l : List Sl} {k : Nat} (h : tabTo l k) (hk : tabAt l k = true) : tabTo l (k + 1) := fun i hi => by
  rcases Nat.lt_succ_iff_lt_or_eq.1 hi with h1 | h1
  · exact h i h1
  · rw [h1]; exact hk
/-- All up to k may be, but for their ways. -/
def slotTo (l : List Sl) (k : Nat) : Prop := ∀ i, i < k → slotB (l.getD i sl0) = true
theorem slotTo_succ {l : List Sl} {k : Nat} (h : slotTo l k) (hk : slotB (l.getD k sl0) = true) : slotTo l (k + 1) := fun i hi => by
  rcases Nat.lt_succ_iff_lt_or_eq.1 hi with h1 | h1
  · exact h i h1
  · rw [h1]; exact hk

/-- What is put. -/
def putL (l : List Sl) (a p v t : Int) : List Sl := if 0 ≤ (endL l a p).1 then l.set (endL l a p).1.toNat ⟨true, a, p, v, t⟩ else l
theorem putL_length (l : List Sl) (a p v t : Int) : (putL l a p v t).length = l.length := by unfold putL; split <;> simp
def getL (l : List Sl) (a p : Int) : Sl := if (endL l a p).2 = true then l.getD (endL l a p).1.toNat sl0 else sl0

/-- How far all stand from their homes. -/
def sumTo : Nat → (Nat → Nat) → Nat
  | 0, _ => 0
  | n + 1, f => sumTo n f + f n
theorem sumTo_same : ∀ (n : Nat) {f g : Nat → Nat}, (∀ x, x < n → f x = g x) → sumTo n f = sumTo n g
  | 0, _, _, _ => rfl
  | n + 1, f, g, h => by simp only [sumTo]; rw [sumTo_same n (fun x hx => h x (by omega)), h n (by omega)]
theorem sumTo_upd : ∀ (n : Nat) {f g : Nat → Nat} {j : Nat}, j < n → (∀ x, x ≠ j → f x = g x) → sumTo n f + g j = sumTo n g + f j
  | 0, _, _, _, h, _ => absurd h (Nat.not_lt_zero _)
  | n + 1, f, g, j, h, he => by
    simp only [sumTo]
    by_cases e : j = n
    · subst e
      rw [sumTo_same j (fun x hx => he x (by omega))]; omega
    · have := sumTo_upd n (show j < n by omega) he
      rw [he n (fun e' => e e'.symm)]; omega
def wt (n : Nat) (l : List Sl) (j : Nat) : Nat := if (l.getD j sl0).u = true then farN n (homeN n (l.getD j sl0).a (l.getD j sl0).p) j else 0
def phi (l : List Sl) : Nat := sumTo l.length (wt l.length l)
def meas (l : List Sl) (i k : Nat) : Nat := phi l * 17 + farN l.length k i

def moves (n : Nat) (l : List Sl) (i k : Nat) : Bool := decide (farN n i k ≤ farN n (homeN n (l.getD k sl0).a (l.getD k sl0).p) k)
/-- What comes nearer, slot by slot: the hole is at i, k is looked at. -/
def dropGo (n : Nat) : Nat → List Sl → Nat → Nat → List Sl
  | 0, l, _, _ => l
  | f + 1, l, i, k => if (l.getD k sl0).u = true then (if moves n l i k = true then dropGo n f ((l.set i (l.getD k sl0)).set k sl0) k ((k + 1) % n) else dropGo n f l i ((k + 1) % n)) else l
def dropAtL (l : List Sl) (i : Nat) : List Sl := dropGo l.length (meas (l.set i sl0) i ((i + 1) % l.length) + 1) (l.set i sl0) i ((i + 1) % l.length)
theorem dropGo_end {n f i k : Nat} {l : List Sl} (h : (l.getD k sl0).u = false) : dropGo n (f + 1) l i k = l := by simp only [dropGo, h]; simp
theorem dropGo_move {n f i k : Nat} {l : List Sl} (h : (l.getD k sl0).u = true) (hm : moves n l i k = true) : dropGo n (f + 1) l i k = dropGo n f ((l.set i (l.getD k sl0)).set k sl0) k ((k + 1) % n) := by simp only [dropGo, h, hm]; simp
theorem dropGo_stay {n f i k : Nat} {l : List Sl} (h : (l.getD k sl0).u = true) (hm : moves n l i k = false) : dropGo n (f + 1) l i k = dropGo n f l i ((k + 1) % n) := by simp only [dropGo, h, hm]; simp
theorem getD_set_self (l : List Sl) (i : Nat) (s : Sl) (h : i < l.length) : (l.set i s).getD i sl0 = s := by simp [h]
theorem getD_set_ne (l : List Sl) (i j : Nat) (s : Sl) (h : i ≠ j) : (l.set i s).getD j sl0 = l.getD j sl0 := by
  simp [List.getElem?_set, h]
theorem mod_small {a n : Nat} (h : a < n) : a % n = a := Nat.mod_eq_of_lt h
theorem mod_wrap {a n : Nat} (h1 : n ≤ a) (h2 : a < n + n) : a % n = a - n := by rw [Nat.mod_eq_sub_mod h1, Nat.mod_eq_of_lt (by omega)]
theorem farN_eq {n i k : Nat} (hi : i < n) (hk : k < n) : farN n i k = if i ≤ k then k - i else k + n - i := by
  unfold farN
  by_cases h : i ≤ k
  · rw [if_pos h, mod_wrap (by omega) (by omega)]; omega
  · rw [if_neg h, mod_small (by omega)]
theorem next_eq {n k : Nat} (hk : k < n) : (k + 1) % n = if k + 1 = n then 0 else k + 1 := by
  by_cases h : k + 1 = n
  · rw [if_pos h, h, Nat.mod_self]
  · rw [if_neg h, mod_small (by omega)]
theorem meas_stay {l : List Sl} {i k : Nat} (hi : i < l.length) (hk : k < l.length) (hne : k ≠ i) : meas l i ((k + 1) % l.length) < meas l i k := by
  unfold meas
  have h1 := next_lt (n := l.length) (by omega) k
  rw [farN_eq h1 hi, farN_eq hk hi, next_eq hk]
  split <;> (repeat' split) <;> omega
theorem meas_move {l : List Sl} {i k : Nat} (hl : l.length ≤ 16) (hi : i < l.length) (hk : k < l.length) (hfree : (l.getD i sl0).u = false) (hu : (l.getD k sl0).u = true) (hm : moves l.length l i k = true) :
    meas ((l.set i (l.getD k sl0)).set k sl0) k ((k + 1) % l.length) < meas l i k := by
  have hne : i ≠ k := fun e => by rw [e, hu] at hfree; cases hfree
  unfold meas phi
  rw [show ((l.set i (l.getD k sl0)).set k sl0).length = l.length by simp]
  have e1 := sumTo_upd l.length (f := wt l.length ((l.set i (l.getD k sl0)).set k sl0)) (g := wt l.length (l.set i (l.getD k sl0))) hk (fun x hx => by unfold wt; rw [getD_set_ne _ k x _ (fun e => hx e.symm)])
  have e2 := sumTo_upd l.length (f := wt l.length (l.set i (l.getD k sl0))) (g := wt l.length l) hi (fun x hx => by unfold wt; rw [getD_set_ne _ i x _ (fun e => hx e.symm)])
  have w1 : wt l.length ((l.set i (l.getD k sl0)).set k sl0) k = 0 := by unfold wt; rw [getD_set_self _ _ _ (by simpa using hk)]; rfl
  have w2 : wt l.length (l.set i (l.getD k sl0)) k = farN l.length (homeN l.length (l.getD k sl0).a (l.getD k sl0).p) k := by unfold wt; rw [getD_set_ne _ i k _ hne, hu]; rfl
  have w3 : wt l.length (l.set i (l.getD k sl0)) i = farN l.length (homeN l.length (l.getD k sl0).a (l.getD k sl0).p) i := by unfold wt; rw [getD_set_self _ _ _ hi, hu]; rfl
  have w4 : wt l.length l i = 0 := by unfold wt; rw [hfree]; rfl
  rw [w1, w2] at e1
  rw [w3, w4] at e2
  have hh := homeN_lt (show 0 < l.length by omega) (l.getD k sl0).a (l.getD k sl0).p
  have hmv : farN l.length i k ≤ farN l.length (homeN l.length (l.getD k sl0).a (l.getD k sl0).p) k := by simpa [moves] using hm
  generalize homeN l.length (l.getD k sl0).a (l.getD k sl0).p = h at *
  have h1 := next_lt (n := l.length) (by omega) k
  have hd : farN l.length h i + 1 ≤ farN l.length h k := by
    rw [farN_eq hi hk, farN_eq hh hk] at hmv
    rw [farN_eq hh hi, farN_eq hh hk]
    (repeat' split at hmv) <;> (repeat' split) <;> omega
  have hf : farN l.length ((k + 1) % l.length) k < 16 := by
    have : farN l.length ((k + 1) % l.length) k < l.length := Nat.mod_lt _ (by omega)
    omega
  omega

end Go.Proofs.Ytfmnhdemhbbjlaa

