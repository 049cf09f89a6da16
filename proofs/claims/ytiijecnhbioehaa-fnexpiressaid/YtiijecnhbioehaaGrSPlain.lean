/- Several texts in one: SSort, SSoon, SSoon2, SPlain. -/
import Derived.Test.YtiijecnhbioehaaSortMath
import Derived.Test.YtiijecnhbioehaaSRankD
import Derived.Test.YtiijecnhbioehaaFr
import Derived.Shelf.SlSortCmp.WholeK
import Derived.Shelf.Lay
import Derived.Ground.SlsfProg
import Derived.Test.YtiijecnhbioehaaSTabI3
import Derived.Test.YtiijecnhbioehaaGrow
/- The library's SortFunc over an own row of flows. -/
namespace Go.Proofs.Ytiijecnhbioehaa
open Go.ChangeShapes Go.WideShapes Go.ChangeAt Go.RowKit Go.Joins Go.Shelf Go.Lib Go.Sort
set_option linter.unusedVariables false
set_option linter.unusedSimpArgs false

shelf_lay_g SlLaysF0.n6 Slsf 6 at Try 71 as sortFlow

section
variable {α : Type} [Inhabited α]
theorem flatK_eq (v : α → Int × Int) (d : Array α) : (flatK (fun x => layF.cs (v x)) 2 d).toList = (d.toList.map v).flatMap layF.cs := by
  apply List.ext_getElem?
  intro t
  by_cases ht : t < d.size * 2
  · have h1 := get_flatK (fun x => layF.cs (v x)) 2 d t ht
    have hs : t < (flatK (fun x => layF.cs (v x)) 2 d).size := by rw [size_flatK]; exact ht
    rw [Array.getElem?_toList, Array.getElem?_eq_getElem hs, ← getElem!_pos _ t hs, h1]
    have h2 := flat_get layF (d.toList.map v) (t / 2) (t % 2) (by simp; omega) (Nat.mod_lt _ (by decide))
    have e : t / 2 * layF.k + t % 2 = t := by show t / 2 * 2 + t % 2 = t; omega
    rw [e] at h2
    rw [h2]
    have hd : t / 2 < d.size := by omega
    have e3 : (d.toList.map v).getD (t / 2) layF.d = v d[t / 2]! := by
      rw [List.getD_eq_getElem?_getD, List.getElem?_map, Array.getElem?_toList, Array.getElem?_eq_getElem hd, getElem!_pos d (t / 2) hd]; rfl
    rw [e3]
    have h3 : t % 2 = 0 ∨ t % 2 = 1 := by omega
    rcases h3 with h | h <;> rw [h] <;> rfl
  · rw [List.getElem?_eq_none (by simp; omega), List.getElem?_eq_none (by rw [flat_length]; simp [layF]; omega)]
theorem putCells_take (F cur : Array Value) (h : F.size ≤ cur.size) : (putCells id 0 F cur).toList.take F.size = F.toList := by
  apply List.ext_getElem?
  intro t
  by_cases ht : t < F.size
  · rw [List.getElem?_take, if_pos ht, Array.getElem?_toList, Array.getElem?_toList]
    unfold putCells
    rw [Array.getElem?_mapIdx, Array.getElem?_eq_getElem (show t < cur.size by omega), Array.getElem?_eq_getElem ht]
    simp [ht]
  · rw [List.getElem?_eq_none (by simp; omega), List.getElem?_eq_none (by simp; omega)]
theorem size_sortW (enc : α → List Value) (k : Nat) (w : World) (g n : Nat) (d : Array α) (os : Array Obj) : w.heap.size ≤ (sortWorldK enc k w g 0 n d os).heap.size := by
  show w.heap.size ≤ ((w.heap.modify g _) ++ os).size
  simp
theorem heap_sortW (enc : α → List Value) (k : Nat) {w : World} {g : Nat} (n : Nat) (d : Array α) (os : Array Obj) {cur : Array Value} {e : TypeId} (hg : w.heap[g]? = some (.cells cur e (0, 0))) :
    (sortWorldK enc k w g 0 n d os).heap[g]? = some (.cells (putCells id 0 (flatK enc k d) cur) e (0, 0)) := by
  have hlt := (Array.getElem?_eq_some_iff.1 hg).1
  show ((w.heap.modify g (onCells (putCells id 0 (flatK enc k d)))) ++ os)[g]? = _
  rw [Array.getElem?_append_left (by simp; exact hlt), Array.getElem?_modify, if_pos rfl, hg]
  rfl
theorem heap_sortW_other (enc : α → List Value) (k : Nat) {w : World} {g : Nat} (n : Nat) (d : Array α) (os : Array Obj) {i : Nat} (hi : i < w.heap.size) (hne : i ≠ g) :
    (sortWorldK enc k w g 0 n d os).heap[i]? = w.heap[i]? := by
  show ((w.heap.modify g (onCells (putCells id 0 (flatK enc k d)))) ++ os)[i]? = _
  rw [Array.getElem?_append_left (by simp; exact hi), Array.getElem?_modify, if_neg (fun h => hne h.symm)]
theorem stp_sortW (enc : α → List Value) (k : Nat) (w : World) (g n : Nat) (d : Array α) (os : Array Obj) : Stp g (g + 1) w (sortWorldK enc k w g 0 n d os) :=
  ⟨rfl, rfl, rfl, size_sortW enc k w g n d os, fun i hi hn => heap_sortW_other enc k n d os hi (by omega)⟩
end

/-- A flow that may be. -/
abbrev Fl : Type := { x : Int × Int // flowOkB x.1 x.2 = true }
def fl0 : Fl := ⟨(0, 0), by decide⟩
theorem ex_fl : ∀ l : List (Int × Int), (∀ x ∈ l, flowOkB x.1 x.2 = true) → ∃ m : List Fl, m.map Subtype.val = l
  | [], _ => ⟨[], rfl⟩
  | x :: l, h => by
    obtain ⟨m, hm⟩ := ex_fl l (fun y hy => h y (List.mem_cons_of_mem _ hy))
    exact ⟨⟨x, h x List.mem_cons_self⟩ :: m, by rw [List.map_cons, hm]⟩
def cfF (x y : Fl) : Int := flowCmpI x.1.1 x.1.2 y.1.1 y.1.2
theorem ltOf_cfF (x y : Fl) : ltOf cfF x y = ltF x.1 y.1 := by
  unfold ltOf cfF ltF
  rw [← flowCmp_yes x.2 y.2]
theorem swoF : SWO (ltOf cfF) where
  irrefl x := by rw [ltOf_cfF]; exact ltF_irrefl _
  trans x y z h1 h2 := by rw [ltOf_cfF] at *; exact ltF_trans h1 h2
  ntrans x y z h1 h2 := by rw [ltOf_cfF] at *; exact ltF_ntrans h1 h2
theorem isAggF (w : World) : (isAgg 27).run Try.prog w = .ok true w := by kernel_rfl
theorem sizeOfF (w : World) : (Go.sizeOf 27).run Try.prog w = .ok 2 w := by kernel_rfl

set_option maxRecDepth 100000 in
set_option maxHeartbeats 2000000 in
theorem sortFlow_any (g c base : Nat) (l : List (Int × Int)) (w : World) (hl : l.length ≤ 1048576) (hok : ∀ x ∈ l, flowOkB x.1 x.2 = true) (ho : ownL layF 27 w base (.slice (some ⟨g, 0, none⟩) l.length c) l) :
    Calls Try.prog 71 #[.slice (some ⟨g, 0, none⟩) l.length c, .func (.func 34) #[] #[]] w fun e w' => e = .returned (.tuple #[]) ∧ ownL layF 27 w' base (.slice (some ⟨g, 0, none⟩) l.length c) (sortF l) ∧ Stp g (g + 1) w w' := by
  letI : Inhabited Fl := ⟨fl0⟩
  obtain ⟨d, hd⟩ : ∃ d : Array Fl, d.toList.map Subtype.val = l := by
    obtain ⟨m, hm⟩ := ex_fl l hok
    exact ⟨m.toArray, hm⟩
  have hds : d.size = l.length := by rw [← hd]; simp
  have hflat := flatK_eq (Subtype.val : Fl → Int × Int) d
  rw [hd] at hflat
  have hgw := (ho.lt g rfl).2
  have hH : HoldsK (fun x : Fl => layF.cs x.1) 2 w g 0 d := fun j hj => by
    have hj2 : j < l.length * 2 := by rw [size_flatK, hds] at hj; exact hj
    refine ⟨?_, ?_⟩
    · rw [Nat.zero_add, World.ownsRow.cellAt ho j hj2, ← hflat, Array.getElem?_toList, Array.getElem?_eq_getElem hj, getElem!_pos _ j hj]; rfl
    · rw [Nat.zero_add]; exact World.ownsRow.frozenAt ho j
  have eg : ∀ args w, (callFunc 34 args).run Try.prog w = .ok (.enter 34 args) w := enters_of Try.func34 (by kernel_rfl) rfl
  have hcmp : CmpLays Try.prog 34 #[] (fun x : Fl => layF.cs x.1) 2 cfF g 0 d.size w := fun m os dk _ x y =>
    (implFlowCmpD_any x.1.1 x.1.2 y.1.1 y.1.2 _ x.2 y.2).mono fun e w' ⟨h1, h2, h3⟩ => ⟨h1, grow_of h2 h3⟩
  have hcon := AnyQ.slices_SortFunc sortFlow 2 isAggF sizeOfF (fun x : Fl => layF.cs x.1) (fun _ => rfl) (fun x v hv => by simp [layF] at hv; rcases hv with rfl | rfl <;> rfl) cfF swoF 34 #[] g 0 c d w eg hcmp hH hgw (by omega)
  rw [hds] at hcon
  refine hcon.mono ?_
  rintro e w' ⟨rfl, d', n, os, hp, hs, rfl⟩
  have hsz : d'.size = l.length := by rw [hp.1, hds]
  have hperm : d'.toList.Perm d.toList := by
    have h := hp.2.2
    rw [show d'.extract 0 l.length = d' by rw [← hsz]; simp, show d.extract 0 l.length = d by rw [← hds]; simp] at h
    exact h
  have hsrt : d'.toList.map Subtype.val = sortF l := by
    refine srt_one ?_ (sortF_srt l) ?_
    · unfold SrtF
      rw [List.pairwise_map, List.pairwise_iff_getElem]
      intro i j hi hj hij
      have hi' : i < d'.size := by simpa using hi
      have hj' : j < d'.size := by simpa using hj
      have h := hs i j (Nat.zero_le _) hij (by rw [← hsz]; exact hj')
      rw [ltOf_cfF, getElem!_pos d' i hi', getElem!_pos d' j hj'] at h
      simpa using h
    · refine (hperm.map _).trans ?_
      rw [hd]; exact (sortF_perm l).symm
  refine ⟨rfl, ⟨flat_length layF _, .inr ?_⟩, stp_sortW _ _ _ _ _ _ _⟩
  rcases ho.2 with ⟨hv, _⟩ | ⟨g', cap, cur, hv, hb, hc, h4, h5, h6, h7⟩
  · cases hv
  · injection hv with e1 e2 e3
    injection e1 with e1
    injection e1 with e1 _ _
    subst e1 e3
    have hcs : l.length * 2 ≤ cur.size := by rw [h6]; exact Nat.mul_le_mul_right _ h4
    refine ⟨g, c, _, by rw [sortF_length], hb, heap_sortW _ _ n d' os hc, by rw [sortF_length]; exact h4, h5, ?_, ?_⟩
    · rw [← h6]; simp [putCells]
    · have h8 := flatK_eq (Subtype.val : Fl → Int × Int) d'
      rw [hsrt] at h8
      have h9 := putCells_take (flatK (fun x : Fl => layF.cs x.1) 2 d') cur (by rw [size_flatK, hsz]; exact hcs)
      rw [size_flatK, hsz, h8] at h9
      rw [sortF_length]
      exact h9

end Go.Proofs.Ytiijecnhbioehaa

/- Soonest, on both sides. -/
namespace Go.Proofs.Ytiijecnhbioehaa
open Go.ChangeShapes Go.WideShapes Go.ChangeAt Go.RowKit Go.Joins
set_option linter.unusedVariables false
set_option linter.unusedSimpArgs false

/-- The first one with the least Until among the first k that are used; nothing where none is. -/
def soonStep (q s : Sl) : Sl := if s.u = true ∧ (q.u = false ∨ s.t < q.t) then s else q
def soonTo (l : List Sl) (k : Nat) : Sl := (l.take k).foldl soonStep sl0
theorem soonTo_succ {l : List Sl} {k : Nat} (h : k < l.length) : soonTo l (k + 1) = soonStep (soonTo l k) (l.getD k sl0) := by
  unfold soonTo
  rw [takeL_succ layS l k h, List.foldl_append]; rfl
theorem soonStep_free {q s : Sl} (h : s.u = false) : soonStep q s = q := by unfold soonStep; rw [if_neg (by rw [h]; simp)]
theorem soonStep_first {q s : Sl} (h : s.u = true) (hq : q.u = false) : soonStep q s = s := by unfold soonStep; rw [if_pos ⟨h, .inl hq⟩]
theorem soonStep_less {q s : Sl} (h : s.u = true) (hq : s.t < q.t) : soonStep q s = s := by unfold soonStep; rw [if_pos ⟨h, .inr hq⟩]
theorem soonStep_more {q s : Sl} (hq : q.u = true) (h : ¬ s.t < q.t) : soonStep q s = q := by
  unfold soonStep
  rw [if_neg]
  rintro ⟨_, h1 | h1⟩
  · rw [hq] at h1; cases h1
  · exact h h1
def soonL (l : List Sl) : Sl := soonTo l l.length
theorem box_set1 (w : World) (k j : Nat) (cs : Array Value) (t : TypeId) (v : Value) (h : w.heap[k]? = some (.cells cs t (0, 0))) : (w.setCell ⟨k, j, none⟩ v).heap[k]? = some (.cells (cs.setIfInBounds j v) t (0, 0)) := by
  simp [World.setCell, Array.getElem?_modify, h]
theorem frozen_of {W : World} {B : Nat} {c : Array Value} {t : TypeId} (h : W.heap[B]? = some (.cells c t (0, 0))) (j : Nat) : W.frozen? ⟨B, j, none⟩ = false := by simp [World.frozen?, h]
abbrev slotCells (s : Sl) : Array Value := #[.bool s.u, .int .i64 s.a, .int .i64 s.p, .int .i64 s.v, .int .i64 s.t]
def set5 (w : World) (B : Nat) (s : Sl) : World := ((((w.setCell ⟨B, 0, none⟩ (.bool s.u)).setCell ⟨B, 1, none⟩ (.int .i64 s.a)).setCell ⟨B, 2, none⟩ (.int .i64 s.p)).setCell ⟨B, 3, none⟩ (.int .i64 s.v)).setCell ⟨B, 4, none⟩ (.int .i64 s.t)
theorem box_set5 {w : World} {B : Nat} {s q : Sl} {T : TypeId} (h : w.heap[B]? = some (.cells (slotCells q) T (0, 0))) : (set5 w B s).heap[B]? = some (.cells (slotCells s) T (0, 0)) := by
  have h0 := box_set1 w B 0 _ _ (.bool s.u) h
  have h1 := box_set1 _ B 1 _ _ (.int .i64 s.a) h0
  have h2 := box_set1 _ B 2 _ _ (.int .i64 s.p) h1
  have h3 := box_set1 _ B 3 _ _ (.int .i64 s.v) h2
  have h4 := box_set1 _ B 4 _ _ (.int .i64 s.t) h3
  exact h4
theorem below_set5 {w W : World} {n B : Nat} (h : Below n w W) (hB : n ≤ B) (s : Sl) : Below n w (set5 W B s) :=
  ((((h.setCell (p := ⟨B, 0, none⟩) hB _).setCell (p := ⟨B, 1, none⟩) hB _).setCell (p := ⟨B, 2, none⟩) hB _).setCell (p := ⟨B, 3, none⟩) hB _).setCell (p := ⟨B, 4, none⟩) hB _

set_option maxHeartbeats 4000000 in
theorem l5soonest_any (b off c : Nat) (l : List Sl) (w : World) (hbl : b < w.heap.size) (hc : ∀ i, i < l.length → ∀ j, j < layS.k → w.cell? ⟨b, off + i * layS.k + j, none⟩ = (layS.cs (l.getD i layS.d))[j]?) (hl : l.length ≤ 1048576) :
    Calls Try.prog 92 #[tab (.slice (some ⟨b, off, none⟩) l.length c)] w fun e w' => e = .returned (.tuple #[slot (soonL l), .bool (soonL l).u]) ∧ Below w.heap.size w w' := by
  have HC := hide hc
  clear hc
  obtain ⟨W0, hW0⟩ : ∃ W, ((w.alloc (.cells #[.slice (some ⟨b, off, none⟩) l.length c] 25)).alloc (.cells #[.bool false, .int .i64 0, .int .i64 0, .int .i64 0, .int .i64 0] 35)) = W := ⟨_, rfl⟩
  have hb_W0 : Below w.heap.size w W0 := by rw [← hW0]; exact (((Below.refl _ _).alloc (Nat.le_refl _) _).alloc (by simp <;> omega) _)
  have HB := hide hb_W0
  clear hb_W0
  have zct : w.heap.size < W0.heap.size := by rw [← hW0]; simp <;> omega
  have ct0 : W0.cell? ⟨w.heap.size, 0, none⟩ = some (.slice (some ⟨b, off, none⟩) l.length c) := by rw [← hW0]; simp [go_sem]
  have zcr : w.heap.size + 1 < W0.heap.size := by rw [← hW0]; simp
  have cr0 : W0.cell? ⟨w.heap.size + 1, 0, none⟩ = some (.bool false) := by rw [← hW0]; simp [go_sem]
  have cr1 : W0.cell? ⟨w.heap.size + 1, 1, none⟩ = some (.int .i64 0) := by rw [← hW0]; simp [go_sem]
  have cr2 : W0.cell? ⟨w.heap.size + 1, 2, none⟩ = some (.int .i64 0) := by rw [← hW0]; simp [go_sem]
  have cr3 : W0.cell? ⟨w.heap.size + 1, 3, none⟩ = some (.int .i64 0) := by rw [← hW0]; simp [go_sem]
  have cr4 : W0.cell? ⟨w.heap.size + 1, 4, none⟩ = some (.int .i64 0) := by rw [← hW0]; simp [go_sem]
  have fcr0 : W0.frozen? ⟨w.heap.size + 1, 0, none⟩ = false := by rw [← hW0]; simp [go_sem]
  have fcr1 : W0.frozen? ⟨w.heap.size + 1, 1, none⟩ = false := by rw [← hW0]; simp [go_sem]
  have fcr2 : W0.frozen? ⟨w.heap.size + 1, 2, none⟩ = false := by rw [← hW0]; simp [go_sem]
  have fcr3 : W0.frozen? ⟨w.heap.size + 1, 3, none⟩ = false := by rw [← hW0]; simp [go_sem]
  have fcr4 : W0.frozen? ⟨w.heap.size + 1, 4, none⟩ = false := by rw [← hW0]; simp [go_sem]
  obtain ⟨W1, hW1⟩ : ∃ W, W0.alloc (.cells #[.bool false, .int .i64 0, .int .i64 0, .int .i64 0, .int .i64 0] 35) = W := ⟨_, rfl⟩
  have zct0 := zct
  have zcr0 := zcr
  have b4 : Hid (W1.heap[W0.heap.size]? = some (.cells (slotCells sl0) 35 (0, 0))) := by rw [← hW1]; exact World.alloc_heap_new W0 _
  have hb_W1 : Below W0.heap.size W0 W1 := by rw [← hW1]; exact (Below.refl _ _).alloc (Nat.le_refl _) _
  replace ct0 : W1.cell? ⟨w.heap.size, 0, none⟩ = some (.slice (some ⟨b, off, none⟩) l.length c) := (hb_W1.cell (p := ⟨w.heap.size, 0, none⟩) zct).trans ct0
  replace zct : w.heap.size < W1.heap.size := Nat.lt_of_lt_of_le zct hb_W1.size
  replace cr0 : W1.cell? ⟨w.heap.size + 1, 0, none⟩ = some (.bool false) := (hb_W1.cell (p := ⟨w.heap.size + 1, 0, none⟩) zcr).trans cr0
  replace cr1 : W1.cell? ⟨w.heap.size + 1, 1, none⟩ = some (.int .i64 0) := (hb_W1.cell (p := ⟨w.heap.size + 1, 1, none⟩) zcr).trans cr1
  replace cr2 : W1.cell? ⟨w.heap.size + 1, 2, none⟩ = some (.int .i64 0) := (hb_W1.cell (p := ⟨w.heap.size + 1, 2, none⟩) zcr).trans cr2
  replace cr3 : W1.cell? ⟨w.heap.size + 1, 3, none⟩ = some (.int .i64 0) := (hb_W1.cell (p := ⟨w.heap.size + 1, 3, none⟩) zcr).trans cr3
  replace cr4 : W1.cell? ⟨w.heap.size + 1, 4, none⟩ = some (.int .i64 0) := (hb_W1.cell (p := ⟨w.heap.size + 1, 4, none⟩) zcr).trans cr4
  replace fcr0 : W1.frozen? ⟨w.heap.size + 1, 0, none⟩ = false := (hb_W1.frozen (p := ⟨w.heap.size + 1, 0, none⟩) zcr).trans fcr0
  replace fcr1 : W1.frozen? ⟨w.heap.size + 1, 1, none⟩ = false := (hb_W1.frozen (p := ⟨w.heap.size + 1, 1, none⟩) zcr).trans fcr1
  replace fcr2 : W1.frozen? ⟨w.heap.size + 1, 2, none⟩ = false := (hb_W1.frozen (p := ⟨w.heap.size + 1, 2, none⟩) zcr).trans fcr2
  replace fcr3 : W1.frozen? ⟨w.heap.size + 1, 3, none⟩ = false := (hb_W1.frozen (p := ⟨w.heap.size + 1, 3, none⟩) zcr).trans fcr3
  replace fcr4 : W1.frozen? ⟨w.heap.size + 1, 4, none⟩ = false := (hb_W1.frozen (p := ⟨w.heap.size + 1, 4, none⟩) zcr).trans fcr4
  replace zcr : w.heap.size + 1 < W1.heap.size := Nat.lt_of_lt_of_le zcr hb_W1.size
  replace HB := hide (HB.out.trans (hb_W1.mono HB.out.size))
  clear hb_W1
  have hz4 : W0.heap.size < W1.heap.size := by rw [← hW1]; simp
  have HBW := HB
  go_enter Try.func92, Try.ntmps92
  go_wp2
  go_loopw [5] (fun i wr => ∃ k : Nat, k ≤ l.length ∧ i = .int .i64 k ∧ Hid (wr.heap[W0.heap.size]? = some (.cells (slotCells (soonTo l k)) 35 (0, 0))) ∧ Hid (Below (W0.heap.size) W1 wr))
    (fun i _ => l.length - (intOf i).toNat)
  case atStart => exact ⟨0, Nat.zero_le _, rfl, b4, Below.refl _ _⟩
  case round =>
  obtain ⟨k, hk, rfl, hq, HBr⟩ := hrel
  have hszr : W1.heap.size ≤ wr.heap.size := HBr.out.size
  obtain ⟨q, hqq⟩ : ∃ q, soonTo l k = q := ⟨_, rfl⟩
  rw [hqq] at hq
  replace ct0 : wr.cell? ⟨w.heap.size, 0, none⟩ = some (.slice (some ⟨b, off, none⟩) l.length c) := (HBr.out.cell (p := ⟨w.heap.size, 0, none⟩) zct0).trans ct0
  replace zct : w.heap.size < wr.heap.size := by omega
  replace cr0 : wr.cell? ⟨w.heap.size + 1, 0, none⟩ = some (.bool false) := (HBr.out.cell (p := ⟨w.heap.size + 1, 0, none⟩) zcr0).trans cr0
  replace cr1 : wr.cell? ⟨w.heap.size + 1, 1, none⟩ = some (.int .i64 0) := (HBr.out.cell (p := ⟨w.heap.size + 1, 1, none⟩) zcr0).trans cr1
  replace cr2 : wr.cell? ⟨w.heap.size + 1, 2, none⟩ = some (.int .i64 0) := (HBr.out.cell (p := ⟨w.heap.size + 1, 2, none⟩) zcr0).trans cr2
  replace cr3 : wr.cell? ⟨w.heap.size + 1, 3, none⟩ = some (.int .i64 0) := (HBr.out.cell (p := ⟨w.heap.size + 1, 3, none⟩) zcr0).trans cr3
  replace cr4 : wr.cell? ⟨w.heap.size + 1, 4, none⟩ = some (.int .i64 0) := (HBr.out.cell (p := ⟨w.heap.size + 1, 4, none⟩) zcr0).trans cr4
  replace fcr0 : wr.frozen? ⟨w.heap.size + 1, 0, none⟩ = false := (HBr.out.frozen (p := ⟨w.heap.size + 1, 0, none⟩) zcr0).trans fcr0
  replace fcr1 : wr.frozen? ⟨w.heap.size + 1, 1, none⟩ = false := (HBr.out.frozen (p := ⟨w.heap.size + 1, 1, none⟩) zcr0).trans fcr1
  replace fcr2 : wr.frozen? ⟨w.heap.size + 1, 2, none⟩ = false := (HBr.out.frozen (p := ⟨w.heap.size + 1, 2, none⟩) zcr0).trans fcr2
  replace fcr3 : wr.frozen? ⟨w.heap.size + 1, 3, none⟩ = false := (HBr.out.frozen (p := ⟨w.heap.size + 1, 3, none⟩) zcr0).trans fcr3
  replace fcr4 : wr.frozen? ⟨w.heap.size + 1, 4, none⟩ = false := (HBr.out.frozen (p := ⟨w.heap.size + 1, 4, none⟩) zcr0).trans fcr4
  replace zcr : w.heap.size + 1 < wr.heap.size := by omega
  have zq : W0.heap.size < wr.heap.size := by omega
  have hw0 : w.heap.size ≤ W0.heap.size := by omega
  have HB2 := hide (HBW.out.trans (HBr.out.mono hw0))
  have q0 : wr.cell? ⟨W0.heap.size, 0, none⟩ = some (.bool q.u) := block_cell1 hq.out 0 _ rfl
  have q1 : wr.cell? ⟨W0.heap.size, 1, none⟩ = some (.int .i64 q.a) := block_cell1 hq.out 1 _ rfl
  have q2 : wr.cell? ⟨W0.heap.size, 2, none⟩ = some (.int .i64 q.p) := block_cell1 hq.out 2 _ rfl
  have q3 : wr.cell? ⟨W0.heap.size, 3, none⟩ = some (.int .i64 q.v) := block_cell1 hq.out 3 _ rfl
  have q4 : wr.cell? ⟨W0.heap.size, 4, none⟩ = some (.int .i64 q.t) := block_cell1 hq.out 4 _ rfl
  have fq0 := frozen_of hq.out 0
  have fq1 := frozen_of hq.out 1
  have fq2 := frozen_of hq.out 2
  have fq3 := frozen_of hq.out 3
  have fq4 := frozen_of hq.out 4
  by_cases hlt : k < l.length
  · skip
    have hcx := RdL.slot (C := w.heap.size) HC.out k hlt
    have HSu := hide (soonTo_succ hlt)
    rw [hqq] at HSu
    obtain ⟨s, hxy⟩ : ∃ s, l.getD k sl0 = s := ⟨_, rfl⟩
    rw [hxy] at hcx HSu
    have e0 := (HB2.out.cell (p := ⟨b, off + k * 5, none⟩) hbl).trans hcx.1
    have e1 := (HB2.out.cell (p := ⟨b, off + k * 5 + 1, none⟩) hbl).trans hcx.2.1
    have e2 := (HB2.out.cell (p := ⟨b, off + k * 5 + 2, none⟩) hbl).trans hcx.2.2.1
    have e3 := (HB2.out.cell (p := ⟨b, off + k * 5 + 3, none⟩) hbl).trans hcx.2.2.2.1
    have e4 := (HB2.out.cell (p := ⟨b, off + k * 5 + 4, none⟩) hbl).trans hcx.2.2.2.2
    have zb : b < wr.heap.size := Nat.lt_of_lt_of_le hbl HB2.out.size
    have hk' : (k : Int) < (l.length : Int) := by omega
    clear hcx hxy hqq
    have G0 := Grown.cell ct0 zct
    have Ge0 := Grown.cell (b := b) (off := off + k * 5) e0 zb
    have Gq0 := Grown.cell q0 zq
    have Gf0 : ∀ p : Grown wr, p.v.frozen? ⟨W0.heap.size, 0, none⟩ = false := fun p => (p.b.frozen (p := ⟨W0.heap.size, 0, none⟩) zq).trans fq0
    have Ge1 := Grown.cell (b := b) (off := off + k * 5 + 1) e1 zb
    have Gq1 := Grown.cell q1 zq
    have Gf1 : ∀ p : Grown wr, p.v.frozen? ⟨W0.heap.size, 1, none⟩ = false := fun p => (p.b.frozen (p := ⟨W0.heap.size, 1, none⟩) zq).trans fq1
    have Ge2 := Grown.cell (b := b) (off := off + k * 5 + 2) e2 zb
    have Gq2 := Grown.cell q2 zq
    have Gf2 : ∀ p : Grown wr, p.v.frozen? ⟨W0.heap.size, 2, none⟩ = false := fun p => (p.b.frozen (p := ⟨W0.heap.size, 2, none⟩) zq).trans fq2
    have Ge3 := Grown.cell (b := b) (off := off + k * 5 + 3) e3 zb
    have Gq3 := Grown.cell q3 zq
    have Gf3 : ∀ p : Grown wr, p.v.frozen? ⟨W0.heap.size, 3, none⟩ = false := fun p => (p.b.frozen (p := ⟨W0.heap.size, 3, none⟩) zq).trans fq3
    have Ge4 := Grown.cell (b := b) (off := off + k * 5 + 4) e4 zb
    have Gq4 := Grown.cell q4 zq
    have Gf4 : ∀ p : Grown wr, p.v.frozen? ⟨W0.heap.size, 4, none⟩ = false := fun p => (p.b.frozen (p := ⟨W0.heap.size, 4, none⟩) zq).trans fq4
    have HQ := hq
    clear hq fq0 q0 e0 fq1 q1 e1 fq2 q2 e2 fq3 q3 e3 fq4 q4 e4 cr0 fcr0 cr1 fcr1 cr2 fcr2 cr3 fcr3 cr4 fcr4
    obtain ⟨su, sa, sp, sv, st⟩ := s
    obtain ⟨qu, qa, qp, qv, qt⟩ := q
    simp only at Ge0 Ge1 Ge2 Ge3 Ge4 Gq0 Gq1 Gq2 Gq3 Gq4
    cases su with
    | false =>
      have HN := hide (HSu.out.trans (soonStep_free rfl))
      clear HSu
      go_wp2
      (refine wp_region_grown (by kernel_rfl) (by kernel_rfl) ?_; intro hne9; (repeat (go_big_quiet_step ((fail)))); (with_reducible refine wpQuiet_nil ?_); intro _ hw9; obtain ⟨pq, hw8⟩ := hw9; subst hw8)
      go_wp2
      go_roundw
      case rel => exact ⟨k + 1, hlt, by go_num, (by unfold Hid; rw [HN.out]; exact (pq.b.block _ zq).trans HQ.out), (HBr.out.trans (pq.b.mono (Nat.le_of_lt zq)))⟩
      case measure => simp [intOf]; omega
    | true =>
      cases qu with
      | false =>
        have HN := hide (HSu.out.trans (soonStep_first rfl rfl))
        clear HSu
        go_wp2
        (refine wp_region_grown (by kernel_rfl) (by kernel_rfl) ?_; intro hne9; (repeat (go_big_quiet_step ((fail)))); (with_reducible refine wpQuiet_nil ?_); intro _ hw9; obtain ⟨pq, hw8⟩ := hw9; subst hw8)
        go_wp2
        go_roundw
        case rel => exact ⟨k + 1, hlt, by go_num, (by unfold Hid; rw [HN.out]; exact box_set5 (s := ⟨true, sa, sp, sv, st⟩) ((pq.b.block _ zq).trans HQ.out)), below_set5 (s := ⟨true, sa, sp, sv, st⟩) (HBr.out.trans (pq.b.mono (Nat.le_of_lt zq))) (Nat.le_refl _)⟩
        case measure => simp [intOf]; omega
      | true =>
        by_cases hlq : st < qt
        · have HN := hide (HSu.out.trans (soonStep_less rfl hlq))
          clear HSu
          go_wp2
          (refine wp_region_grown (by kernel_rfl) (by kernel_rfl) ?_; intro hne9; (repeat (go_big_quiet_step ((fail)))); (with_reducible refine wpQuiet_nil ?_); intro _ hw9; obtain ⟨pq, hw8⟩ := hw9; subst hw8)
          go_wp2
          go_roundw
          case rel => exact ⟨k + 1, hlt, by go_num, (by unfold Hid; rw [HN.out]; exact box_set5 (s := ⟨true, sa, sp, sv, st⟩) ((pq.b.block _ zq).trans HQ.out)), below_set5 (s := ⟨true, sa, sp, sv, st⟩) (HBr.out.trans (pq.b.mono (Nat.le_of_lt zq))) (Nat.le_refl _)⟩
          case measure => simp [intOf]; omega
        · have hdq : decide (st < qt) = false := decide_eq_false hlq
          have HN := hide (HSu.out.trans (soonStep_more rfl hlq))
          clear HSu
          go_wp2
          (refine wp_region_grown (by kernel_rfl) (by kernel_rfl) ?_; intro hne9; (repeat (go_big_quiet_step ((fail)))); (with_reducible refine wpQuiet_nil ?_); intro _ hw9; obtain ⟨pq, hw8⟩ := hw9; subst hw8)
          go_wp2
          go_roundw
          case rel => exact ⟨k + 1, hlt, by go_num, (by unfold Hid; rw [HN.out]; exact (pq.b.block _ zq).trans HQ.out), (HBr.out.trans (pq.b.mono (Nat.le_of_lt zq)))⟩
          case measure => simp [intOf]; omega
  · skip
    have e : k = l.length := by omega
    subst e
    have HE := hide (show soonL l = q from hqq)
    have HQ := hq
    clear hq hqq
    go_wp2
    go_region
    go_wp2
    refine bodyPost_ret (v := .tuple #[slot q, .bool q.u]) (by simp [results, Try.results92, go_sem, cr0, cr1, cr2, cr3, cr4]) rfl ⟨by rw [HE.out], ?_⟩
    exact below_set5 (s := q) (Below.drew HB2.out) (show w.heap.size ≤ w.heap.size + 1 by omega)

end Go.Proofs.Ytiijecnhbioehaa

/- Soonest, the model's and the program's. -/
namespace Go.Proofs.Ytiijecnhbioehaa
open Go.ChangeShapes Go.WideShapes Go.ChangeAt Go.RowKit Go.Joins
set_option linter.unusedVariables false
set_option linter.unusedSimpArgs false

def soonM (l : List Sl) : Sl := if tableOkB l = true then soonL l else sl0
set_option maxHeartbeats 2000000 in
theorem specSoonest_any (o : Option Addr) (c : Nat) (l : List Sl) (w : World) (hR : RdS w.heap.size w o l) (hl : l.length ≤ 1048576) :
    Calls Try.prog 51 #[tab (.slice o l.length c)] w fun e w' => e = .returned (.tuple #[slot (soonM l), .bool (soonM l).u]) ∧ Below w.heap.size w w' := by
  obtain ⟨W0, hW0⟩ : ∃ W, ((w.alloc (.cells #[.slice o l.length c] 25)).alloc (.cells #[.bool false, .int .i64 0, .int .i64 0, .int .i64 0, .int .i64 0] 35)) = W := ⟨_, rfl⟩
  have hb_W0 : Below w.heap.size w W0 := by rw [← hW0]; exact (((Below.refl _ _).alloc (Nat.le_refl _) _).alloc (by simp <;> omega) _)
  have HB := hide hb_W0
  clear hb_W0
  have zct : w.heap.size < W0.heap.size := by rw [← hW0]; simp <;> omega
  have ct0 : W0.cell? ⟨w.heap.size, 0, none⟩ = some (.slice o l.length c) := by rw [← hW0]; simp [go_sem]
  have zcr : w.heap.size + 1 < W0.heap.size := by rw [← hW0]; simp
  have cr0 : W0.cell? ⟨w.heap.size + 1, 0, none⟩ = some (.bool false) := by rw [← hW0]; simp [go_sem]
  have cr1 : W0.cell? ⟨w.heap.size + 1, 1, none⟩ = some (.int .i64 0) := by rw [← hW0]; simp [go_sem]
  have cr2 : W0.cell? ⟨w.heap.size + 1, 2, none⟩ = some (.int .i64 0) := by rw [← hW0]; simp [go_sem]
  have cr3 : W0.cell? ⟨w.heap.size + 1, 3, none⟩ = some (.int .i64 0) := by rw [← hW0]; simp [go_sem]
  have cr4 : W0.cell? ⟨w.heap.size + 1, 4, none⟩ = some (.int .i64 0) := by rw [← hW0]; simp [go_sem]
  have fcr0 : W0.frozen? ⟨w.heap.size + 1, 0, none⟩ = false := by rw [← hW0]; simp [go_sem]
  have fcr1 : W0.frozen? ⟨w.heap.size + 1, 1, none⟩ = false := by rw [← hW0]; simp [go_sem]
  have fcr2 : W0.frozen? ⟨w.heap.size + 1, 2, none⟩ = false := by rw [← hW0]; simp [go_sem]
  have fcr3 : W0.frozen? ⟨w.heap.size + 1, 3, none⟩ = false := by rw [← hW0]; simp [go_sem]
  have fcr4 : W0.frozen? ⟨w.heap.size + 1, 4, none⟩ = false := by rw [← hW0]; simp [go_sem]
  have hok := specTableOk_any o c l W0 ((hR.kept HB.out (Nat.le_refl _)).le HB.out.size) hl
  cases hT : tableOkB l with
  | false =>
    have HM := hide (show soonM l = sl0 by unfold soonM; rw [hT]; rfl)
    rw [hT] at hok
    go_enter Try.func51, Try.ntmps51
    go_wp2_with fail
    refine (hok).mono ?_
    rintro e v1 ⟨rfl, hb⟩
    replace ct0 : v1.cell? ⟨w.heap.size, 0, none⟩ = some (.slice o l.length c) := (hb.cell (p := ⟨w.heap.size, 0, none⟩) zct).trans ct0
    replace zct : w.heap.size < v1.heap.size := Nat.lt_of_lt_of_le zct hb.size
    replace cr0 : v1.cell? ⟨w.heap.size + 1, 0, none⟩ = some (.bool false) := (hb.cell (p := ⟨w.heap.size + 1, 0, none⟩) zcr).trans cr0
    replace cr1 : v1.cell? ⟨w.heap.size + 1, 1, none⟩ = some (.int .i64 0) := (hb.cell (p := ⟨w.heap.size + 1, 1, none⟩) zcr).trans cr1
    replace cr2 : v1.cell? ⟨w.heap.size + 1, 2, none⟩ = some (.int .i64 0) := (hb.cell (p := ⟨w.heap.size + 1, 2, none⟩) zcr).trans cr2
    replace cr3 : v1.cell? ⟨w.heap.size + 1, 3, none⟩ = some (.int .i64 0) := (hb.cell (p := ⟨w.heap.size + 1, 3, none⟩) zcr).trans cr3
    replace cr4 : v1.cell? ⟨w.heap.size + 1, 4, none⟩ = some (.int .i64 0) := (hb.cell (p := ⟨w.heap.size + 1, 4, none⟩) zcr).trans cr4
    replace fcr0 : v1.frozen? ⟨w.heap.size + 1, 0, none⟩ = false := (hb.frozen (p := ⟨w.heap.size + 1, 0, none⟩) zcr).trans fcr0
    replace fcr1 : v1.frozen? ⟨w.heap.size + 1, 1, none⟩ = false := (hb.frozen (p := ⟨w.heap.size + 1, 1, none⟩) zcr).trans fcr1
    replace fcr2 : v1.frozen? ⟨w.heap.size + 1, 2, none⟩ = false := (hb.frozen (p := ⟨w.heap.size + 1, 2, none⟩) zcr).trans fcr2
    replace fcr3 : v1.frozen? ⟨w.heap.size + 1, 3, none⟩ = false := (hb.frozen (p := ⟨w.heap.size + 1, 3, none⟩) zcr).trans fcr3
    replace fcr4 : v1.frozen? ⟨w.heap.size + 1, 4, none⟩ = false := (hb.frozen (p := ⟨w.heap.size + 1, 4, none⟩) zcr).trans fcr4
    replace zcr : w.heap.size + 1 < v1.heap.size := Nat.lt_of_lt_of_le zcr hb.size
    replace HB := hide (HB.out.trans (hb.mono HB.out.size))
    clear hb
    clear hok hT
    go_wp2
    refine bodyPost_ret (v := .tuple #[slot sl0, .bool false]) (by simp [results, Try.results51, go_sem, cr0, cr1, cr2, cr3, cr4]) rfl ⟨by rw [HM.out], below_set5 (s := sl0) HB.out (by omega)⟩
  | true =>
    have HM := hide (show soonM l = soonL l by unfold soonM; rw [hT]; rfl)
    rw [hT] at hok
    have hn := (tableOkB_iff.1 hT).1
    clear hT
    rcases hR with hR | ⟨b, off, rfl, hbl, hcell⟩
    · subst hR; simp at hn
    have HC := hide hcell
    clear hcell
    go_enter Try.func51, Try.ntmps51
    go_wp2_with fail
    refine (hok).mono ?_
    rintro e v1 ⟨rfl, hb⟩
    replace ct0 : v1.cell? ⟨w.heap.size, 0, none⟩ = some (.slice (some ⟨b, off, none⟩) l.length c) := (hb.cell (p := ⟨w.heap.size, 0, none⟩) zct).trans ct0
    replace zct : w.heap.size < v1.heap.size := Nat.lt_of_lt_of_le zct hb.size
    replace cr0 : v1.cell? ⟨w.heap.size + 1, 0, none⟩ = some (.bool false) := (hb.cell (p := ⟨w.heap.size + 1, 0, none⟩) zcr).trans cr0
    replace cr1 : v1.cell? ⟨w.heap.size + 1, 1, none⟩ = some (.int .i64 0) := (hb.cell (p := ⟨w.heap.size + 1, 1, none⟩) zcr).trans cr1
    replace cr2 : v1.cell? ⟨w.heap.size + 1, 2, none⟩ = some (.int .i64 0) := (hb.cell (p := ⟨w.heap.size + 1, 2, none⟩) zcr).trans cr2
    replace cr3 : v1.cell? ⟨w.heap.size + 1, 3, none⟩ = some (.int .i64 0) := (hb.cell (p := ⟨w.heap.size + 1, 3, none⟩) zcr).trans cr3
    replace cr4 : v1.cell? ⟨w.heap.size + 1, 4, none⟩ = some (.int .i64 0) := (hb.cell (p := ⟨w.heap.size + 1, 4, none⟩) zcr).trans cr4
    replace fcr0 : v1.frozen? ⟨w.heap.size + 1, 0, none⟩ = false := (hb.frozen (p := ⟨w.heap.size + 1, 0, none⟩) zcr).trans fcr0
    replace fcr1 : v1.frozen? ⟨w.heap.size + 1, 1, none⟩ = false := (hb.frozen (p := ⟨w.heap.size + 1, 1, none⟩) zcr).trans fcr1
    replace fcr2 : v1.frozen? ⟨w.heap.size + 1, 2, none⟩ = false := (hb.frozen (p := ⟨w.heap.size + 1, 2, none⟩) zcr).trans fcr2
    replace fcr3 : v1.frozen? ⟨w.heap.size + 1, 3, none⟩ = false := (hb.frozen (p := ⟨w.heap.size + 1, 3, none⟩) zcr).trans fcr3
    replace fcr4 : v1.frozen? ⟨w.heap.size + 1, 4, none⟩ = false := (hb.frozen (p := ⟨w.heap.size + 1, 4, none⟩) zcr).trans fcr4
    replace zcr : w.heap.size + 1 < v1.heap.size := Nat.lt_of_lt_of_le zcr hb.size
    replace HB := hide (HB.out.trans (hb.mono HB.out.size))
    clear hb
    go_wp2_with fail
    refine (l5soonest_any b off c l v1 (Nat.lt_of_lt_of_le hbl HB.out.size) (fun i hi j hj => (HB.out.cell (p := ⟨b, off + i * layS.k + j, none⟩) hbl).trans (HC.out i hi j hj)) hl).mono ?_
    rintro e v2 ⟨rfl, hb⟩
    replace ct0 : v2.cell? ⟨w.heap.size, 0, none⟩ = some (.slice (some ⟨b, off, none⟩) l.length c) := (hb.cell (p := ⟨w.heap.size, 0, none⟩) zct).trans ct0
    replace zct : w.heap.size < v2.heap.size := Nat.lt_of_lt_of_le zct hb.size
    replace cr0 : v2.cell? ⟨w.heap.size + 1, 0, none⟩ = some (.bool false) := (hb.cell (p := ⟨w.heap.size + 1, 0, none⟩) zcr).trans cr0
    replace cr1 : v2.cell? ⟨w.heap.size + 1, 1, none⟩ = some (.int .i64 0) := (hb.cell (p := ⟨w.heap.size + 1, 1, none⟩) zcr).trans cr1
    replace cr2 : v2.cell? ⟨w.heap.size + 1, 2, none⟩ = some (.int .i64 0) := (hb.cell (p := ⟨w.heap.size + 1, 2, none⟩) zcr).trans cr2
    replace cr3 : v2.cell? ⟨w.heap.size + 1, 3, none⟩ = some (.int .i64 0) := (hb.cell (p := ⟨w.heap.size + 1, 3, none⟩) zcr).trans cr3
    replace cr4 : v2.cell? ⟨w.heap.size + 1, 4, none⟩ = some (.int .i64 0) := (hb.cell (p := ⟨w.heap.size + 1, 4, none⟩) zcr).trans cr4
    replace fcr0 : v2.frozen? ⟨w.heap.size + 1, 0, none⟩ = false := (hb.frozen (p := ⟨w.heap.size + 1, 0, none⟩) zcr).trans fcr0
    replace fcr1 : v2.frozen? ⟨w.heap.size + 1, 1, none⟩ = false := (hb.frozen (p := ⟨w.heap.size + 1, 1, none⟩) zcr).trans fcr1
    replace fcr2 : v2.frozen? ⟨w.heap.size + 1, 2, none⟩ = false := (hb.frozen (p := ⟨w.heap.size + 1, 2, none⟩) zcr).trans fcr2
    replace fcr3 : v2.frozen? ⟨w.heap.size + 1, 3, none⟩ = false := (hb.frozen (p := ⟨w.heap.size + 1, 3, none⟩) zcr).trans fcr3
    replace fcr4 : v2.frozen? ⟨w.heap.size + 1, 4, none⟩ = false := (hb.frozen (p := ⟨w.heap.size + 1, 4, none⟩) zcr).trans fcr4
    replace zcr : w.heap.size + 1 < v2.heap.size := Nat.lt_of_lt_of_le zcr hb.size
    replace HB := hide (HB.out.trans (hb.mono HB.out.size))
    clear hb
    clear hok
    obtain ⟨q, hq⟩ : ∃ q, soonL l = q := ⟨_, rfl⟩
    have HQ := hide hq
    simp only [hq]
    clear hq
    go_wp2
    refine bodyPost_ret (v := .tuple #[slot q, .bool q.u]) (by simp [results, Try.results51, go_sem, cr0, cr1, cr2, cr3, cr4]) rfl ⟨by rw [HM.out, HQ.out], below_set5 (s := q) HB.out (by omega)⟩

set_option maxHeartbeats 4000000 in
theorem soonestOf_any (b off c : Nat) (l : List Sl) (w : World) (hbl : b < w.heap.size) (hc : ∀ i, i < l.length → ∀ j, j < layS.k → w.cell? ⟨b, off + i * layS.k + j, none⟩ = (layS.cs (l.getD i layS.d))[j]?) (hl : l.length ≤ 1048576) :
    Calls Try.prog 72 #[tab (.slice (some ⟨b, off, none⟩) l.length c)] w fun e w' => e = .returned (.tuple #[slot (soonL l), .bool (soonL l).u]) ∧ Below w.heap.size w w' := by
  have HC := hide hc
  clear hc
  obtain ⟨W0, hW0⟩ : ∃ W, ((w.alloc (.cells #[.slice (some ⟨b, off, none⟩) l.length c] 78)).alloc (.cells #[.bool false, .int .i64 0, .int .i64 0, .int .i64 0, .int .i64 0] 87)) = W := ⟨_, rfl⟩
  have hb_W0 : Below w.heap.size w W0 := by rw [← hW0]; exact (((Below.refl _ _).alloc (Nat.le_refl _) _).alloc (by simp <;> omega) _)
  have HB := hide hb_W0
  clear hb_W0
  have zct : w.heap.size < W0.heap.size := by rw [← hW0]; simp <;> omega
  have ct0 : W0.cell? ⟨w.heap.size, 0, none⟩ = some (.slice (some ⟨b, off, none⟩) l.length c) := by rw [← hW0]; simp [go_sem]
  have zcr : w.heap.size + 1 < W0.heap.size := by rw [← hW0]; simp
  have cr0 : W0.cell? ⟨w.heap.size + 1, 0, none⟩ = some (.bool false) := by rw [← hW0]; simp [go_sem]
  have cr1 : W0.cell? ⟨w.heap.size + 1, 1, none⟩ = some (.int .i64 0) := by rw [← hW0]; simp [go_sem]
  have cr2 : W0.cell? ⟨w.heap.size + 1, 2, none⟩ = some (.int .i64 0) := by rw [← hW0]; simp [go_sem]
  have cr3 : W0.cell? ⟨w.heap.size + 1, 3, none⟩ = some (.int .i64 0) := by rw [← hW0]; simp [go_sem]
  have cr4 : W0.cell? ⟨w.heap.size + 1, 4, none⟩ = some (.int .i64 0) := by rw [← hW0]; simp [go_sem]
  have fcr0 : W0.frozen? ⟨w.heap.size + 1, 0, none⟩ = false := by rw [← hW0]; simp [go_sem]
  have fcr1 : W0.frozen? ⟨w.heap.size + 1, 1, none⟩ = false := by rw [← hW0]; simp [go_sem]
  have fcr2 : W0.frozen? ⟨w.heap.size + 1, 2, none⟩ = false := by rw [← hW0]; simp [go_sem]
  have fcr3 : W0.frozen? ⟨w.heap.size + 1, 3, none⟩ = false := by rw [← hW0]; simp [go_sem]
  have fcr4 : W0.frozen? ⟨w.heap.size + 1, 4, none⟩ = false := by rw [← hW0]; simp [go_sem]
  obtain ⟨W1, hW1⟩ : ∃ W, W0.alloc (.cells #[.bool false, .int .i64 0, .int .i64 0, .int .i64 0, .int .i64 0] 87) = W := ⟨_, rfl⟩
  have zct0 := zct
  have zcr0 := zcr
  have b4 : Hid (W1.heap[W0.heap.size]? = some (.cells (slotCells sl0) 87 (0, 0))) := by rw [← hW1]; exact World.alloc_heap_new W0 _
  have hb_W1 : Below W0.heap.size W0 W1 := by rw [← hW1]; exact (Below.refl _ _).alloc (Nat.le_refl _) _
  replace ct0 : W1.cell? ⟨w.heap.size, 0, none⟩ = some (.slice (some ⟨b, off, none⟩) l.length c) := (hb_W1.cell (p := ⟨w.heap.size, 0, none⟩) zct).trans ct0
  replace zct : w.heap.size < W1.heap.size := Nat.lt_of_lt_of_le zct hb_W1.size
  replace cr0 : W1.cell? ⟨w.heap.size + 1, 0, none⟩ = some (.bool false) := (hb_W1.cell (p := ⟨w.heap.size + 1, 0, none⟩) zcr).trans cr0
  replace cr1 : W1.cell? ⟨w.heap.size + 1, 1, none⟩ = some (.int .i64 0) := (hb_W1.cell (p := ⟨w.heap.size + 1, 1, none⟩) zcr).trans cr1
  replace cr2 : W1.cell? ⟨w.heap.size + 1, 2, none⟩ = some (.int .i64 0) := (hb_W1.cell (p := ⟨w.heap.size + 1, 2, none⟩) zcr).trans cr2
  replace cr3 : W1.cell? ⟨w.heap.size + 1, 3, none⟩ = some (.int .i64 0) := (hb_W1.cell (p := ⟨w.heap.size + 1, 3, none⟩) zcr).trans cr3
  replace cr4 : W1.cell? ⟨w.heap.size + 1, 4, none⟩ = some (.int .i64 0) := (hb_W1.cell (p := ⟨w.heap.size + 1, 4, none⟩) zcr).trans cr4
  replace fcr0 : W1.frozen? ⟨w.heap.size + 1, 0, none⟩ = false := (hb_W1.frozen (p := ⟨w.heap.size + 1, 0, none⟩) zcr).trans fcr0
  replace fcr1 : W1.frozen? ⟨w.heap.size + 1, 1, none⟩ = false := (hb_W1.frozen (p := ⟨w.heap.size + 1, 1, none⟩) zcr).trans fcr1
  replace fcr2 : W1.frozen? ⟨w.heap.size + 1, 2, none⟩ = false := (hb_W1.frozen (p := ⟨w.heap.size + 1, 2, none⟩) zcr).trans fcr2
  replace fcr3 : W1.frozen? ⟨w.heap.size + 1, 3, none⟩ = false := (hb_W1.frozen (p := ⟨w.heap.size + 1, 3, none⟩) zcr).trans fcr3
  replace fcr4 : W1.frozen? ⟨w.heap.size + 1, 4, none⟩ = false := (hb_W1.frozen (p := ⟨w.heap.size + 1, 4, none⟩) zcr).trans fcr4
  replace zcr : w.heap.size + 1 < W1.heap.size := Nat.lt_of_lt_of_le zcr hb_W1.size
  replace HB := hide (HB.out.trans (hb_W1.mono HB.out.size))
  clear hb_W1
  have hz4 : W0.heap.size < W1.heap.size := by rw [← hW1]; simp
  have HBW := HB
  go_enter Try.func72, Try.ntmps72
  go_wp2
  go_loopw [10] (fun i wr => ∃ k : Nat, k ≤ l.length ∧ i = .int .i64 k ∧ Hid (wr.heap[W0.heap.size]? = some (.cells (slotCells (soonTo l k)) 87 (0, 0))) ∧ Hid (Below W0.heap.size W1 wr))
    (fun i _ => l.length - (intOf i).toNat)
  case atStart => exact ⟨0, Nat.zero_le _, rfl, b4, Below.refl _ _⟩
  case round =>
  obtain ⟨k, hk, rfl, hq, HBr⟩ := hrel
  have hszr : W1.heap.size ≤ wr.heap.size := HBr.out.size
  obtain ⟨q, hqq⟩ : ∃ q, soonTo l k = q := ⟨_, rfl⟩
  rw [hqq] at hq
  replace ct0 : wr.cell? ⟨w.heap.size, 0, none⟩ = some (.slice (some ⟨b, off, none⟩) l.length c) := (HBr.out.cell (p := ⟨w.heap.size, 0, none⟩) zct0).trans ct0
  replace zct : w.heap.size < wr.heap.size := by omega
  replace cr0 : wr.cell? ⟨w.heap.size + 1, 0, none⟩ = some (.bool false) := (HBr.out.cell (p := ⟨w.heap.size + 1, 0, none⟩) zcr0).trans cr0
  replace cr1 : wr.cell? ⟨w.heap.size + 1, 1, none⟩ = some (.int .i64 0) := (HBr.out.cell (p := ⟨w.heap.size + 1, 1, none⟩) zcr0).trans cr1
  replace cr2 : wr.cell? ⟨w.heap.size + 1, 2, none⟩ = some (.int .i64 0) := (HBr.out.cell (p := ⟨w.heap.size + 1, 2, none⟩) zcr0).trans cr2
  replace cr3 : wr.cell? ⟨w.heap.size + 1, 3, none⟩ = some (.int .i64 0) := (HBr.out.cell (p := ⟨w.heap.size + 1, 3, none⟩) zcr0).trans cr3
  replace cr4 : wr.cell? ⟨w.heap.size + 1, 4, none⟩ = some (.int .i64 0) := (HBr.out.cell (p := ⟨w.heap.size + 1, 4, none⟩) zcr0).trans cr4
  replace fcr0 : wr.frozen? ⟨w.heap.size + 1, 0, none⟩ = false := (HBr.out.frozen (p := ⟨w.heap.size + 1, 0, none⟩) zcr0).trans fcr0
  replace fcr1 : wr.frozen? ⟨w.heap.size + 1, 1, none⟩ = false := (HBr.out.frozen (p := ⟨w.heap.size + 1, 1, none⟩) zcr0).trans fcr1
  replace fcr2 : wr.frozen? ⟨w.heap.size + 1, 2, none⟩ = false := (HBr.out.frozen (p := ⟨w.heap.size + 1, 2, none⟩) zcr0).trans fcr2
  replace fcr3 : wr.frozen? ⟨w.heap.size + 1, 3, none⟩ = false := (HBr.out.frozen (p := ⟨w.heap.size + 1, 3, none⟩) zcr0).trans fcr3
  replace fcr4 : wr.frozen? ⟨w.heap.size + 1, 4, none⟩ = false := (HBr.out.frozen (p := ⟨w.heap.size + 1, 4, none⟩) zcr0).trans fcr4
  replace zcr : w.heap.size + 1 < wr.heap.size := by omega
  have zq : W0.heap.size < wr.heap.size := by omega
  have hw0 : w.heap.size ≤ W0.heap.size := by omega
  have HB2 := hide (HBW.out.trans (HBr.out.mono hw0))
  by_cases hlt : k < l.length
  · skip
    have hcx := RdL.slot (C := w.heap.size) HC.out k hlt
    have HSu := hide (soonTo_succ hlt)
    rw [hqq] at HSu
    obtain ⟨s, hxy⟩ : ∃ s, l.getD k sl0 = s := ⟨_, rfl⟩
    rw [hxy] at hcx HSu
    have e0 := (HB2.out.cell (p := ⟨b, off + k * 5, none⟩) hbl).trans hcx.1
    have e1 := (HB2.out.cell (p := ⟨b, off + k * 5 + 1, none⟩) hbl).trans hcx.2.1
    have e2 := (HB2.out.cell (p := ⟨b, off + k * 5 + 2, none⟩) hbl).trans hcx.2.2.1
    have e3 := (HB2.out.cell (p := ⟨b, off + k * 5 + 3, none⟩) hbl).trans hcx.2.2.2.1
    have e4 := (HB2.out.cell (p := ⟨b, off + k * 5 + 4, none⟩) hbl).trans hcx.2.2.2.2
    have hk' : (k : Int) < (l.length : Int) := by omega
    clear hcx hxy hqq
    obtain ⟨W2, hW2⟩ : ∃ W, wr.alloc (.cells (slotCells s) 87) = W := ⟨_, rfl⟩
    have hb2 : Below wr.heap.size wr W2 := by rw [← hW2]; exact (Below.refl _ _).alloc (Nat.le_refl _) _
    have HQ : Hid (W2.heap[W0.heap.size]? = some (.cells (slotCells q) 87 (0, 0))) := (hb2.block _ zq).trans hq.out
    have HBr2 := hide (HBr.out.trans (hb2.mono (Nat.le_of_lt zq)))
    have hs2 : W2.heap[wr.heap.size]? = some (.cells (slotCells s) 87 (0, 0)) := by rw [← hW2]; exact World.alloc_heap_new wr _
    have s0 : W2.cell? ⟨wr.heap.size, 0, none⟩ = some (.bool s.u) := block_cell1 hs2 0 _ rfl
    have s1 : W2.cell? ⟨wr.heap.size, 1, none⟩ = some (.int .i64 s.a) := block_cell1 hs2 1 _ rfl
    have s2 : W2.cell? ⟨wr.heap.size, 2, none⟩ = some (.int .i64 s.p) := block_cell1 hs2 2 _ rfl
    have s3 : W2.cell? ⟨wr.heap.size, 3, none⟩ = some (.int .i64 s.v) := block_cell1 hs2 3 _ rfl
    have s4 : W2.cell? ⟨wr.heap.size, 4, none⟩ = some (.int .i64 s.t) := block_cell1 hs2 4 _ rfl
    have q0 : W2.cell? ⟨W0.heap.size, 0, none⟩ = some (.bool q.u) := block_cell1 HQ.out 0 _ rfl
    have q1 : W2.cell? ⟨W0.heap.size, 1, none⟩ = some (.int .i64 q.a) := block_cell1 HQ.out 1 _ rfl
    have q2 : W2.cell? ⟨W0.heap.size, 2, none⟩ = some (.int .i64 q.p) := block_cell1 HQ.out 2 _ rfl
    have q3 : W2.cell? ⟨W0.heap.size, 3, none⟩ = some (.int .i64 q.v) := block_cell1 HQ.out 3 _ rfl
    have q4 : W2.cell? ⟨W0.heap.size, 4, none⟩ = some (.int .i64 q.t) := block_cell1 HQ.out 4 _ rfl
    have fq0 := frozen_of HQ.out 0
    have fq1 := frozen_of HQ.out 1
    have fq2 := frozen_of HQ.out 2
    have fq3 := frozen_of HQ.out 3
    have fq4 := frozen_of HQ.out 4
    clear hs2 hb2 hq cr0 fcr0 cr1 fcr1 cr2 fcr2 cr3 fcr3 cr4 fcr4 ct0
    obtain ⟨su, sa, sp, sv, st⟩ := s
    obtain ⟨qu, qa, qp, qv, qt⟩ := q
    simp only at e0 e1 e2 e3 e4 q0 q1 q2 q3 q4 s0 s1 s2 s3 s4 hW2
    cases su with
    | false =>
      have HN := hide (HSu.out.trans (soonStep_free rfl))
      clear HSu
      go_wp2
      go_roundw
      case rel => exact ⟨k + 1, hlt, by go_num, (by unfold Hid; rw [HN.out]; exact HQ.out), HBr2⟩
      case measure => simp [intOf]; omega
    | true =>
      cases qu with
      | false =>
        have HN := hide (HSu.out.trans (soonStep_first rfl rfl))
        clear HSu
        go_wp2
        go_roundw
        case rel => exact ⟨k + 1, hlt, by go_num, (by unfold Hid; rw [HN.out]; exact box_set5 (s := ⟨true, sa, sp, sv, st⟩) HQ.out), below_set5 (s := ⟨true, sa, sp, sv, st⟩) HBr2.out (Nat.le_refl _)⟩
        case measure => simp [intOf]; omega
      | true =>
        by_cases hlq : st < qt
        · have HN := hide (HSu.out.trans (soonStep_less rfl hlq))
          clear HSu
          go_wp2
          go_roundw
          case rel => exact ⟨k + 1, hlt, by go_num, (by unfold Hid; rw [HN.out]; exact box_set5 (s := ⟨true, sa, sp, sv, st⟩) HQ.out), below_set5 (s := ⟨true, sa, sp, sv, st⟩) HBr2.out (Nat.le_refl _)⟩
          case measure => simp [intOf]; omega
        · have hdq : decide (st < qt) = false := decide_eq_false hlq
          have HN := hide (HSu.out.trans (soonStep_more rfl hlq))
          clear HSu
          go_wp2
          go_roundw
          case rel => exact ⟨k + 1, hlt, by go_num, (by unfold Hid; rw [HN.out]; exact HQ.out), HBr2⟩
          case measure => simp [intOf]; omega
  · skip
    have e : k = l.length := by omega
    subst e
    have HE := hide (show soonL l = q from hqq)
    have q0 : wr.cell? ⟨W0.heap.size, 0, none⟩ = some (.bool q.u) := block_cell1 hq.out 0 _ rfl
    have q1 : wr.cell? ⟨W0.heap.size, 1, none⟩ = some (.int .i64 q.a) := block_cell1 hq.out 1 _ rfl
    have q2 : wr.cell? ⟨W0.heap.size, 2, none⟩ = some (.int .i64 q.p) := block_cell1 hq.out 2 _ rfl
    have q3 : wr.cell? ⟨W0.heap.size, 3, none⟩ = some (.int .i64 q.v) := block_cell1 hq.out 3 _ rfl
    have q4 : wr.cell? ⟨W0.heap.size, 4, none⟩ = some (.int .i64 q.t) := block_cell1 hq.out 4 _ rfl
    have fq0 := frozen_of hq.out 0
    have fq1 := frozen_of hq.out 1
    have fq2 := frozen_of hq.out 2
    have fq3 := frozen_of hq.out 3
    have fq4 := frozen_of hq.out 4
    clear hq hqq
    go_wp2
    go_region
    go_wp2
    refine bodyPost_ret (v := .tuple #[slot q, .bool q.u]) (by simp [results, Try.results72, go_sem, cr0, cr1, cr2, cr3, cr4]) rfl ⟨by rw [HE.out], ?_⟩
    exact below_set5 (s := q) (Below.drew HB2.out) (show w.heap.size ≤ w.heap.size + 1 by omega)

set_option maxHeartbeats 2000000 in
theorem implSoonest_any (o : Option Addr) (c : Nat) (l : List Sl) (w : World) (hR : RdS w.heap.size w o l) (hl : l.length ≤ 1048576) :
    Calls Try.prog 31 #[tab (.slice o l.length c)] w fun e w' => e = .returned (.tuple #[slot (soonM l), .bool (soonM l).u]) ∧ Below w.heap.size w w' := by
  obtain ⟨W0, hW0⟩ : ∃ W, ((w.alloc (.cells #[.slice o l.length c] 25)).alloc (.cells #[.bool false, .int .i64 0, .int .i64 0, .int .i64 0, .int .i64 0] 35)) = W := ⟨_, rfl⟩
  have hb_W0 : Below w.heap.size w W0 := by rw [← hW0]; exact (((Below.refl _ _).alloc (Nat.le_refl _) _).alloc (by simp <;> omega) _)
  have HB := hide hb_W0
  clear hb_W0
  have zct : w.heap.size < W0.heap.size := by rw [← hW0]; simp <;> omega
  have ct0 : W0.cell? ⟨w.heap.size, 0, none⟩ = some (.slice o l.length c) := by rw [← hW0]; simp [go_sem]
  have zcr : w.heap.size + 1 < W0.heap.size := by rw [← hW0]; simp
  have cr0 : W0.cell? ⟨w.heap.size + 1, 0, none⟩ = some (.bool false) := by rw [← hW0]; simp [go_sem]
  have cr1 : W0.cell? ⟨w.heap.size + 1, 1, none⟩ = some (.int .i64 0) := by rw [← hW0]; simp [go_sem]
  have cr2 : W0.cell? ⟨w.heap.size + 1, 2, none⟩ = some (.int .i64 0) := by rw [← hW0]; simp [go_sem]
  have cr3 : W0.cell? ⟨w.heap.size + 1, 3, none⟩ = some (.int .i64 0) := by rw [← hW0]; simp [go_sem]
  have cr4 : W0.cell? ⟨w.heap.size + 1, 4, none⟩ = some (.int .i64 0) := by rw [← hW0]; simp [go_sem]
  have fcr0 : W0.frozen? ⟨w.heap.size + 1, 0, none⟩ = false := by rw [← hW0]; simp [go_sem]
  have fcr1 : W0.frozen? ⟨w.heap.size + 1, 1, none⟩ = false := by rw [← hW0]; simp [go_sem]
  have fcr2 : W0.frozen? ⟨w.heap.size + 1, 2, none⟩ = false := by rw [← hW0]; simp [go_sem]
  have fcr3 : W0.frozen? ⟨w.heap.size + 1, 3, none⟩ = false := by rw [← hW0]; simp [go_sem]
  have fcr4 : W0.frozen? ⟨w.heap.size + 1, 4, none⟩ = false := by rw [← hW0]; simp [go_sem]
  have hc := tableFrom_any o c l W0 ((hR.kept HB.out (Nat.le_refl _)).le HB.out.size) hl
  cases hT : tableOkB l with
  | false =>
    have HM := hide (show soonM l = sl0 by unfold soonM; rw [hT]; rfl)
    rw [hT] at hc
    go_enter Try.func31, Try.ntmps31
    go_wp2_with fail
    refine (hc).mono ?_
    rintro e v1 ⟨o', n', c', rfl, hv, hb⟩
    replace ct0 : v1.cell? ⟨w.heap.size, 0, none⟩ = some (.slice o l.length c) := (hb.cell (p := ⟨w.heap.size, 0, none⟩) zct).trans ct0
    replace zct : w.heap.size < v1.heap.size := Nat.lt_of_lt_of_le zct hb.size
    replace cr0 : v1.cell? ⟨w.heap.size + 1, 0, none⟩ = some (.bool false) := (hb.cell (p := ⟨w.heap.size + 1, 0, none⟩) zcr).trans cr0
    replace cr1 : v1.cell? ⟨w.heap.size + 1, 1, none⟩ = some (.int .i64 0) := (hb.cell (p := ⟨w.heap.size + 1, 1, none⟩) zcr).trans cr1
    replace cr2 : v1.cell? ⟨w.heap.size + 1, 2, none⟩ = some (.int .i64 0) := (hb.cell (p := ⟨w.heap.size + 1, 2, none⟩) zcr).trans cr2
    replace cr3 : v1.cell? ⟨w.heap.size + 1, 3, none⟩ = some (.int .i64 0) := (hb.cell (p := ⟨w.heap.size + 1, 3, none⟩) zcr).trans cr3
    replace cr4 : v1.cell? ⟨w.heap.size + 1, 4, none⟩ = some (.int .i64 0) := (hb.cell (p := ⟨w.heap.size + 1, 4, none⟩) zcr).trans cr4
    replace fcr0 : v1.frozen? ⟨w.heap.size + 1, 0, none⟩ = false := (hb.frozen (p := ⟨w.heap.size + 1, 0, none⟩) zcr).trans fcr0
    replace fcr1 : v1.frozen? ⟨w.heap.size + 1, 1, none⟩ = false := (hb.frozen (p := ⟨w.heap.size + 1, 1, none⟩) zcr).trans fcr1
    replace fcr2 : v1.frozen? ⟨w.heap.size + 1, 2, none⟩ = false := (hb.frozen (p := ⟨w.heap.size + 1, 2, none⟩) zcr).trans fcr2
    replace fcr3 : v1.frozen? ⟨w.heap.size + 1, 3, none⟩ = false := (hb.frozen (p := ⟨w.heap.size + 1, 3, none⟩) zcr).trans fcr3
    replace fcr4 : v1.frozen? ⟨w.heap.size + 1, 4, none⟩ = false := (hb.frozen (p := ⟨w.heap.size + 1, 4, none⟩) zcr).trans fcr4
    replace zcr : w.heap.size + 1 < v1.heap.size := Nat.lt_of_lt_of_le zcr hb.size
    replace HB := hide (HB.out.trans (hb.mono HB.out.size))
    clear hb
    obtain ⟨W2, hW2⟩ : ∃ W, (v1.alloc (.cells #[.slice o' n' c'] 78)) = W := ⟨_, rfl⟩
    have hb_W2 : Below v1.heap.size v1 W2 := by rw [← hW2]; exact ((Below.refl _ _).alloc (Nat.le_refl _) _)
    replace ct0 : W2.cell? ⟨w.heap.size, 0, none⟩ = some (.slice o l.length c) := (hb_W2.cell (p := ⟨w.heap.size, 0, none⟩) zct).trans ct0
    replace zct : w.heap.size < W2.heap.size := Nat.lt_of_lt_of_le zct hb_W2.size
    replace cr0 : W2.cell? ⟨w.heap.size + 1, 0, none⟩ = some (.bool false) := (hb_W2.cell (p := ⟨w.heap.size + 1, 0, none⟩) zcr).trans cr0
    replace cr1 : W2.cell? ⟨w.heap.size + 1, 1, none⟩ = some (.int .i64 0) := (hb_W2.cell (p := ⟨w.heap.size + 1, 1, none⟩) zcr).trans cr1
    replace cr2 : W2.cell? ⟨w.heap.size + 1, 2, none⟩ = some (.int .i64 0) := (hb_W2.cell (p := ⟨w.heap.size + 1, 2, none⟩) zcr).trans cr2
    replace cr3 : W2.cell? ⟨w.heap.size + 1, 3, none⟩ = some (.int .i64 0) := (hb_W2.cell (p := ⟨w.heap.size + 1, 3, none⟩) zcr).trans cr3
    replace cr4 : W2.cell? ⟨w.heap.size + 1, 4, none⟩ = some (.int .i64 0) := (hb_W2.cell (p := ⟨w.heap.size + 1, 4, none⟩) zcr).trans cr4
    replace fcr0 : W2.frozen? ⟨w.heap.size + 1, 0, none⟩ = false := (hb_W2.frozen (p := ⟨w.heap.size + 1, 0, none⟩) zcr).trans fcr0
    replace fcr1 : W2.frozen? ⟨w.heap.size + 1, 1, none⟩ = false := (hb_W2.frozen (p := ⟨w.heap.size + 1, 1, none⟩) zcr).trans fcr1
    replace fcr2 : W2.frozen? ⟨w.heap.size + 1, 2, none⟩ = false := (hb_W2.frozen (p := ⟨w.heap.size + 1, 2, none⟩) zcr).trans fcr2
    replace fcr3 : W2.frozen? ⟨w.heap.size + 1, 3, none⟩ = false := (hb_W2.frozen (p := ⟨w.heap.size + 1, 3, none⟩) zcr).trans fcr3
    replace fcr4 : W2.frozen? ⟨w.heap.size + 1, 4, none⟩ = false := (hb_W2.frozen (p := ⟨w.heap.size + 1, 4, none⟩) zcr).trans fcr4
    replace zcr : w.heap.size + 1 < W2.heap.size := Nat.lt_of_lt_of_le zcr hb_W2.size
    replace HB := hide (HB.out.trans (hb_W2.mono HB.out.size))
    clear hb_W2
    have zck : v1.heap.size < W2.heap.size := by rw [← hW2]; simp
    have ck0 : W2.cell? ⟨v1.heap.size, 0, none⟩ = some (.slice o' n' c') := by rw [← hW2]; simp [go_sem]
    clear hc hv hT
    go_wp2
    refine bodyPost_ret (v := .tuple #[slot sl0, .bool false]) (by simp [results, Try.results31, go_sem, cr0, cr1, cr2, cr3, cr4]) rfl ⟨by rw [HM.out], below_set5 (s := sl0) HB.out (by omega)⟩
  | true =>
    have HM := hide (show soonM l = soonL l by unfold soonM; rw [hT]; rfl)
    rw [hT] at hc
    go_enter Try.func31, Try.ntmps31
    go_wp2_with fail
    refine (hc).mono ?_
    rintro e v1 ⟨o', n', c', rfl, hv, hb⟩
    obtain ⟨g, rfl, rfl, rfl, hown⟩ := hv (by simp)
    have HO := hide hown
    clear hown hv
    replace ct0 : v1.cell? ⟨w.heap.size, 0, none⟩ = some (.slice o l.length c) := (hb.cell (p := ⟨w.heap.size, 0, none⟩) zct).trans ct0
    replace zct : w.heap.size < v1.heap.size := Nat.lt_of_lt_of_le zct hb.size
    replace cr0 : v1.cell? ⟨w.heap.size + 1, 0, none⟩ = some (.bool false) := (hb.cell (p := ⟨w.heap.size + 1, 0, none⟩) zcr).trans cr0
    replace cr1 : v1.cell? ⟨w.heap.size + 1, 1, none⟩ = some (.int .i64 0) := (hb.cell (p := ⟨w.heap.size + 1, 1, none⟩) zcr).trans cr1
    replace cr2 : v1.cell? ⟨w.heap.size + 1, 2, none⟩ = some (.int .i64 0) := (hb.cell (p := ⟨w.heap.size + 1, 2, none⟩) zcr).trans cr2
    replace cr3 : v1.cell? ⟨w.heap.size + 1, 3, none⟩ = some (.int .i64 0) := (hb.cell (p := ⟨w.heap.size + 1, 3, none⟩) zcr).trans cr3
    replace cr4 : v1.cell? ⟨w.heap.size + 1, 4, none⟩ = some (.int .i64 0) := (hb.cell (p := ⟨w.heap.size + 1, 4, none⟩) zcr).trans cr4
    replace fcr0 : v1.frozen? ⟨w.heap.size + 1, 0, none⟩ = false := (hb.frozen (p := ⟨w.heap.size + 1, 0, none⟩) zcr).trans fcr0
    replace fcr1 : v1.frozen? ⟨w.heap.size + 1, 1, none⟩ = false := (hb.frozen (p := ⟨w.heap.size + 1, 1, none⟩) zcr).trans fcr1
    replace fcr2 : v1.frozen? ⟨w.heap.size + 1, 2, none⟩ = false := (hb.frozen (p := ⟨w.heap.size + 1, 2, none⟩) zcr).trans fcr2
    replace fcr3 : v1.frozen? ⟨w.heap.size + 1, 3, none⟩ = false := (hb.frozen (p := ⟨w.heap.size + 1, 3, none⟩) zcr).trans fcr3
    replace fcr4 : v1.frozen? ⟨w.heap.size + 1, 4, none⟩ = false := (hb.frozen (p := ⟨w.heap.size + 1, 4, none⟩) zcr).trans fcr4
    replace zcr : w.heap.size + 1 < v1.heap.size := Nat.lt_of_lt_of_le zcr hb.size
    replace HB := hide (HB.out.trans (hb.mono HB.out.size))
    clear hb
    obtain ⟨W2, hW2⟩ : ∃ W, (v1.alloc (.cells #[.slice (some ⟨g, 0, none⟩) l.length l.length] 78)) = W := ⟨_, rfl⟩
    have hb_W2 : Below v1.heap.size v1 W2 := by rw [← hW2]; exact ((Below.refl _ _).alloc (Nat.le_refl _) _)
    replace ct0 : W2.cell? ⟨w.heap.size, 0, none⟩ = some (.slice o l.length c) := (hb_W2.cell (p := ⟨w.heap.size, 0, none⟩) zct).trans ct0
    replace zct : w.heap.size < W2.heap.size := Nat.lt_of_lt_of_le zct hb_W2.size
    replace cr0 : W2.cell? ⟨w.heap.size + 1, 0, none⟩ = some (.bool false) := (hb_W2.cell (p := ⟨w.heap.size + 1, 0, none⟩) zcr).trans cr0
    replace cr1 : W2.cell? ⟨w.heap.size + 1, 1, none⟩ = some (.int .i64 0) := (hb_W2.cell (p := ⟨w.heap.size + 1, 1, none⟩) zcr).trans cr1
    replace cr2 : W2.cell? ⟨w.heap.size + 1, 2, none⟩ = some (.int .i64 0) := (hb_W2.cell (p := ⟨w.heap.size + 1, 2, none⟩) zcr).trans cr2
    replace cr3 : W2.cell? ⟨w.heap.size + 1, 3, none⟩ = some (.int .i64 0) := (hb_W2.cell (p := ⟨w.heap.size + 1, 3, none⟩) zcr).trans cr3
    replace cr4 : W2.cell? ⟨w.heap.size + 1, 4, none⟩ = some (.int .i64 0) := (hb_W2.cell (p := ⟨w.heap.size + 1, 4, none⟩) zcr).trans cr4
    replace fcr0 : W2.frozen? ⟨w.heap.size + 1, 0, none⟩ = false := (hb_W2.frozen (p := ⟨w.heap.size + 1, 0, none⟩) zcr).trans fcr0
    replace fcr1 : W2.frozen? ⟨w.heap.size + 1, 1, none⟩ = false := (hb_W2.frozen (p := ⟨w.heap.size + 1, 1, none⟩) zcr).trans fcr1
    replace fcr2 : W2.frozen? ⟨w.heap.size + 1, 2, none⟩ = false := (hb_W2.frozen (p := ⟨w.heap.size + 1, 2, none⟩) zcr).trans fcr2
    replace fcr3 : W2.frozen? ⟨w.heap.size + 1, 3, none⟩ = false := (hb_W2.frozen (p := ⟨w.heap.size + 1, 3, none⟩) zcr).trans fcr3
    replace fcr4 : W2.frozen? ⟨w.heap.size + 1, 4, none⟩ = false := (hb_W2.frozen (p := ⟨w.heap.size + 1, 4, none⟩) zcr).trans fcr4
    replace zcr : w.heap.size + 1 < W2.heap.size := Nat.lt_of_lt_of_le zcr hb_W2.size
    replace HO := hide (own_kept HO.out hb_W2)
    replace HB := hide (HB.out.trans (hb_W2.mono HB.out.size))
    clear hb_W2
    have zck : v1.heap.size < W2.heap.size := by rw [← hW2]; simp
    have ck0 : W2.cell? ⟨v1.heap.size, 0, none⟩ = some (.slice (some ⟨g, 0, none⟩) l.length l.length) := by rw [← hW2]; simp [go_sem]
    go_wp2_with fail
    refine (soonestOf_any g 0 l.length l W2 (HO.out.lt g rfl).2 (rd_of_own HO.out rfl) hl).mono ?_
    rintro e v2 ⟨rfl, hb⟩
    replace ct0 : v2.cell? ⟨w.heap.size, 0, none⟩ = some (.slice o l.length c) := (hb.cell (p := ⟨w.heap.size, 0, none⟩) zct).trans ct0
    replace zct : w.heap.size < v2.heap.size := Nat.lt_of_lt_of_le zct hb.size
    replace cr0 : v2.cell? ⟨w.heap.size + 1, 0, none⟩ = some (.bool false) := (hb.cell (p := ⟨w.heap.size + 1, 0, none⟩) zcr).trans cr0
    replace cr1 : v2.cell? ⟨w.heap.size + 1, 1, none⟩ = some (.int .i64 0) := (hb.cell (p := ⟨w.heap.size + 1, 1, none⟩) zcr).trans cr1
    replace cr2 : v2.cell? ⟨w.heap.size + 1, 2, none⟩ = some (.int .i64 0) := (hb.cell (p := ⟨w.heap.size + 1, 2, none⟩) zcr).trans cr2
    replace cr3 : v2.cell? ⟨w.heap.size + 1, 3, none⟩ = some (.int .i64 0) := (hb.cell (p := ⟨w.heap.size + 1, 3, none⟩) zcr).trans cr3
    replace cr4 : v2.cell? ⟨w.heap.size + 1, 4, none⟩ = some (.int .i64 0) := (hb.cell (p := ⟨w.heap.size + 1, 4, none⟩) zcr).trans cr4
    replace fcr0 : v2.frozen? ⟨w.heap.size + 1, 0, none⟩ = false := (hb.frozen (p := ⟨w.heap.size + 1, 0, none⟩) zcr).trans fcr0
    replace fcr1 : v2.frozen? ⟨w.heap.size + 1, 1, none⟩ = false := (hb.frozen (p := ⟨w.heap.size + 1, 1, none⟩) zcr).trans fcr1
    replace fcr2 : v2.frozen? ⟨w.heap.size + 1, 2, none⟩ = false := (hb.frozen (p := ⟨w.heap.size + 1, 2, none⟩) zcr).trans fcr2
    replace fcr3 : v2.frozen? ⟨w.heap.size + 1, 3, none⟩ = false := (hb.frozen (p := ⟨w.heap.size + 1, 3, none⟩) zcr).trans fcr3
    replace fcr4 : v2.frozen? ⟨w.heap.size + 1, 4, none⟩ = false := (hb.frozen (p := ⟨w.heap.size + 1, 4, none⟩) zcr).trans fcr4
    replace zcr : w.heap.size + 1 < v2.heap.size := Nat.lt_of_lt_of_le zcr hb.size
    replace ck0 : v2.cell? ⟨v1.heap.size, 0, none⟩ = some (.slice (some ⟨g, 0, none⟩) l.length l.length) := (hb.cell (p := ⟨v1.heap.size, 0, none⟩) zck).trans ck0
    replace zck : v1.heap.size < v2.heap.size := Nat.lt_of_lt_of_le zck hb.size
    replace HO := hide (own_kept HO.out hb)
    replace HB := hide (HB.out.trans (hb.mono HB.out.size))
    clear hb
    clear hc hT
    obtain ⟨q, hq⟩ : ∃ q, soonL l = q := ⟨_, rfl⟩
    have HQ := hide hq
    simp only [hq]
    clear hq
    obtain ⟨W3, hW3⟩ : ∃ W, (v2.alloc (.cells #[.bool q.u, .int .i64 q.a, .int .i64 q.p, .int .i64 q.v, .int .i64 q.t] 87)) = W := ⟨_, rfl⟩
    have hb_W3 : Below v2.heap.size v2 W3 := by rw [← hW3]; exact ((Below.refl _ _).alloc (Nat.le_refl _) _)
    replace ct0 : W3.cell? ⟨w.heap.size, 0, none⟩ = some (.slice o l.length c) := (hb_W3.cell (p := ⟨w.heap.size, 0, none⟩) zct).trans ct0
    replace zct : w.heap.size < W3.heap.size := Nat.lt_of_lt_of_le zct hb_W3.size
    replace cr0 : W3.cell? ⟨w.heap.size + 1, 0, none⟩ = some (.bool false) := (hb_W3.cell (p := ⟨w.heap.size + 1, 0, none⟩) zcr).trans cr0
    replace cr1 : W3.cell? ⟨w.heap.size + 1, 1, none⟩ = some (.int .i64 0) := (hb_W3.cell (p := ⟨w.heap.size + 1, 1, none⟩) zcr).trans cr1
    replace cr2 : W3.cell? ⟨w.heap.size + 1, 2, none⟩ = some (.int .i64 0) := (hb_W3.cell (p := ⟨w.heap.size + 1, 2, none⟩) zcr).trans cr2
    replace cr3 : W3.cell? ⟨w.heap.size + 1, 3, none⟩ = some (.int .i64 0) := (hb_W3.cell (p := ⟨w.heap.size + 1, 3, none⟩) zcr).trans cr3
    replace cr4 : W3.cell? ⟨w.heap.size + 1, 4, none⟩ = some (.int .i64 0) := (hb_W3.cell (p := ⟨w.heap.size + 1, 4, none⟩) zcr).trans cr4
    replace fcr0 : W3.frozen? ⟨w.heap.size + 1, 0, none⟩ = false := (hb_W3.frozen (p := ⟨w.heap.size + 1, 0, none⟩) zcr).trans fcr0
    replace fcr1 : W3.frozen? ⟨w.heap.size + 1, 1, none⟩ = false := (hb_W3.frozen (p := ⟨w.heap.size + 1, 1, none⟩) zcr).trans fcr1
    replace fcr2 : W3.frozen? ⟨w.heap.size + 1, 2, none⟩ = false := (hb_W3.frozen (p := ⟨w.heap.size + 1, 2, none⟩) zcr).trans fcr2
    replace fcr3 : W3.frozen? ⟨w.heap.size + 1, 3, none⟩ = false := (hb_W3.frozen (p := ⟨w.heap.size + 1, 3, none⟩) zcr).trans fcr3
    replace fcr4 : W3.frozen? ⟨w.heap.size + 1, 4, none⟩ = false := (hb_W3.frozen (p := ⟨w.heap.size + 1, 4, none⟩) zcr).trans fcr4
    replace zcr : w.heap.size + 1 < W3.heap.size := Nat.lt_of_lt_of_le zcr hb_W3.size
    replace ck0 : W3.cell? ⟨v1.heap.size, 0, none⟩ = some (.slice (some ⟨g, 0, none⟩) l.length l.length) := (hb_W3.cell (p := ⟨v1.heap.size, 0, none⟩) zck).trans ck0
    replace zck : v1.heap.size < W3.heap.size := Nat.lt_of_lt_of_le zck hb_W3.size
    replace HO := hide (own_kept HO.out hb_W3)
    replace HB := hide (HB.out.trans (hb_W3.mono HB.out.size))
    clear hb_W3
    have zcq : v2.heap.size < W3.heap.size := by rw [← hW3]; simp
    have cq0 : W3.cell? ⟨v2.heap.size, 0, none⟩ = some (.bool q.u) := by rw [← hW3]; simp [go_sem]
    have cq1 : W3.cell? ⟨v2.heap.size, 1, none⟩ = some (.int .i64 q.a) := by rw [← hW3]; simp [go_sem]
    have cq2 : W3.cell? ⟨v2.heap.size, 2, none⟩ = some (.int .i64 q.p) := by rw [← hW3]; simp [go_sem]
    have cq3 : W3.cell? ⟨v2.heap.size, 3, none⟩ = some (.int .i64 q.v) := by rw [← hW3]; simp [go_sem]
    have cq4 : W3.cell? ⟨v2.heap.size, 4, none⟩ = some (.int .i64 q.t) := by rw [← hW3]; simp [go_sem]
    go_wp2_with fail
    refine (slotOf_any q W3).mono ?_
    rintro e v3 ⟨rfl, hb⟩
    replace ct0 : v3.cell? ⟨w.heap.size, 0, none⟩ = some (.slice o l.length c) := (hb.cell (p := ⟨w.heap.size, 0, none⟩) zct).trans ct0
    replace zct : w.heap.size < v3.heap.size := Nat.lt_of_lt_of_le zct hb.size
    replace cr0 : v3.cell? ⟨w.heap.size + 1, 0, none⟩ = some (.bool false) := (hb.cell (p := ⟨w.heap.size + 1, 0, none⟩) zcr).trans cr0
    replace cr1 : v3.cell? ⟨w.heap.size + 1, 1, none⟩ = some (.int .i64 0) := (hb.cell (p := ⟨w.heap.size + 1, 1, none⟩) zcr).trans cr1
    replace cr2 : v3.cell? ⟨w.heap.size + 1, 2, none⟩ = some (.int .i64 0) := (hb.cell (p := ⟨w.heap.size + 1, 2, none⟩) zcr).trans cr2
    replace cr3 : v3.cell? ⟨w.heap.size + 1, 3, none⟩ = some (.int .i64 0) := (hb.cell (p := ⟨w.heap.size + 1, 3, none⟩) zcr).trans cr3
    replace cr4 : v3.cell? ⟨w.heap.size + 1, 4, none⟩ = some (.int .i64 0) := (hb.cell (p := ⟨w.heap.size + 1, 4, none⟩) zcr).trans cr4
    replace fcr0 : v3.frozen? ⟨w.heap.size + 1, 0, none⟩ = false := (hb.frozen (p := ⟨w.heap.size + 1, 0, none⟩) zcr).trans fcr0
    replace fcr1 : v3.frozen? ⟨w.heap.size + 1, 1, none⟩ = false := (hb.frozen (p := ⟨w.heap.size + 1, 1, none⟩) zcr).trans fcr1
    replace fcr2 : v3.frozen? ⟨w.heap.size + 1, 2, none⟩ = false := (hb.frozen (p := ⟨w.heap.size + 1, 2, none⟩) zcr).trans fcr2
    replace fcr3 : v3.frozen? ⟨w.heap.size + 1, 3, none⟩ = false := (hb.frozen (p := ⟨w.heap.size + 1, 3, none⟩) zcr).trans fcr3
    replace fcr4 : v3.frozen? ⟨w.heap.size + 1, 4, none⟩ = false := (hb.frozen (p := ⟨w.heap.size + 1, 4, none⟩) zcr).trans fcr4
    replace zcr : w.heap.size + 1 < v3.heap.size := Nat.lt_of_lt_of_le zcr hb.size
    replace ck0 : v3.cell? ⟨v1.heap.size, 0, none⟩ = some (.slice (some ⟨g, 0, none⟩) l.length l.length) := (hb.cell (p := ⟨v1.heap.size, 0, none⟩) zck).trans ck0
    replace zck : v1.heap.size < v3.heap.size := Nat.lt_of_lt_of_le zck hb.size
    replace cq0 : v3.cell? ⟨v2.heap.size, 0, none⟩ = some (.bool q.u) := (hb.cell (p := ⟨v2.heap.size, 0, none⟩) zcq).trans cq0
    replace cq1 : v3.cell? ⟨v2.heap.size, 1, none⟩ = some (.int .i64 q.a) := (hb.cell (p := ⟨v2.heap.size, 1, none⟩) zcq).trans cq1
    replace cq2 : v3.cell? ⟨v2.heap.size, 2, none⟩ = some (.int .i64 q.p) := (hb.cell (p := ⟨v2.heap.size, 2, none⟩) zcq).trans cq2
    replace cq3 : v3.cell? ⟨v2.heap.size, 3, none⟩ = some (.int .i64 q.v) := (hb.cell (p := ⟨v2.heap.size, 3, none⟩) zcq).trans cq3
    replace cq4 : v3.cell? ⟨v2.heap.size, 4, none⟩ = some (.int .i64 q.t) := (hb.cell (p := ⟨v2.heap.size, 4, none⟩) zcq).trans cq4
    replace zcq : v2.heap.size < v3.heap.size := Nat.lt_of_lt_of_le zcq hb.size
    replace HO := hide (own_kept HO.out hb)
    replace HB := hide (HB.out.trans (hb.mono HB.out.size))
    clear hb
    go_wp2
    refine bodyPost_ret (v := .tuple #[slot q, .bool q.u]) (by simp [results, Try.results31, go_sem, cr0, cr1, cr2, cr3, cr4]) rfl ⟨by rw [HM.out, HQ.out], below_set5 (s := q) HB.out (by omega)⟩

theorem specSoonest_sh (v : Value) (m : List Sl) (w : World) (hR : RdT w.heap.size w v m) (hf : m.length ≤ 1048576) :
    Calls Try.prog 51 #[v] w fun e w' => e = .returned (.tuple #[slot (soonM m), .bool (soonM m).u]) ∧ Below w.heap.size w w' := by
  obtain ⟨vl, rfl, o, c, rfl, r⟩ := hR
  exact specSoonest_any o c m w r hf
theorem implSoonest_sh (v : Value) (m : List Sl) (w : World) (hR : RdT w.heap.size w v m) (hf : m.length ≤ 1048576) :
    Calls Try.prog 31 #[v] w fun e w' => e = .returned (.tuple #[slot (soonM m), .bool (soonM m).u]) ∧ Below w.heap.size w w' := by
  obtain ⟨vl, rfl, o, c, rfl, r⟩ := hR
  exact implSoonest_any o c m w r hf

end Go.Proofs.Ytiijecnhbioehaa

/- The program's plainTable; TableNew, on both sides. -/
namespace Go.Proofs.Ytiijecnhbioehaa
open Go.ChangeShapes Go.WideShapes Go.ChangeAt Go.RowKit Go.Joins
set_option linter.unusedVariables false
set_option linter.unusedSimpArgs false

set_option maxHeartbeats 8000000 in
theorem plainTable_any (b off c : Nat) (l : List Sl) (w : World) (hbl : b < w.heap.size) (hc : ∀ i, i < l.length → ∀ j, j < layS.k → w.cell? ⟨b, off + i * layS.k + j, none⟩ = (layS.cs (l.getD i layS.d))[j]?) (hl : l.length ≤ 1048576) :
    Calls Try.prog 62 #[tab (.slice (some ⟨b, off, none⟩) l.length c)] w fun e w' => ∃ g, e = .returned (tab (.slice (some ⟨g, 0, none⟩) l.length l.length)) ∧ ownS w' w.heap.size (.slice (some ⟨g, 0, none⟩) l.length l.length) l ∧ Below w.heap.size w w' := by
  obtain ⟨i0, hi, hz0, hz1, hz2⟩ := info_parts infoSlot
  have HC := hide hc
  clear hc
  obtain ⟨W0, hW0⟩ : ∃ W, ((w.alloc (.cells #[.slice (some ⟨b, off, none⟩) l.length c] 78)).alloc (.cells #[.slice none 0 0] 25)) = W := ⟨_, rfl⟩
  have hb_W0 : Below w.heap.size w W0 := by rw [← hW0]; exact (((Below.refl _ _).alloc (Nat.le_refl _) _).alloc (by simp <;> omega) _)
  have HB := hide hb_W0
  clear hb_W0
  have zct : w.heap.size < W0.heap.size := by rw [← hW0]; simp <;> omega
  have ct0 : W0.cell? ⟨w.heap.size, 0, none⟩ = some (.slice (some ⟨b, off, none⟩) l.length c) := by rw [← hW0]; simp [go_sem]
  have zcr : w.heap.size + 1 < W0.heap.size := by rw [← hW0]; simp
  have cr0 : W0.cell? ⟨w.heap.size + 1, 0, none⟩ = some (.slice none 0 0) := by rw [← hW0]; simp [go_sem]
  have fcr0 : W0.frozen? ⟨w.heap.size + 1, 0, none⟩ = false := by rw [← hW0]; simp [go_sem]
  have zcr0 := zcr
  have hw00 : w.heap.size ≤ W0.heap.size := HB.out.size
  go_enter Try.func62, Try.ntmps62
  go_wp2_with (at_make; refine wpList_make_full _ rfl _ _ 23 rfl W0.heap.size 35 i0 (slot sl0) 5 Try.underlying23 hi hz0 hz1 _ _ _ _ l.length rfl rfl rfl rfl ?b2 ?b3 ?b4 ?_)
  case b2 => rw [hz2]; omega
  case b3 => unfold maxLen; omega
  case b4 => simp
  intro w1 hown hgrow
  have hb : Below W0.heap.size W0 w1 := (Below.refl _ _).grown hgrow (Nat.le_refl _) (fun k h => by cases h)
  have HBg := hide hb
  have HO : Hid (w1.ownsRow W0.heap.size 35 5 (.slice (some ⟨W0.heap.size, 0, none⟩) l.length l.length) l.length ((fillL layS l 0).flatMap layS.cs)) := by unfold Hid; rw [fillL_zero, ← made_flat layS (slot sl0) rfl]; exact hown
  have zg : W0.heap.size < w1.heap.size := (hown.lt _ rfl).2
  clear hown hgrow
  replace ct0 : w1.cell? ⟨w.heap.size, 0, none⟩ = some (.slice (some ⟨b, off, none⟩) l.length c) := (hb.cell (p := ⟨w.heap.size, 0, none⟩) zct).trans ct0
  replace zct : w.heap.size < w1.heap.size := Nat.lt_of_lt_of_le zct hb.size
  replace cr0 : w1.cell? ⟨w.heap.size + 1, 0, none⟩ = some (.slice none 0 0) := (hb.cell (p := ⟨w.heap.size + 1, 0, none⟩) zcr).trans cr0
  replace fcr0 : w1.frozen? ⟨w.heap.size + 1, 0, none⟩ = false := (hb.frozen (p := ⟨w.heap.size + 1, 0, none⟩) zcr).trans fcr0
  replace zcr : w.heap.size + 1 < w1.heap.size := Nat.lt_of_lt_of_le zcr hb.size
  replace HB := hide (HB.out.trans (hb.mono HB.out.size))
  clear hb
  obtain ⟨W2, hW2⟩ : ∃ W, (w1.alloc (.cells #[.slice (some ⟨W0.heap.size, 0, none⟩) l.length l.length] 25)) = W := ⟨_, rfl⟩
  have hb_W2 : Below w1.heap.size w1 W2 := by rw [← hW2]; exact ((Below.refl _ _).alloc (Nat.le_refl _) _)
  replace ct0 : W2.cell? ⟨w.heap.size, 0, none⟩ = some (.slice (some ⟨b, off, none⟩) l.length c) := (hb_W2.cell (p := ⟨w.heap.size, 0, none⟩) zct).trans ct0
  replace zct : w.heap.size < W2.heap.size := Nat.lt_of_lt_of_le zct hb_W2.size
  replace cr0 : W2.cell? ⟨w.heap.size + 1, 0, none⟩ = some (.slice none 0 0) := (hb_W2.cell (p := ⟨w.heap.size + 1, 0, none⟩) zcr).trans cr0
  replace fcr0 : W2.frozen? ⟨w.heap.size + 1, 0, none⟩ = false := (hb_W2.frozen (p := ⟨w.heap.size + 1, 0, none⟩) zcr).trans fcr0
  replace zcr : w.heap.size + 1 < W2.heap.size := Nat.lt_of_lt_of_le zcr hb_W2.size
  replace HO := hide (own_kept HO.out hb_W2)
  replace HB := hide (HB.out.trans (hb_W2.mono HB.out.size))
  clear hb_W2
  have zcs : w1.heap.size < W2.heap.size := by rw [← hW2]; simp
  have cs0 : W2.cell? ⟨w1.heap.size, 0, none⟩ = some (.slice (some ⟨W0.heap.size, 0, none⟩) l.length l.length) := by rw [← hW2]; simp [go_sem]
  have b3 : Hid (W2.heap[w1.heap.size]? = some (.cells #[.slice (some ⟨W0.heap.size, 0, none⟩) l.length l.length] 25 (0, 0))) := by rw [← hW2]; exact World.alloc_heap_new w1 _
  have bR : Hid (W2.heap[w.heap.size + 1]? = some (.cells #[.slice none 0 0] 25 (0, 0))) := by
    have h := World.alloc_heap_new (w.alloc (.cells #[.slice (some ⟨b, off, none⟩) l.length c] 78)) (.cells #[.slice none 0 0] 25)
    rw [hW0, World.size_alloc] at h
    exact ((by rw [← hW2]; exact (Below.heap_alloc _ _ _ (by omega)) : W2.heap[w.heap.size + 1]? = w1.heap[w.heap.size + 1]?)).trans ((HBg.out.block _ zcr0).trans h)
  have zs0 := zcs
  go_wp2
  go_loopw [14] (fun i wr => ∃ k : Nat, k ≤ l.length ∧ i = .int .i64 k ∧ Hid (wr.ownsRow W0.heap.size 35 5 (.slice (some ⟨W0.heap.size, 0, none⟩) l.length l.length) l.length ((fillL layS l k).flatMap layS.cs)) ∧ Hid (wr.heap[w.heap.size + 1]? = some (.cells #[.slice none 0 0] 25 (0, 0))) ∧ Hid (wr.heap[w1.heap.size]? = some (.cells #[.slice (some ⟨W0.heap.size, 0, none⟩) l.length l.length] 25 (0, 0))) ∧ Hid (Below w.heap.size w wr) ∧ w1.heap.size < wr.heap.size)
    (fun i _ => l.length - (intOf i).toNat)
  case atStart => exact ⟨0, Nat.zero_le _, rfl, HO, bR, b3, HB, zcs⟩
  case round =>
    clear HO bR b3 HB HBg ct0 cr0 fcr0 cs0 hW2 hW0 zct zcr zcs
    obtain ⟨k, hk, rfl, HO, HR, HT, HBr, hsz⟩ := hrel
    by_cases hlt : k < l.length
    · obtain ⟨s, hxy⟩ : ∃ s, l.getD k sl0 = s := ⟨_, rfl⟩
      have hcx := RdL.slot (C := w.heap.size) HC.out k hlt
      rw [hxy] at hcx
      have e0 := (HBr.out.cell (p := ⟨b, off + k * 5, none⟩) hbl).trans hcx.1
      have e1 := (HBr.out.cell (p := ⟨b, off + k * 5 + 1, none⟩) hbl).trans hcx.2.1
      have e2 := (HBr.out.cell (p := ⟨b, off + k * 5 + 2, none⟩) hbl).trans hcx.2.2.1
      have e3 := (HBr.out.cell (p := ⟨b, off + k * 5 + 3, none⟩) hbl).trans hcx.2.2.2.1
      have e4 := (HBr.out.cell (p := ⟨b, off + k * 5 + 4, none⟩) hbl).trans hcx.2.2.2.2
      have hk' : (k : Int) < (l.length : Int) := by omega
      have HX := hide hxy
      clear hcx hxy
      obtain ⟨W5, hW5⟩ : ∃ W, wr.alloc (.cells (slotCells s) 87) = W := ⟨_, rfl⟩
      have hb5 : Below wr.heap.size wr W5 := by rw [← hW5]; exact (Below.refl _ _).alloc (Nat.le_refl _) _
      have hz5 : wr.heap.size < W5.heap.size := by rw [← hW5]; simp
      have s0 : W5.cell? ⟨wr.heap.size, 0, none⟩ = some (.bool s.u) := by rw [← hW5]; simp [go_sem]
      have s1 : W5.cell? ⟨wr.heap.size, 1, none⟩ = some (.int .i64 s.a) := by rw [← hW5]; simp [go_sem]
      have s2 : W5.cell? ⟨wr.heap.size, 2, none⟩ = some (.int .i64 s.p) := by rw [← hW5]; simp [go_sem]
      have s3 : W5.cell? ⟨wr.heap.size, 3, none⟩ = some (.int .i64 s.v) := by rw [← hW5]; simp [go_sem]
      have s4 : W5.cell? ⟨wr.heap.size, 4, none⟩ = some (.int .i64 s.t) := by rw [← hW5]; simp [go_sem]
      have t3 : W5.cell? ⟨w1.heap.size, 0, none⟩ = some (.slice (some ⟨W0.heap.size, 0, none⟩) l.length l.length) := (hb5.cell (p := ⟨w1.heap.size, 0, none⟩) hsz).trans (block_cell1 HT.out 0 _ rfl)
      have zt3 : w1.heap.size < W5.heap.size := Nat.lt_of_lt_of_le hsz hb5.size
      have Hb5 := hide hb5
      have hown5 := own_kept HO.out hb5
      have hso := slotOf_any s W5.drew
      have hln : ((fillL layS l k).flatMap layS.cs).length = l.length * 5 := by rw [flat_length, fillL_length layS l k hk]; rfl
      have Hown5 : Hid (W5.ownsRow W0.heap.size 35 5 (.slice (some ⟨W0.heap.size, 0, none⟩) l.length l.length) l.length ((fillL layS l k).flatMap layS.cs)) := hown5
      clear hown5 hb5
      go_wp2
      first | (go_region_with (first | (go_at_call 64; refine hso.mono ?_; rintro e w6 ⟨rfl, hb⟩; replace hb : Below W5.heap.size W5 w6 := (Below.drew (Below.refl _ _)).trans hb; have t36 := (hb.cell (p := ⟨w1.heap.size, 0, none⟩) zt3).trans t3; have s60 := (hb.cell (p := ⟨wr.heap.size, 0, none⟩) hz5).trans s0; have s61 := (hb.cell (p := ⟨wr.heap.size, 1, none⟩) hz5).trans s1; have s62 := (hb.cell (p := ⟨wr.heap.size, 2, none⟩) hz5).trans s2; have s63 := (hb.cell (p := ⟨wr.heap.size, 3, none⟩) hz5).trans s3; have s64 := (hb.cell (p := ⟨wr.heap.size, 4, none⟩) hz5).trans s4; have ho6 := own_kept Hown5.out hb; obtain ⟨u0, hu0⟩ : ∃ u, w6.cell? ⟨W0.heap.size, k * 5, none⟩ = some u := ⟨_, (ho6.cellAt (k * 5) (by omega)).trans (List.getElem?_eq_getElem (by omega))⟩; have hf0 := ho6.frozenAt (k * 5); obtain ⟨u1, hu1⟩ : ∃ u, w6.cell? ⟨W0.heap.size, k * 5 + 1, none⟩ = some u := ⟨_, (ho6.cellAt (k * 5 + 1) (by omega)).trans (List.getElem?_eq_getElem (by omega))⟩; have hf1 := ho6.frozenAt (k * 5 + 1); obtain ⟨u2, hu2⟩ : ∃ u, w6.cell? ⟨W0.heap.size, k * 5 + 2, none⟩ = some u := ⟨_, (ho6.cellAt (k * 5 + 2) (by omega)).trans (List.getElem?_eq_getElem (by omega))⟩; have hf2 := ho6.frozenAt (k * 5 + 2); obtain ⟨u3, hu3⟩ : ∃ u, w6.cell? ⟨W0.heap.size, k * 5 + 3, none⟩ = some u := ⟨_, (ho6.cellAt (k * 5 + 3) (by omega)).trans (List.getElem?_eq_getElem (by omega))⟩; have hf3 := ho6.frozenAt (k * 5 + 3); obtain ⟨u4, hu4⟩ : ∃ u, w6.cell? ⟨W0.heap.size, k * 5 + 4, none⟩ = some u := ⟨_, (ho6.cellAt (k * 5 + 4) (by omega)).trans (List.getElem?_eq_getElem (by omega))⟩; have hf4 := ho6.frozenAt (k * 5 + 4); have Hb6 := hide hb; have HO6 := hide ho6; clear hb ho6))) | fail
      all_goals have HR6 := hide (stored5 (k := k) s (Nat.le_refl _) HO6.out (Below.refl W0.heap.size w6))
      all_goals have HX2 := hide (show (fillL layS l k).set k s = fillL layS l (k + 1) by rw [← HX.out]; exact fillL_set layS l k hlt)
      all_goals have Hb7 := hide (Hb5.out.trans (Hb6.out.mono Hb5.out.size))
      all_goals go_wp2
      all_goals go_roundw
      all_goals first | (simp [intOf]; omega; done) | exact ⟨k + 1, hlt, by go_num, (by have h := HR6.out.1; rw [HX2.out] at h; exact h), (HR6.out.2.block _ zcr0).trans ((Hb7.out.block _ (by omega)).trans HR.out), ((((((Below.heap_setCell _ _ _ _ (by simp; omega)).trans (Below.heap_setCell _ _ _ _ (by simp; omega))).trans (Below.heap_setCell _ _ _ _ (by simp; omega))).trans (Below.heap_setCell _ _ _ _ (by simp; omega))).trans (Below.heap_setCell _ _ _ _ (by simp; omega))).trans ((Hb7.out.block _ hsz).trans HT.out)), HBr.out.trans ((Hb7.out.mono HBr.out.size).trans (HR6.out.2.mono hw00)), Nat.lt_of_lt_of_le hsz (Nat.le_trans Hb7.out.size HR6.out.2.size)⟩
    · have e : k = l.length := by omega
      subst e
      have hrow := HO.out
      rw [fillL_all] at hrow
      have HRow := hide hrow
      clear hrow HO
      have r1 := block_cell1 HR.out 0 _ rfl
      have f1 := frozen_of HR.out 0
      have t3 := block_cell1 HT.out 0 _ rfl
      go_wp2
      refine bodyPost_ret (v := tab (.slice (some ⟨W0.heap.size, 0, none⟩) l.length l.length)) (by simp [results, Try.results62, go_sem, r1]) rfl ⟨_, rfl, ?_, ?_⟩
      · exact own_mono (ownsRow_setCell_below HRow.out (show w.heap.size + 1 < W0.heap.size from zcr0) _) hw00
      · exact HBr.out.setCell (p := ⟨w.heap.size + 1, 0, none⟩) (by simp) _

/-- A table of so many slots, all free. -/
def newM (n : Int) : List Sl := if 1 ≤ n ∧ n ≤ 16 then List.replicate n.toNat sl0 else []
def newB (n : Int) : Bool := decide (1 ≤ n) && decide (n ≤ 16)
theorem newM_len (n : Int) : (newM n).length ≤ 16 := by
  unfold newM
  split
  · rw [List.length_replicate]; omega
  · exact Nat.zero_le _
set_option maxHeartbeats 2000000 in
theorem specTableNew_any (n : Int) (w : World) :
    Calls Try.prog 36 #[.int .i64 n] w fun e w' => ∃ v, e = .returned (.tuple #[v, .bool (newB n)]) ∧ InT w.heap.size w'.heap.size w' v (newM n) ∧ Below w.heap.size w w' := by
  obtain ⟨i0, hi, hz0, hz1, hz2⟩ := info_parts infoSlot
  obtain ⟨W0, hW0⟩ : ∃ W, (w.alloc (.cells #[.slice none 0 0] 25)) = W := ⟨_, rfl⟩
  have hb_W0 : Below w.heap.size w W0 := by rw [← hW0]; exact ((Below.refl _ _).alloc (Nat.le_refl _) _)
  have HB := hide hb_W0
  clear hb_W0
  have zcr : w.heap.size < W0.heap.size := by rw [← hW0]; simp
  have cr0 : W0.cell? ⟨w.heap.size, 0, none⟩ = some (.slice none 0 0) := by rw [← hW0]; simp [go_sem]
  have fcr0 : W0.frozen? ⟨w.heap.size, 0, none⟩ = false := by rw [← hW0]; simp [go_sem]
  by_cases hn : 1 ≤ n ∧ n ≤ 16
  · obtain ⟨m, rfl⟩ : ∃ m : Nat, n = m := ⟨n.toNat, by omega⟩
    have HM := hide (show newM (m : Int) = List.replicate m sl0 by unfold newM; rw [if_pos hn]; simp)
    have HN := hide (show newB (m : Int) = true by simp [newB]; omega)
    have i1 : ¬ ((m : Int) < 1) := by omega
    have i2 : ¬ (16 < (m : Int)) := by omega
    have zcr0 := zcr
    have hw00 := HB.out.size
    go_enter Try.func36, Try.ntmps36
    go_wp2_with (at_make; refine wpList_make_full _ rfl _ _ 23 rfl W0.heap.size 35 i0 (slot sl0) 5 Try.underlying23 hi hz0 hz1 _ _ _ _ m rfl rfl rfl rfl ?b2 ?b3 ?b4 ?_)
    case b2 => omega
    case b3 => unfold maxLen; omega
    intro w1 hown hgrow
    have hb : Below W0.heap.size W0 w1 := (Below.refl _ _).grown hgrow (Nat.le_refl _) (fun k h => by cases h)
    have HO : Hid (ownS w1 W0.heap.size (.slice (some ⟨W0.heap.size, 0, none⟩) m m) (List.replicate m sl0)) := by
      unfold Hid ownS ownL
      rw [List.length_replicate]
      show w1.ownsRow _ _ _ _ m ((List.replicate m layS.d).flatMap layS.cs)
      rw [← made_flat layS (slot sl0) rfl]; exact hown
    have c0 := cr0
    clear hown hgrow c0
    replace cr0 : w1.cell? ⟨w.heap.size, 0, none⟩ = some (.slice none 0 0) := (hb.cell (p := ⟨w.heap.size, 0, none⟩) zcr).trans cr0
    replace fcr0 : w1.frozen? ⟨w.heap.size, 0, none⟩ = false := (hb.frozen (p := ⟨w.heap.size, 0, none⟩) zcr).trans fcr0
    replace zcr : w.heap.size < w1.heap.size := Nat.lt_of_lt_of_le zcr hb.size
    replace HB := hide (HB.out.trans (hb.mono HB.out.size))
    clear hb
    go_wp2
    refine bodyPost_ret (v := .tuple #[tab (.slice (some ⟨W0.heap.size, 0, none⟩) m m), .bool true]) (by simp [results, Try.results36, go_sem, cr0]) rfl ⟨_, by rw [HN.out], ⟨_, rfl, ?_⟩, ?_⟩
    · rw [HM.out]; exact InRow.of (own_mono (ownsRow_setCell_below HO.out (show w.heap.size < W0.heap.size from zcr0) _) hw00)
    · exact HB.out.setCell (p := ⟨w.heap.size, 0, none⟩) (Nat.le_refl _) _
  · skip
    have HM := hide (show newM n = [] by unfold newM; rw [if_neg hn])
    have HN := hide (show newB n = false by simp [newB]; omega)
    by_cases h1 : n < 1
    · skip
      clear hn
      go_enter Try.func36, Try.ntmps36
      go_wp2
      refine bodyPost_ret (v := .tuple #[tab (.slice none 0 0), .bool false]) (by simp [results, Try.results36, go_sem, cr0]) rfl ⟨_, by rw [HN.out], ⟨_, rfl, ?_⟩, ?_⟩
      · rw [HM.out]; exact InRow.of (World.ownsRow_nil _ _ _ _)
      · exact HB.out.setCell (p := ⟨w.heap.size, 0, none⟩) (Nat.le_refl _) _
    · have h2 : 16 < n := by omega
      clear hn
      go_enter Try.func36, Try.ntmps36
      go_wp2
      refine bodyPost_ret (v := .tuple #[tab (.slice none 0 0), .bool false]) (by simp [results, Try.results36, go_sem, cr0]) rfl ⟨_, by rw [HN.out], ⟨_, rfl, ?_⟩, ?_⟩
      · rw [HM.out]; exact InRow.of (World.ownsRow_nil _ _ _ _)
      · exact HB.out.setCell (p := ⟨w.heap.size, 0, none⟩) (Nat.le_refl _) _

set_option maxHeartbeats 2000000 in
theorem implTableNew_any (n : Int) (w : World) :
    Calls Try.prog 37 #[.int .i64 n] w fun e w' => ∃ v, e = .returned (.tuple #[v, .bool (newB n)]) ∧ InT w.heap.size w'.heap.size w' v (newM n) ∧ Below w.heap.size w w' := by
  obtain ⟨W0, hW0⟩ : ∃ W, (w.alloc (.cells #[.slice none 0 0] 25)) = W := ⟨_, rfl⟩
  have hb_W0 : Below w.heap.size w W0 := by rw [← hW0]; exact ((Below.refl _ _).alloc (Nat.le_refl _) _)
  have HB := hide hb_W0
  clear hb_W0
  have zcr : w.heap.size < W0.heap.size := by rw [← hW0]; simp
  have cr0 : W0.cell? ⟨w.heap.size, 0, none⟩ = some (.slice none 0 0) := by rw [← hW0]; simp [go_sem]
  have fcr0 : W0.frozen? ⟨w.heap.size, 0, none⟩ = false := by rw [← hW0]; simp [go_sem]
  by_cases hn : 1 ≤ n ∧ n ≤ 16
  · obtain ⟨m, rfl⟩ : ∃ m : Nat, n = m := ⟨n.toNat, by omega⟩
    have HM := hide (show newM (m : Int) = List.replicate m sl0 by unfold newM; rw [if_pos hn]; simp)
    have HN := hide (show newB (m : Int) = true by simp [newB]; omega)
    have i1 : ¬ ((m : Int) < 1) := by omega
    have i2 : ¬ (16 < (m : Int)) := by omega
    have zcr0 := zcr
    have hw00 := HB.out.size
    have hm : m ≤ 1048576 := by omega
    go_enter Try.func37, Try.ntmps37
    go_wp2_with fail
    refine (newFlowTable_any m W0 hm).mono ?_
    rintro e v1 ⟨g, rfl, hown, hb⟩
    have HO := hide hown
    clear hown
    replace cr0 : v1.cell? ⟨w.heap.size, 0, none⟩ = some (.slice none 0 0) := (hb.cell (p := ⟨w.heap.size, 0, none⟩) zcr).trans cr0
    replace fcr0 : v1.frozen? ⟨w.heap.size, 0, none⟩ = false := (hb.frozen (p := ⟨w.heap.size, 0, none⟩) zcr).trans fcr0
    replace zcr : w.heap.size < v1.heap.size := Nat.lt_of_lt_of_le zcr hb.size
    replace HB := hide (HB.out.trans (hb.mono HB.out.size))
    clear hb
    have hpt := plainTable_any g 0 m (List.replicate m sl0) v1 (HO.out.lt g rfl).2 (rd_of_own (by have h := HO.out; unfold ownL at h; rw [List.length_replicate] at h; exact h) (by simp)) (by simp; omega)
    rw [List.length_replicate] at hpt
    have hsv : W0.heap.size ≤ v1.heap.size := by have := HO.out.lt g rfl; omega
    go_wp2_with fail
    refine (hpt).mono ?_
    rintro e v2 ⟨g2, rfl, hown2, hb⟩
    have HO2 := hide hown2
    clear hown2
    replace cr0 : v2.cell? ⟨w.heap.size, 0, none⟩ = some (.slice none 0 0) := (hb.cell (p := ⟨w.heap.size, 0, none⟩) zcr).trans cr0
    replace fcr0 : v2.frozen? ⟨w.heap.size, 0, none⟩ = false := (hb.frozen (p := ⟨w.heap.size, 0, none⟩) zcr).trans fcr0
    replace zcr : w.heap.size < v2.heap.size := Nat.lt_of_lt_of_le zcr hb.size
    replace HO := hide (own_kept HO.out hb)
    replace HB := hide (HB.out.trans (hb.mono HB.out.size))
    clear hb
    clear hpt
    go_wp2
    refine bodyPost_ret (v := .tuple #[tab (.slice (some ⟨g2, 0, none⟩) m m), .bool true]) (by simp [results, Try.results37, go_sem, cr0]) rfl ⟨_, by rw [HN.out], ⟨_, rfl, ?_⟩, ?_⟩
    · rw [HM.out]; exact InRow.of (own_mono (ownsRow_setCell_below HO2.out (show w.heap.size < v1.heap.size by omega) _) (by omega))
    · exact HB.out.setCell (p := ⟨w.heap.size, 0, none⟩) (Nat.le_refl _) _
  · skip
    have HM := hide (show newM n = [] by unfold newM; rw [if_neg hn])
    have HN := hide (show newB n = false by simp [newB]; omega)
    by_cases h1 : n < 1
    · skip
      clear hn
      go_enter Try.func37, Try.ntmps37
      go_wp2
      refine bodyPost_ret (v := .tuple #[tab (.slice none 0 0), .bool false]) (by simp [results, Try.results37, go_sem, cr0]) rfl ⟨_, by rw [HN.out], ⟨_, rfl, ?_⟩, ?_⟩
      · rw [HM.out]; exact InRow.of (World.ownsRow_nil _ _ _ _)
      · exact HB.out.setCell (p := ⟨w.heap.size, 0, none⟩) (Nat.le_refl _) _
    · have h2 : 16 < n := by omega
      clear hn
      go_enter Try.func37, Try.ntmps37
      go_wp2
      refine bodyPost_ret (v := .tuple #[tab (.slice none 0 0), .bool false]) (by simp [results, Try.results37, go_sem, cr0]) rfl ⟨_, by rw [HN.out], ⟨_, rfl, ?_⟩, ?_⟩
      · rw [HM.out]; exact InRow.of (World.ownsRow_nil _ _ _ _)
      · exact HB.out.setCell (p := ⟨w.heap.size, 0, none⟩) (Nat.le_refl _) _

end Go.Proofs.Ytiijecnhbioehaa

