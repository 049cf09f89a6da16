/- The library's SortFunc over an own row of flows. -/
import Derived.Shelf.SlSortCmp.WholeK
import Derived.Shelf.Lay
import Derived.Ground.SlsfProg
import Derived.Test.YtljogkoaaidlcaaDoorQAgentText16
import Derived.Test.YtljogkoaaidlcaaDoorQAgentText20
import Derived.Test.YtljogkoaaidlcaaDoorQAgentText05
namespace Go.Proofs.YtljogkoaaidlcaaDoor
open Go.ChangeShapes Go.WideShapes Go.ChangeAt Go.RowKit Go.Joins Go.Shelf Go.Lib Go.Sort
set_option linter.unusedVariables false
set_option linter.unusedSimpArgs false

shelf_lay_g SlLaysF0.n6 Slsf 6 at Tryd 33 as sortFlow

section
variable {α : Type} [Inhabited α]
theorem flatK_eq (v : α → Int × Int) (d : Array α) : (flatK (fun x => layF.cs (v x)) 2 d).toList = (d.toList.map v).flatMap layF.cs := by
 apply List.ext_getElem?
 intro t
 by_cases ht : t < d.size * 2
 ·have h1 := get_flatK (fun x => layF.cs (v x)) 2 d t ht
  have hs : t < (flatK (fun x => layF.cs (v x)) 2 d).size := by rw [size_flatK]; exact ht
  rw [Array.getElem?_toList, Array.getElem?_eq_getElem hs, ← getElem!_pos _ t hs, h1]
  have h2 := flat_get layF (d.toList.map v) (t / 2) (t % 2) (by simp; omega) (Nat.mod_lt _ (by decide))
  have e : t / 2 * layF.k + t % 2 = t := by show t / 2 * 2 + t % 2 = t; omega
  rw [e] at h2
  rw [h2]
  have hd : t / 2 < d.size := by omega
  have e3 : (d.toList.map v).getD (t / 2) layF.d = v d[t / 2]! := by
   rw [List.getD_eq_getElem?_getD, List.getElem?_map, Array.getElem?_toList, Array.getElem?_eq_getElem hd, getElem!_pos d (t / 2) hd]; rfl
  rw [e3]
  have h3 : t % 2 = 0 ∨ t % 2 = 1 := by omega
  rcases h3 with h | h <;> rw [h] <;> rfl
 ·rw [List.getElem?_eq_none (by simp; omega), List.getElem?_eq_none (by rw [flat_length]; simp [layF]; omega)]
theorem putCells_take (F cur : Array Value) (h : F.size ≤ cur.size) : (putCells id 0 F cur).toList.take F.size = F.toList := by
 apply List.ext_getElem?
 intro t
 by_cases ht : t < F.size
 ·rw [List.getElem?_take, if_pos ht, Array.getElem?_toList, Array.getElem?_toList]
  unfold putCells
  rw [Array.getElem?_mapIdx, Array.getElem?_eq_getElem (show t < cur.size by omega), Array.getElem?_eq_getElem ht]
  simp [ht]
 ·rw [List.getElem?_eq_none (by simp; omega), List.getElem?_eq_none (by simp; omega)]
theorem size_sortW (enc : α → List Value) (k : Nat) (w : World) (g n : Nat) (d : Array α) (os : Array Obj) : w.heap.size ≤ (sortWorldK enc k w g 0 n d os).heap.size := by
 show w.heap.size ≤ ((w.heap.modify g _) ++ os).size
 simp
theorem heap_sortW (enc : α → List Value) (k : Nat) {w : World} {g : Nat} (n : Nat) (d : Array α) (os : Array Obj) {cur : Array Value} {e : TypeId} (hg : w.heap[g]? = some (.cells cur e (0, 0))) :
  (sortWorldK enc k w g 0 n d os).heap[g]? = some (.cells (putCells id 0 (flatK enc k d) cur) e (0, 0)) := by
 have hlt := (Array.getElem?_eq_some_iff.1 hg).1
 show ((w.heap.modify g (onCells (putCells id 0 (flatK enc k d)))) ++ os)[g]? = _
 rw [Array.getElem?_append_left (by simp; exact hlt), Array.getElem?_modify, if_pos rfl, hg]
 rfl
theorem heap_sortW_other (enc : α → List Value) (k : Nat) {w : World} {g : Nat} (n : Nat) (d : Array α) (os : Array Obj) {i : Nat} (hi : i < w.heap.size) (hne : i ≠ g) :
  (sortWorldK enc k w g 0 n d os).heap[i]? = w.heap[i]? := by
 show ((w.heap.modify g (onCells (putCells id 0 (flatK enc k d)))) ++ os)[i]? = _
 rw [Array.getElem?_append_left (by simp; exact hi), Array.getElem?_modify, if_neg (fun h => hne h.symm)]
theorem stp_sortW (enc : α → List Value) (k : Nat) (w : World) (g n : Nat) (d : Array α) (os : Array Obj) : Stp g (g + 1) w (sortWorldK enc k w g 0 n d os) :=
 ⟨rfl, rfl, rfl, size_sortW enc k w g n d os, fun i hi hn => heap_sortW_other enc k n d os hi (by omega)⟩
end

/-- A flow that may be. -/
abbrev Fl : Type := { x : Int × Int // flowOkB x.1 x.2 = true }
def fl0 : Fl := ⟨(0, 0), by decide⟩
theorem ex_fl : ∀ l : List (Int × Int), (∀ x ∈ l, flowOkB x.1 x.2 = true) → ∃ m : List Fl, m.map Subtype.val = l
 | [], _ => ⟨[], rfl⟩
 | x :: l, h => by
  obtain ⟨m, hm⟩ := ex_fl l (fun y hy => h y (List.mem_cons_of_mem _ hy))
  exact ⟨⟨x, h x List.mem_cons_self⟩ :: m, by rw [List.map_cons, hm]⟩
def cfF (x y : Fl) : Int := flowCmpI x.1.1 x.1.2 y.1.1 y.1.2
theorem ltOf_cfF (x y : Fl) : ltOf cfF x y = ltF x.1 y.1 := by
 unfold ltOf cfF ltF
 rw [← flowCmp_yes x.2 y.2]
theorem swoF : SWO (ltOf cfF) where
 irrefl x := by rw [ltOf_cfF]; exact ltF_irrefl _
 trans x y z h1 h2 := by rw [ltOf_cfF] at *; exact ltF_trans h1 h2
 ntrans x y z h1 h2 := by rw [ltOf_cfF] at *; exact ltF_ntrans h1 h2
theorem isAggF (w : World) : (isAgg 48).run Tryd.prog w = .ok true w := by kernel_rfl
theorem sizeOfF (w : World) : (Go.sizeOf 48).run Tryd.prog w = .ok 2 w := by kernel_rfl

set_option maxRecDepth 100000 in
set_option maxHeartbeats 2000000 in
theorem sortFlow_any (g c base : Nat) (l : List (Int × Int)) (w : World) (hl : l.length ≤ 1048576) (hok : ∀ x ∈ l, flowOkB x.1 x.2 = true) (ho : ownL layF 48 w base (.slice (some ⟨g, 0, none⟩) l.length c) l) :
  Calls Tryd.prog 33 #[.slice (some ⟨g, 0, none⟩) l.length c, .func (.func 34) #[] #[]] w fun e w' => e = .returned (.tuple #[]) ∧ ownL layF 48 w' base (.slice (some ⟨g, 0, none⟩) l.length c) (sortF l) ∧ Stp g (g + 1) w w' := by
 letI : Inhabited Fl := ⟨fl0⟩
 obtain ⟨d, hd⟩ : ∃ d : Array Fl, d.toList.map Subtype.val = l := by
  obtain ⟨m, hm⟩ := ex_fl l hok
  exact ⟨m.toArray, hm⟩
 have hds : d.size = l.length := by rw [← hd]; simp
 have hflat := flatK_eq (Subtype.val : Fl → Int × Int) d
 rw [hd] at hflat
 have hgw := (ho.lt g rfl).2
 have hH : HoldsK (fun x : Fl => layF.cs x.1) 2 w g 0 d := fun j hj => by
  have hj2 : j < l.length * 2 := by rw [size_flatK, hds] at hj; exact hj
  refine ⟨?_, ?_⟩
  ·rw [Nat.zero_add, World.ownsRow.cellAt ho j hj2, ← hflat, Array.getElem?_toList, Array.getElem?_eq_getElem hj, getElem!_pos _ j hj]; rfl
  ·rw [Nat.zero_add]; exact World.ownsRow.frozenAt ho j
 have eg : ∀ args w, (callFunc 34 args).run Tryd.prog w = .ok (.enter 34 args) w := enters_of Tryd.func34 (by kernel_rfl) rfl
 have hcmp : CmpLays Tryd.prog 34 #[] (fun x : Fl => layF.cs x.1) 2 cfF g 0 d.size w := fun m os dk _ x y =>
  (implFlowCmpD_any x.1.1 x.1.2 y.1.1 y.1.2 _ x.2 y.2).mono fun e w' ⟨h1, h2, h3⟩ => ⟨h1, grow_of h2 h3⟩
 have hcon := AnyQ.slices_SortFunc sortFlow 2 isAggF sizeOfF (fun x : Fl => layF.cs x.1) (fun _ => rfl) (fun x v hv => by simp [layF] at hv; rcases hv with rfl | rfl <;> rfl) cfF swoF 34 #[] g 0 c d w eg hcmp hH hgw (by omega)
 rw [hds] at hcon
 refine hcon.mono ?_
 rintro e w' ⟨rfl, d', n, os, hp, hs, rfl⟩
 have hsz : d'.size = l.length := by rw [hp.1, hds]
 have hperm : d'.toList.Perm d.toList := by
  have h := hp.2.2
  rw [show d'.extract 0 l.length = d' by rw [← hsz]; simp, show d.extract 0 l.length = d by rw [← hds]; simp] at h
  exact h
 have hsrt : d'.toList.map Subtype.val = sortF l := by
  refine srt_one ?_ (sortF_srt l) ?_
  ·unfold SrtF
   rw [List.pairwise_map, List.pairwise_iff_getElem]
   intro i j hi hj hij
   have hi' : i < d'.size := by simpa using hi
   have hj' : j < d'.size := by simpa using hj
   have h := hs i j (Nat.zero_le _) hij (by rw [← hsz]; exact hj')
   rw [ltOf_cfF, getElem!_pos d' i hi', getElem!_pos d' j hj'] at h
   simpa using h
  ·refine (hperm.map _).trans ?_
   rw [hd]; exact (sortF_perm l).symm
 refine ⟨rfl, ⟨flat_length layF _, .inr ?_⟩, stp_sortW _ _ _ _ _ _ _⟩
 rcases ho.2 with ⟨hv, _⟩ | ⟨g', cap, cur, hv, hb, hc, h4, h5, h6, h7⟩
 ·cases hv
 ·injection hv with e1 e2 e3
  injection e1 with e1
  injection e1 with e1 _ _
  subst e1 e3
  have hcs : l.length * 2 ≤ cur.size := by rw [h6]; exact Nat.mul_le_mul_right _ h4
  refine ⟨g, c, _, by rw [sortF_length], hb, heap_sortW _ _ n d' os hc, by rw [sortF_length]; exact h4, h5, ?_, ?_⟩
  ·rw [← h6]; simp [putCells]
  ·have h8 := flatK_eq (Subtype.val : Fl → Int × Int) d'
   rw [hsrt] at h8
   have h9 := putCells_take (flatK (fun x : Fl => layF.cs x.1) 2 d') cur (by rw [size_flatK, hsz]; exact hcs)
   rw [size_flatK, hsz, h8] at h9
   rw [sortF_length]
   exact h9

end Go.Proofs.YtljogkoaaidlcaaDoor

