/- Several texts in one: SContest, IntsA, Ints, LInts, STwo, PairMath, SPair, SPair2, STab, STab2. -/
import Derived.Deep.RegionHeld3
import Derived.Test.YtmmhgkkcpjhiiaaDoorQPoolText14
import Derived.Test.YtmmhgkkcpjhiiaaDoorQPoolText16
import Derived.Test.YtmmhgkkcpjhiiaaDoorQPoolText03
import Derived.Test.YtmmhgkkcpjhiiaaDoorQPoolText06
/- The program's contestOf. -/
namespace Go.Proofs.YtmmhgkkcpjhiiaaDoor
open Go.ChangeShapes Go.WideShapes Go.ChangeAt Go.RowKit Go.Joins
set_option linter.unusedVariables false
set_option linter.unusedSimpArgs false

/-- Those who do not drain, with their scores. -/
def scL (k b : Int) (l : List Bk) : List Sc := (l.filter (fun x => !x.2.2)).map (fun x => (x.1, scoreI k b x.1 x.2.1))
theorem scL_snoc_no (k b : Int) (l : List Bk) (x : Bk) (h : x.2.2 = true) : scL k b (l ++ [x]) = scL k b l := by simp [scL, h]
theorem scL_snoc_yes (k b : Int) (l : List Bk) (x : Bk) (h : x.2.2 = false) : scL k b (l ++ [x]) = scL k b l ++ [(x.1, scoreI k b x.1 x.2.1)] := by simp [scL, h]
/-- The board holds just these. -/
def Holds (lb ls : List Sc) : Prop := lb.length = ls.length ∧ (∀ z, (∃ i, i < lb.length ∧ lb.getD i (0, 0) = z) ↔ z ∈ ls) ∧ Dist lb lb.length
theorem mem_getD {l : List Sc} {z : Sc} : (∃ i, i < l.length ∧ l.getD i (0, 0) = z) ↔ z ∈ l := by
 constructor
 ·rintro ⟨i, hi, rfl⟩
  rw [show l.getD i (0, 0) = l[i] by simp [hi]]
  exact List.getElem_mem hi
 ·intro h
  obtain ⟨i, hi, e⟩ := List.getElem_of_mem h
  exact ⟨i, hi, by simp [hi, e]⟩
theorem Holds.push {lb l' ls : List Sc} {x : Sc} (h : Holds lb ls) (hx : x ∉ ls) (hs : Same (lb ++ [x]) l' (lb.length + 1)) : Holds l' (ls ++ [x]) := by
 have hl : (lb ++ [x]).length = lb.length + 1 := by simp
 have hl' : l'.length = lb.length + 1 := hs.1.trans hl
 refine ⟨by rw [hl', h.1]; simp, fun z => ?_, ?_⟩
 ·rw [hl', hs.2.1 z, ← hl, mem_getD, List.mem_append, List.mem_append, ← h.2.1 z, mem_getD]
 ·rw [hl']
  refine hs.2.2 (fun i j hi hj e => ?_)
  rcases Nat.lt_or_ge i lb.length with h1 | h1 <;> rcases Nat.lt_or_ge j lb.length with h2 | h2
  ·rw [getD_snoc_lt h1, getD_snoc_lt h2] at e; exact h.2.2 i j h1 h2 e
  ·rw [getD_snoc_lt h1, show j = lb.length by omega, getD_snoc_eq] at e
   exact absurd ((h.2.1 x).1 ⟨i, h1, e⟩) hx
  ·rw [show i = lb.length by omega, getD_snoc_eq, getD_snoc_lt h2] at e
   exact absurd ((h.2.1 x).1 ⟨j, h2, e.symm⟩) hx
  ·omega
/-- Ids ascend: who comes next is not there yet. -/
theorem scL_ids {key b : Int} {l : List Bk} {z : Sc} (h : z ∈ scL key b l) : ∃ i, i < l.length ∧ (l.getD i (0, 0, false)).1 = z.1 := by
 unfold scL at h
 obtain ⟨x, hx, e⟩ := List.mem_map.1 h
 obtain ⟨i, hi, e2⟩ := List.getElem_of_mem (List.mem_filter.1 hx).1
 exact ⟨i, hi, by rw [← e]; simp [hi, e2]⟩
theorem backs_lt {l : List Bk} (h : backsOkB l = true) : ∀ j, j < l.length → ∀ i, i < j → (l.getD i (0, 0, false)).1 < (l.getD j (0, 0, false)).1 := fun j => by
 induction j with
 | zero => intro _ i hi; omega
 | succ j ih =>
  intro hj i hi
  have h1 : (l.getD j (0, 0, false)).1 < (l.getD (j + 1) (0, 0, false)).1 := by
   have := backsOkB_iff.1 h (j + 1) hj
   unfold okAt at this
   simp only [Bool.and_eq_true, Bool.or_eq_true, decide_eq_true_eq, Nat.add_sub_cancel] at this
   rcases this.2 with h0 | h0
   ·omega
   ·exact h0
  rcases Nat.lt_or_ge i j with h2 | h2
  ·exact Int.lt_trans (ih (by omega) i h2) h1
  ·rw [show i = j by omega]; exact h1
theorem sc_new {key b : Int} {l : List Bk} {j : Nat} {x y : Int} {z : Bool} {s : Int} (h : backsOkB l = true) (hj : j < l.length) (hxy : l.getD j (0, 0, false) = (x, y, z)) : (x, s) ∉ scL key b (l.take j) := fun hm => by
 obtain ⟨i, hi, e⟩ := scL_ids hm
 have hij : i < j := by simp at hi; omega
 have := backs_lt h j hj i hij
 rw [hxy] at this
 rw [show (l.take j).getD i (0, 0, false) = l.getD i (0, 0, false) by simp [List.getD_eq_getElem?_getD, List.getElem?_take, hij]] at e
 dsimp only at e this
 omega

theorem BrdV.kept {k : Nat} {v : Value} {w w' : World} {l : List Sc} (h : BrdV k v w l) (hb : Below w.heap.size w w') : BrdV k v w' l := ⟨(hb.block k h.lt).trans h.box, own_kept h.row hb⟩
theorem okAt_back {l : List Bk} {j : Nat} {x y : Int} {z : Bool} (hl : backsOkB l = true) (hj : j < l.length) (hxy : l.getD j (0, 0, false) = (x, y, z)) : backB x y = true := by
 have := backsOkB_iff.1 hl j hj
 unfold okAt at this
 rw [hxy] at this
 exact (Bool.and_eq_true_iff.1 this).1

set_option maxRecDepth 100000 in
set_option maxHeartbeats 2000000 in
theorem contestOf_any (key b : Int) (o : Option Addr) (cap : Nat) (l : List Bk) (w : World) (hR : RdK w.heap.size w o l) (hlen : l.length ≤ 1000) (hk : keyB key = true) (hbk : 0 ≤ b ∧ b < 8) (hl : backsOkB l = true) :
  Calls Tryd.prog 139 #[.int .i64 key, .int .i64 b, .slice o l.length cap] w fun e w' => ∃ k v lb, e = .returned (.iface 203 (.pointer (some ⟨k, 0, none⟩))) ∧ BrdV k v w' lb ∧ HeapP lb lb.length ∧ okD lb ∧ Holds lb (scL key b l) ∧ w.heap.size ≤ k ∧ Below w.heap.size w w' := by
 go_enter Tryd.func139, Tryd.ntmps139
 go_wp2
 go_loopw [13] (fun iv wr => ∃ (j : Nat) (v : Value) (lb : List Sc), iv = .int .i64 j ∧ j ≤ l.length ∧ BrdV w.heap.size v wr lb ∧ HeapP lb lb.length ∧ okD lb ∧ Holds lb (scL key b (l.take j)) ∧ lb.length ≤ j ∧ Below w.heap.size w wr)
  (fun iv _ => l.length - (intOf iv).toNat)
 case atStart =>
  refine ⟨0, .slice none 0 0, [], rfl, Nat.zero_le _, ⟨World.alloc_heap_new w _, World.ownsRow_nil _ _ _ _⟩, fun i h1 h2 => by simp at h2, fun i hi => by simp at hi, ⟨rfl, fun z => by simp [scL], fun i j hi => by simp at hi⟩, Nat.zero_le _, (Below.refl _ _).alloc (Nat.le_refl _) _⟩
 case round =>
  obtain ⟨j, v, lb, rfl, hj, hb, hh, ho, hhd, hlb, hBr⟩ := hrel
  by_cases hlt : j < l.length
  ·rcases hR with hR | ⟨bb, off, rfl, hbl, hcell⟩
   ·subst hR; simp at hlt
   obtain ⟨x, y, z, hxy⟩ : ∃ x y z, l.getD j (0, 0, false) = (x, y, z) := ⟨_, _, _, rfl⟩
   have hcx := RdL.back (C := w.heap.size) hcell j hlt
   rw [hxy] at hcx
   have hc0 : wr.cell? ⟨bb, off + j * 3, none⟩ = some (.int .i64 x) := (hBr.cell (p := ⟨bb, off + j * 3, none⟩) hbl).trans hcx.1
   have hc1 : wr.cell? ⟨bb, off + j * 3 + 1, none⟩ = some (.int .i64 y) := (hBr.cell (p := ⟨bb, off + j * 3 + 1, none⟩) hbl).trans hcx.2.1
   have hc2 : wr.cell? ⟨bb, off + j * 3 + 2, none⟩ = some (.bool z) := (hBr.cell (p := ⟨bb, off + j * 3 + 2, none⟩) hbl).trans hcx.2.2
   have hts := takeL_succ layK l j hlt
   rw [show l.getD j layK.d = l.getD j (0, 0, false) from rfl, hxy] at hts
   have hbb := okAt_back hl hlt hxy
   obtain ⟨i0, i1, g0, g1⟩ := backB_iff.1 hbb
   have hnew := sc_new (key := key) (b := b) (s := scoreI key b x y) hl hlt hxy
   clear hcell hcx hxy
   cases z with
   | true =>
    have HH := hide (show Holds lb (scL key b (l.take (j + 1))) by rw [hts, scL_snoc_no _ _ _ _ rfl]; exact hhd)
    have HB := hide hb
    have HBr := hide hBr
    clear hts hhd hb hBr hnew
    go_wp2
    go_roundw
    case rel => exact ⟨j + 1, v, lb, by go_num, by omega, HB.out.kept ((Below.refl _ _).alloc (Nat.le_refl _) _), hh, ho, HH.out, by omega, HBr.out.alloc HBr.out.size _⟩
    case measure => simp [intOf]; omega
   | false =>
    have hso : scoreOfI key b x y = scoreI key b x y := by rw [scoreOfI, if_pos ⟨hk, hbk, hbb⟩]
    have hsc := fun W => hso ▸ implScore_any key b x y false W
    obtain ⟨p0, p1, p2⟩ := box3 wr (.int .i64 x) (.int .i64 y) (.bool false) 70
    have hs : wr.heap.size < (wr.alloc (Obj.cells #[Value.int IntKind.i64 x, Value.int IntKind.i64 y, Value.bool false] 70)).heap.size := by simp
    have hb0 : BrdV w.heap.size v (wr.alloc (Obj.cells #[Value.int IntKind.i64 x, Value.int IntKind.i64 y, Value.bool false] 70)) lb := hb.kept ((Below.refl _ _).alloc (Nat.le_refl _) _)
    have hB0 : Below w.heap.size w (wr.alloc (Obj.cells #[Value.int IntKind.i64 x, Value.int IntKind.i64 y, Value.bool false] 70)) := hBr.alloc hBr.size _
    have HH := hide (fun l2 (h2 : Same (lb ++ [(x, scoreI key b x y)]) l2 (lb.length + 1)) => (show Holds l2 (scL key b (l.take (j + 1))) by rw [hts, scL_snoc_yes _ _ _ _ rfl]; exact hhd.push hnew h2))
    have HL := hide (fun l2 (h2 : Same (lb ++ [(x, scoreI key b x y)]) l2 (lb.length + 1)) => (show l2.length ≤ j + 1 by rw [h2.1]; simp; omega))
    clear hts hhd hnew
    go_wp2_with fail
    clear hc0 hc1 hc2
    generalize (wr.alloc (Obj.cells #[Value.int IntKind.i64 x, Value.int IntKind.i64 y, Value.bool false] 70)) = w0 at *
    have HB0 := hide hb0
    have HBB := hide hB0
    generalize hscg : scoreI key b x y = sc at *
    clear hb0 hB0 hb hBr hscg hso
    go_region_with (first | (go_at_call 144; refine (hsc _).mono ?_; rintro e w1 ⟨rfl, hb1⟩; replace hb1 : Below w0.heap.size w0 w1 := (Below.drew (Below.refl _ _)).trans hb1; have q0 := (hb1.cell (p := ⟨wr.heap.size, 0, none⟩) hs).trans p0; have q1 := (hb1.cell (p := ⟨wr.heap.size, 1, none⟩) hs).trans p1; have q2 := (hb1.cell (p := ⟨wr.heap.size, 2, none⟩) hs).trans p2) | (go_at_call 143; refine (pushH_any w.heap.size v lb x sc w1 (HB0.out.kept hb1) ho ⟨i0, by omega⟩ hh (by omega)).mono ?_; rintro e w2 ⟨rfl, g2, c2, l2, hb2, hh2, hs2, ho2, hB2⟩))
    all_goals (
     go_wp2
     go_roundw
     case rel => exact ⟨j + 1, _, l2, by go_num, by omega, hb2.v, hh2, ho2, HH.out l2 hs2, HL.out l2 hs2, (HBB.out.trans (hb1.mono HBB.out.size)).trans hB2⟩
     case measure => simp [intOf]; omega)
  ·have e : j = l.length := by omega
   subst e
   rw [List.take_of_length_le (Nat.le_refl _)] at hhd
   go_wp2
   go_ret
   exact ⟨_, v, lb, rfl, hb, hh, ho, hhd, Nat.le_refl _, hBr⟩

end Go.Proofs.YtmmhgkkcpjhiiaaDoor

/- Slices of ints: how they read; the laws' own helpers over them: eqIntS, markIntS, heldIntS. -/
namespace Go.Proofs.YtmmhgkkcpjhiiaaDoor
open Go.ChangeShapes Go.WideShapes Go.ChangeAt Go.RowKit Go.Joins
set_option linter.unusedVariables false
set_option linter.unusedSimpArgs false

def layI : Lay Int := ⟨1, fun a => [.int .i64 a], 0, fun _ => rfl⟩
abbrev RdI := RdL layI
abbrev ownI := ownL layI 3

theorem RdL.int {w : World} {b off : Nat} {l : List Int} (h : ∀ i, i < l.length → ∀ j, j < layI.k → w.cell? ⟨b, off + i * layI.k + j, none⟩ = (layI.cs (l.getD i layI.d))[j]?) (i : Nat) (hi : i < l.length) :
  w.cell? ⟨b, off + i, none⟩ = some (.int .i64 (l.getD i 0)) := by
 have := h i hi 0 (by decide)
 rw [show layI.k = 1 from rfl, Nat.mul_one, Nat.add_zero] at this
 exact this

theorem infoInt : (Tryd.prog.info? 3).map (fun i => (i.zero, i.size, i.bytes)) = some (some (.int .i64 0), 1, 8) := by kernel_rfl
set_option maxHeartbeats 1000000 in
theorem eqIntS_same (o1 o2 : Option Addr) (c1 c2 : Nat) (l : List Int) (w : World) (h1 : RdI w.heap.size w o1 l) (h2 : RdI w.heap.size w o2 l) (hl : l.length ≤ 1048576) :
  Calls Tryd.prog 91 #[.slice o1 l.length c1, .slice o2 l.length c2] w fun e w' => e = .returned (.bool true) ∧ Below w.heap.size w w' := by
 go_enter Tryd.func91, Tryd.ntmps91
 go_wp2
 go_loopw [5] (fun i wr => ∃ k : Nat, k ≤ l.length ∧ i = .int .i64 k ∧ Below w.heap.size w wr)
  (fun i _ => l.length - (intOf i).toNat)
 case atStart => exact ⟨0, Nat.zero_le _, rfl, Below.refl _ _⟩
 case round =>
  obtain ⟨k, hk, rfl, hBr⟩ := hrel
  by_cases hlt : k < l.length
  ·rcases h1 with h1 | ⟨b1, off1, rfl, hb1, hcell1⟩
   ·subst h1; simp at hlt
   rcases h2 with h2 | ⟨b2, off2, rfl, hb2, hcell2⟩
   ·subst h2; simp at hlt
   have hc1 : wr.cell? ⟨b1, off1 + k, none⟩ = some (.int .i64 (l.getD k 0)) := (hBr.cell (p := ⟨b1, off1 + k, none⟩) hb1).trans (RdL.int hcell1 k hlt)
   have hc2 : wr.cell? ⟨b2, off2 + k, none⟩ = some (.int .i64 (l.getD k 0)) := (hBr.cell (p := ⟨b2, off2 + k, none⟩) hb2).trans (RdL.int hcell2 k hlt)
   have HB := hide hBr
   clear hcell1 hcell2 hBr
   have i1 : (k : Int) < (l.length : Int) := by omega
   generalize l.getD k 0 = x at *
   go_wp2
   go_quiet (fail)
   go_wp2
   go_roundw
   case rel => exact ⟨k + 1, by omega, by go_num, below_drewN HB.out _⟩
   case measure => simp [intOf]; omega
  ·have e : k = l.length := by omega
   subst e
   go_wp2
   go_ret
   exact ⟨rfl, hBr⟩

def markI (k : Int) (n : Nat) : List Int := (List.range n).map (fun (i : Nat) => k + (i : Int))
theorem markI_length (k : Int) (n : Nat) : (markI k n).length = n := by simp [markI]
def markITo (l : List Int) (k : Int) (i : Nat) : List Int := markI k i ++ l.drop i
theorem markITo_zero (l : List Int) (k : Int) : markITo l k 0 = l := by simp [markITo, markI]
theorem markITo_all (l : List Int) (k : Int) : markITo l k l.length = markI k l.length := by simp [markITo]
theorem markITo_length (l : List Int) (k : Int) (i : Nat) (h : i ≤ l.length) : (markITo l k i).length = l.length := by simp [markITo, markI]; omega
theorem markITo_set (l : List Int) (k : Int) (i : Nat) (h : i < l.length) : ((markITo l k i).flatMap layI.cs).set i (.int .i64 (k + (i : Int))) = (markITo l k (i + 1)).flatMap layI.cs := by
 rw [flat_set1 layI rfl (a := k + (i : Int)) rfl]
 congr 1
 have e2 : (markI k i).length = i := markI_length k i
 unfold markITo
 rw [List.drop_eq_getElem_cons h, List.set_append_right _ _ (by omega), e2, Nat.sub_self, List.set_cons_zero]
 have e3 : markI k (i + 1) = markI k i ++ [k + (i : Int)] := by simp [markI, List.range_succ]
 rw [e3, List.append_assoc]
 rfl
theorem markI_step {w wr : World} {base g cap : Nat} {l : List Int} {k : Int} {i : Nat} (hi : i < l.length) (hown : wr.ownsRow base 3 1 (.slice (some ⟨g, 0, none⟩) l.length cap) l.length ((markITo l k i).flatMap layI.cs))
  (hg : w.grownBy wr (some g)) : (wr.setCell ⟨g, i, none⟩ (.int .i64 (k + (i : Int)))).ownsRow base 3 1 (.slice (some ⟨g, 0, none⟩) l.length cap) l.length ((markITo l k (i + 1)).flatMap layI.cs) ∧
   w.grownBy (wr.setCell ⟨g, i, none⟩ (.int .i64 (k + (i : Int)))) (some g) := by
 have h := hown.stored i (.int .i64 (k + (i : Int)))
 rw [markITo_set l k i hi] at h
 exact ⟨h.1, ⟨hg.os, hg.tape, hg.output, by have := h.2.size; have := hg.size; omega, fun j hj hne => (h.2.block j (Nat.lt_of_lt_of_le hj hg.size) hne).trans (hg.block j hj hne)⟩⟩

set_option maxHeartbeats 1000000 in
theorem markIntS_any (base : Nat) (v : Value) (l : List Int) (k : Int) (w : World) (hv : ownI w base v l) (h0 : 0 ≤ k) (h1 : k ≤ 1073741824) (hlen : l.length ≤ 1048576) :
  Calls Tryd.prog 92 #[v, .int .i64 k] w fun e w' => e = .returned (.int .i64 (k + l.length)) ∧ ownI w' base v (markI k l.length) ∧ w.grownBy w' v.ownBlock := by
 rcases hv.2 with ⟨rfl, h2⟩ | ⟨g, cap, cur, rfl, hg, _⟩
 ·have e : l = [] := List.eq_nil_of_length_eq_zero h2
  subst e
  go_enter Tryd.func92, Tryd.ntmps92
  go_wp2
  refine wp_loop_rounds 1 ?_
  rw [rounds_succ]
  go_wp2
  go_ret
  exact ⟨by simp, by simpa [markI] using hv, World.grownBy.refl _ _⟩
 ·go_enter Tryd.func92, Tryd.ntmps92
  go_wp2
  have hv0 : w.ownsRow base 3 1 (.slice (some ⟨g, 0, none⟩) l.length cap) l.length ((markITo l k 0).flatMap layI.cs) := by rw [markITo_zero]; exact hv
  go_loopw [1, 5] (fun m j wr => ∃ i : Nat, i ≤ l.length ∧ j = .int .i64 i ∧ m = .int .i64 (k + (i : Int)) ∧ wr.ownsRow base 3 1 (.slice (some ⟨g, 0, none⟩) l.length cap) l.length ((markITo l k i).flatMap layI.cs) ∧ w.grownBy wr (some g))
   (fun _ j _ => l.length - (intOf j).toNat)
  case atStart => exact ⟨0, Nat.zero_le _, rfl, by simp, hv0, World.grownBy.refl _ _⟩
  case round =>
   obtain ⟨i, hi, rfl, rfl, hown, hgr⟩ := hrel
   by_cases hlt : i < l.length
   ·have hcl := hown.cellAt i (by omega)
    have hfr := hown.frozenAt i
    have hln : ((markITo l k i).flatMap layI.cs).length = l.length := by rw [flat_length, markITo_length l k i hi]; exact Nat.mul_one _
    obtain ⟨u, hu⟩ : ∃ u, wr.cell? ⟨g, i, none⟩ = some u := ⟨_, hcl.trans (List.getElem?_eq_getElem (by omega))⟩
    have R := hide (markI_step hlt hown hgr)
    clear hcl hown hgr hv hv0 hln
    go_wp2
    go_roundw
    case rel => exact ⟨i + 1, by omega, by go_num, by go_num, R.out.1, R.out.2⟩
    case measure => simp [intOf]; omega
   ·have e : i = l.length := by omega
    subst e
    rw [markITo_all] at hown
    have HO := hide hown
    clear hown
    go_wp2
    go_ret
    exact ⟨rfl, (by have := HO.out; unfold ownI ownL; rw [markI_length]; exact this), hgr⟩

end Go.Proofs.YtmmhgkkcpjhiiaaDoor

/- Slices of ints and slices of these: how they read; the laws' own helpers over them: szIntS, szIntSS, toIntS, toIntSS, eqIntS, eqIntSS. -/
namespace Go.Proofs.YtmmhgkkcpjhiiaaDoor
open Go.ChangeShapes Go.WideShapes Go.ChangeAt Go.RowKit Go.Joins
set_option linter.unusedVariables false
set_option linter.unusedSimpArgs false

/-- A slice's head: where it begins, its length, its capacity. -/
abbrev Hd := Option Addr × Nat × Nat
def layH : Lay Hd := ⟨1, fun a => [.slice a.1 a.2.1 a.2.2], (none, 0, 0), fun _ => rfl⟩

theorem RdL.head {w : World} {b off : Nat} {l : List Hd} (h : ∀ i, i < l.length → ∀ j, j < layH.k → w.cell? ⟨b, off + i * layH.k + j, none⟩ = (layH.cs (l.getD i layH.d))[j]?) (i : Nat) (hi : i < l.length) :
  w.cell? ⟨b, off + i, none⟩ = some (.slice (l.getD i (none, 0, 0)).1 (l.getD i (none, 0, 0)).2.1 (l.getD i (none, 0, 0)).2.2) := by
 have := h i hi 0 (by decide)
 rw [show layH.k = 1 from rfl, Nat.mul_one, Nat.add_zero] at this
 exact this

/-- As RdL, in a block from lo on. -/
def RdLo {α : Type} (L : Lay α) (lo C : Nat) (w : World) (o : Option Addr) (l : List α) : Prop :=
 l = [] ∨ ∃ b off, o = some ⟨b, off, none⟩ ∧ lo ≤ b ∧ b < C ∧ ∀ i, i < l.length → ∀ j, j < L.k → w.cell? ⟨b, off + i * L.k + j, none⟩ = (L.cs (l.getD i L.d))[j]?
theorem RdLo.rd {α : Type} {L : Lay α} {lo C : Nat} {w : World} {o : Option Addr} {l : List α} (h : RdLo L lo C w o l) : RdL L C w o l := by
 rcases h with h | ⟨b, off, ho, _, hb, r⟩
 ·exact .inl h
 ·exact .inr ⟨b, off, ho, hb, r⟩
theorem RdLo.kept {α : Type} {L : Lay α} {lo C D : Nat} {w w' : World} {o : Option Addr} {l : List α} (h : RdLo L lo C w o l) (hb : Below D w w') (hc : C ≤ D) : RdLo L lo C w' o l := by
 rcases h with h | ⟨b, off, ho, h0, hlt, r⟩
 ·exact .inl h
 ·exact .inr ⟨b, off, ho, h0, hlt, fun i hi j hj => (hb.cell (p := ⟨b, off + i * L.k + j, none⟩) (Nat.lt_of_lt_of_le hlt hc)).trans (r i hi j hj)⟩
theorem RdLo.le {α : Type} {L : Lay α} {lo C D : Nat} {w : World} {o : Option Addr} {l : List α} (h : RdLo L lo C w o l) (hc : C ≤ D) : RdLo L lo D w o l := by
 rcases h with h | ⟨b, off, ho, h0, hlt, r⟩
 ·exact .inl h
 ·exact .inr ⟨b, off, ho, h0, Nat.lt_of_lt_of_le hlt hc, r⟩
theorem RdLo.put {α : Type} {L : Lay α} {lo C g j : Nat} {w : World} {o : Option Addr} {l : List α} {u : Value} (h : RdLo L lo C w o l) (hg : g < lo) : RdLo L lo C (w.setCell ⟨g, j, none⟩ u) o l := by
 rcases h with h | ⟨b, off, ho, h0, hlt, r⟩
 ·exact .inl h
 ·exact .inr ⟨b, off, ho, h0, hlt, fun i hi j' hj => (World.cell?_setCell_other w _ _ _ (by simp <;> omega)).trans (r i hi j' hj)⟩
/-- The slice of slices that begins at o reads as ll. -/
def RdLL (C : Nat) (w : World) (o : Option Addr) (ll : List (List Int)) : Prop :=
 ∃ hs : List Hd, hs.length = ll.length ∧ RdL layH C w o hs ∧ ∀ i, i < ll.length → (hs.getD i (none, 0, 0)).2.1 = (ll.getD i []).length ∧ RdI C w (hs.getD i (none, 0, 0)).1 (ll.getD i [])
theorem RdLL.kept {C D : Nat} {w w' : World} {o : Option Addr} {ll : List (List Int)} (h : RdLL C w o ll) (hb : Below D w w') (hc : C ≤ D) : RdLL C w' o ll := by
 obtain ⟨hs, hl, hr, hx⟩ := h
 exact ⟨hs, hl, hr.kept hb hc, fun i hi => ⟨(hx i hi).1, (hx i hi).2.kept hb hc⟩⟩
theorem RdLL.le {C D : Nat} {w : World} {o : Option Addr} {ll : List (List Int)} (h : RdLL C w o ll) (hc : C ≤ D) : RdLL D w o ll := by
 obtain ⟨hs, hl, hr, hx⟩ := h
 exact ⟨hs, hl, hr.le hc, fun i hi => ⟨(hx i hi).1, (hx i hi).2.le hc⟩⟩
/-- The head of row i, and how the row reads. -/
theorem RdLL.at {C : Nat} {w : World} {o : Option Addr} {ll : List (List Int)} (h : RdLL C w o ll) (hC : C ≤ w.heap.size) (i : Nat) (hi : i < ll.length) :
  ∃ b off o' c', o = some ⟨b, off, none⟩ ∧ b < w.heap.size ∧ w.cell? ⟨b, off + i, none⟩ = some (.slice o' (ll.getD i []).length c') ∧ RdI w.heap.size w o' (ll.getD i []) := by
 obtain ⟨hs, hl, hr, hx⟩ := h
 rcases hr with hr | ⟨b, off, ho, hb, r⟩
 ·subst hr; simp at hl; omega
 ·have := RdL.head r i (by omega)
  rw [(hx i hi).1] at this
  exact ⟨b, off, _, _, ho, Nat.lt_of_lt_of_le hb hC, this, (hx i hi).2.le hC⟩

theorem infoIntS : (Tryd.prog.info? 72).map (fun i => (i.zero, i.size, i.bytes)) = some (some (.slice none 0 0), 1, 24) := by kernel_rfl
theorem cellsInt2 : Tryd.prog.cellsOf 3 = 1 := by kernel_rfl
theorem cellsIntS : Tryd.prog.cellsOf 72 = 1 := by kernel_rfl

/-- Ints that came in. -/
theorem open_ints_cells {H : Type} {enc : TypeId × Value → H} {W : World} {fuel : Nat} {cs : List Value} {x : DataW H × List MemPlace} (h : DataW.trod enc Tryd.prog W 0 (fun _ => true) true fuel 72 cs = some x) :
  ∃ (o : Option Addr) (cap : Nat) (l : List Int), cs = [.slice o l.length cap] ∧ l.length ≤ maxLen ∧ RdI W.heap.size W o l := by
 refine open_list layI (by decide) Tryd.underlying72 cellsInt2 ?_ h
 intro n cs y hl hy
 obtain ⟨a, e0, _, _⟩ := DataW.trod_int Tryd.underlying3 hy
 exact ⟨a, e0⟩
/-- Rows of ints that came in. -/
theorem open_rows_cells {H : Type} {enc : TypeId × Value → H} {W : World} {fuel : Nat} {cs : List Value} {x : DataW H × List MemPlace} (h : DataW.trod enc Tryd.prog W 0 (fun _ => true) true fuel 71 cs = some x) :
  ∃ (o : Option Addr) (cap : Nat) (ll : List (List Int)), cs = [.slice o ll.length cap] ∧ ll.length ≤ maxLen ∧ RdLL W.heap.size W o ll ∧ ∀ i, i < ll.length → (ll.getD i []).length ≤ maxLen := by
 rcases Go.Deep.open_slice1 Tryd.underlying71 cellsIntS h with ⟨hcs, _⟩ | ⟨a, len, cap, m, n, V, D, Pl, hcs, _, hl, hm, hmm, _, hx⟩
 ·exact ⟨none, 0, [], hcs, Nat.zero_le _, ⟨[], rfl, .inl rfl, fun i hi => by cases hi⟩, fun i hi => by cases hi⟩
 ·have hlm : len ≤ m := by rw [hmm]; split <;> omega
  have ex : ∀ i, i < len → ∃ y : Hd × List Int, V i = .slice y.1.1 y.1.2.1 y.1.2.2 ∧ y.1.2.1 = y.2.length ∧ y.2.length ≤ maxLen ∧ RdI W.heap.size W y.1.1 y.2 := fun i hi => by
   obtain ⟨o', c', l', e, hl', hr⟩ := open_ints_cells (hx i (by omega)).2
   simp at e
   exact ⟨((o', l'.length, c'), l'), e, rfl, hl', hr⟩
  have hne : Inhabited (Hd × List Int) := ⟨((none, 0, 0), [])⟩
  obtain ⟨f, hf⟩ := Go.Deep.choose_lt ex
  have gd : ∀ i, i < len → ((List.range len).map (fun i => (f i).2)).getD i [] = (f i).2 := fun i hi => by simp [hi]
  have gh : ∀ i, i < len → ((List.range len).map (fun i => (f i).1)).getD i (none, 0, 0) = (f i).1 := fun i hi => by simp [hi]
  refine ⟨some a, cap, (List.range len).map (fun i => (f i).2), by simpa using hcs, by simp; omega, ⟨(List.range len).map (fun i => (f i).1), by simp, ?_, fun i hi => ?_⟩, fun i hi => ?_⟩
  ·by_cases h0 : len = 0
   ·left; simp [h0]
   ·right
    obtain ⟨b, off, spot⟩ := a
    have hc := (hx 0 (by omega)).1
    have hspot : spot = none := by simpa [Addr.add] using World.cell?_spot hc
    subst hspot
    have e2 : ∀ j, (⟨b, off, none⟩ : Addr).add j = ⟨b, off + j, none⟩ := fun j => by by_cases h : j = 0 <;> simp [Addr.add, h]
    refine ⟨b, off, rfl, ?_, fun i hi j hj => ?_⟩
    ·rw [e2] at hc
     rcases Nat.lt_or_ge b W.heap.size with h | h
     ·exact h
     ·simp [World.cell?, Array.getElem?_eq_none h] at hc
    ·have hi' : i < len := by simpa using hi
     have hj' : j = 0 := by have : j < 1 := hj; omega
     subst hj'
     have h1 := (hx i (by omega)).1
     rw [e2] at h1
     rw [show layH.d = (none, 0, 0) from rfl, gh i hi', show layH.k = 1 from rfl, Nat.mul_one, Nat.add_zero, h1, (hf i hi').1]
     rfl
  ·have hi' : i < len := by simpa using hi
   rw [gd i hi', gh i hi']
   exact ⟨(hf i hi').2.1, (hf i hi').2.2.2⟩
  ·have hi' : i < len := by simpa using hi
   rw [gd i hi']
   exact (hf i hi').2.2.1
end Go.Proofs.YtmmhgkkcpjhiiaaDoor

/- The laws' own helpers over ints and rows of ints: szIntS, szIntSS, toIntS, toIntSS, eqIntS, eqIntSS. -/
namespace Go.Proofs.YtmmhgkkcpjhiiaaDoor
open Go.ChangeShapes Go.WideShapes Go.ChangeAt Go.RowKit Go.Joins
set_option linter.unusedVariables false
set_option linter.unusedSimpArgs false

set_option maxHeartbeats 400000 in
theorem szIntS_any (o : Option Addr) (len cap : Nat) (n : Int) (w : World) (hl : len ≤ maxLen) (h0 : 0 ≤ n) (h1 : n ≤ 1048576) :
  Calls Tryd.prog 84 #[.slice o len cap, .int .i64 n] w fun e w' => e = .returned (.int .i64 (if n - len < 0 then -1 else n - len)) ∧ w = w' := by
 unfold maxLen at hl
 by_cases h : n - len < 0
 ·rw [if_pos h]
  go_enter Tryd.func84, Tryd.ntmps84
  go_wp2
  go_ret
  exact ⟨rfl, rfl⟩
 ·rw [if_neg h]
  go_enter Tryd.func84, Tryd.ntmps84
  go_wp2
  go_ret
  exact ⟨rfl, rfl⟩

/-- What is left behind the first k rows; below 0: -1. -/
def leftTo (ll : List (List Int)) (n : Int) : Nat → Int
 | 0 => n - ll.length
 | k + 1 => leftTo ll n k - (ll.getD k []).length
theorem leftTo_le (ll : List (List Int)) (n : Int) : ∀ k, leftTo ll n k ≤ n - ll.length
 | 0 => Int.le_refl _
 | k + 1 => by have := leftTo_le ll n k; unfold leftTo; omega
/-- All rows fit. -/
def fits (ll : List (List Int)) (n : Int) : Prop := ∀ k, k ≤ ll.length → 0 ≤ leftTo ll n k
def leftLL (ll : List (List Int)) (n : Int) : Int := leftTo ll n ll.length

set_option maxHeartbeats 1000000 in
theorem szIntSS_any (o : Option Addr) (ll : List (List Int)) (cap : Nat) (n : Int) (w : World) (hR : RdLL w.heap.size w o ll) (hl : ll.length ≤ maxLen) (hx : ∀ i, i < ll.length → (ll.getD i []).length ≤ maxLen) (h0 : 0 ≤ n) (h1 : n ≤ 1048576) :
  Calls Tryd.prog 56 #[.slice o ll.length cap, .int .i64 n] w fun e w' => (e = .returned (.int .i64 (-1)) ∨ fits ll n ∧ e = .returned (.int .i64 (leftLL ll n))) ∧ Below w.heap.size w w' := by
 have hl' := hl
 unfold maxLen at hl'
 by_cases h : n - ll.length < 0
 ·go_enter Tryd.func56, Tryd.ntmps56
  go_wp2
  go_ret
  exact ⟨.inl rfl, Below.refl _ _⟩
 ·go_enter Tryd.func56, Tryd.ntmps56
  go_wp2
  go_loopw [1, 5] (fun n' i wr => ∃ k : Nat, k ≤ ll.length ∧ i = .int .i64 k ∧ n' = .int .i64 (leftTo ll n k) ∧ (∀ j, j ≤ k → 0 ≤ leftTo ll n j) ∧ Below w.heap.size w wr)
   (fun _ i _ => ll.length - (intOf i).toNat)
  case atStart =>
   refine ⟨0, Nat.zero_le _, rfl, rfl, fun j hj => ?_, Below.refl _ _⟩
   have : j = 0 := by omega
   subst this
   show 0 ≤ n - ll.length
   omega
  case round =>
   obtain ⟨k, hk, rfl, rfl, hpos, hBr⟩ := hrel
   have hle := leftTo_le ll n k
   have hp := hpos k (Nat.le_refl _)
   by_cases hlt : k < ll.length
   ·obtain ⟨b, off, o', c', rfl, hb, hc, hr⟩ := ((hR.kept hBr (Nat.le_refl _)).le hBr.size).at (Nat.le_refl _) k hlt
    have hxk := hx k hlt
    have HS := hide (show leftTo ll n (k + 1) = leftTo ll n k - (ll.getD k []).length from rfl)
    have HP := hide hpos
    have HB := hide hBr
    have hz := fun W => szIntS_any o' (ll.getD k []).length c' (leftTo ll n k) W hxk hp (by omega)
    unfold maxLen at hxk
    clear hpos hr hBr hx
    generalize (ll.getD k []).length = q at *
    generalize hlk : leftTo ll n k = z at *
    by_cases hneg : z - q < 0
    ·rw [if_pos hneg] at hz
     go_wp2_with fail
     refine (hz _).mono ?_
     rintro e w2 ⟨rfl, rfl⟩
     go_wp2
     go_ret
     exact ⟨.inl rfl, HB.out⟩
    ·rw [if_neg hneg] at hz
     go_wp2_with fail
     refine (hz _).mono ?_
     rintro e w2 ⟨rfl, rfl⟩
     go_wp2
     go_roundw
     case rel =>
      refine ⟨k + 1, by omega, by go_num, by rw [HS.out], fun j hj => ?_, HB.out⟩
      rcases Nat.lt_succ_iff_lt_or_eq.1 (Nat.lt_succ_of_le hj) with h' | h'
      ·exact HP.out j (by omega)
      ·rw [h', HS.out]; omega
     case measure => simp [intOf]; omega
   ·have e : k = ll.length := by omega
    subst e
    have HE := hide (show leftTo ll n ll.length = leftLL ll n from rfl)
    have HF := hide (show fits ll n from hpos)
    clear hpos
    go_wp2
    go_ret
    exact ⟨.inr ⟨HF.out, ret_int HE.out⟩, hBr⟩

/-- The row of ints that is filled, at its (k+1)st store. -/
theorem fillI_step {w wr : World} {base g c : Nat} {l : List Int} {k : Nat} (hk : k < l.length) (hg : base ≤ g) (hown : wr.ownsRow w.heap.size 3 1 (.slice (some ⟨g, 0, none⟩) l.length c) l.length ((fillL layI l k).flatMap layI.cs))
  (hB : Below base w wr) : (wr.setCell ⟨g, k, none⟩ (.int .i64 (l.getD k 0))).ownsRow w.heap.size 3 1 (.slice (some ⟨g, 0, none⟩) l.length c) l.length ((fillL layI l (k + 1)).flatMap layI.cs) ∧
   Below base w (wr.setCell ⟨g, k, none⟩ (.int .i64 (l.getD k 0))) := by
 have h := (hown.stored k (.int .i64 (l.getD k 0))).1
 rw [flat_set1 layI rfl (a := l.getD k 0) rfl, show l.getD k 0 = l.getD k layI.d from rfl, fillL_set layI l k hk] at h
 exact ⟨h, hB.setCell (p := ⟨g, k, none⟩) hg _⟩

set_option maxHeartbeats 1000000 in
theorem toIntS_any (o : Option Addr) (cap : Nat) (l : List Int) (w : World) (hR : RdI w.heap.size w o l) (hlen : l.length ≤ 1048576) :
  Calls Tryd.prog 86 #[.slice o l.length cap] w fun e w' => ∃ g, e = .returned (.slice (some ⟨g, 0, none⟩) l.length l.length) ∧ ownI w' w.heap.size (.slice (some ⟨g, 0, none⟩) l.length l.length) l ∧ Below w.heap.size w w' := by
 obtain ⟨i0, hi, hz0, hz1, hz2⟩ := info_parts infoInt
 have hB : Below w.heap.size w w := Below.refl _ _
 go_enter Tryd.func86, Tryd.ntmps86
 go_wp2_with (at_make; refine wpList_make_full _ rfl _ _ 72 rfl w.heap.size 3 i0 (.int .i64 0) 1 Tryd.underlying72 hi hz0 hz1 _ _ _ _ l.length rfl rfl rfl rfl ?b2 ?b3 ?b4 ?_)
 case b2 => rw [hz2]; omega
 case b3 => unfold maxLen; omega
 case b4 => simp
 intro w1 hown hgrow
 have hB1 : Below w.heap.size w w1 := hB.grown hgrow (Nat.le_refl _) (fun k h => by cases h)
 have hown1 : w1.ownsRow w.heap.size 3 1 (.slice (some ⟨w.heap.size, 0, none⟩) l.length l.length) l.length ((fillL layI l 0).flatMap layI.cs) := by
  rw [fillL_zero, ← made_flat layI (.int .i64 0) rfl, show layI.k = 1 from rfl, Nat.mul_one]; exact hown
 clear hown hgrow hB
 go_wp2
 go_loopw [4] (fun i wr => ∃ k : Nat, k ≤ l.length ∧ i = .int .i64 k ∧ wr.ownsRow w.heap.size 3 1 (.slice (some ⟨w.heap.size, 0, none⟩) l.length l.length) l.length ((fillL layI l k).flatMap layI.cs) ∧ Below w.heap.size w wr)
  (fun i _ => l.length - (intOf i).toNat)
 case atStart => exact ⟨0, Nat.zero_le _, rfl, hown1, hB1⟩
 case round =>
  obtain ⟨k, hk, rfl, hown, hBr⟩ := hrel
  by_cases hlt : k < l.length
  ·rcases hR with hR | ⟨b, off, rfl, hbl, hcell⟩
   ·subst hR; simp at hlt
   have hc : wr.cell? ⟨b, off + k, none⟩ = some (.int .i64 (l.getD k 0)) := (hBr.cell (p := ⟨b, off + k, none⟩) hbl).trans (RdL.int hcell k hlt)
   have hln : ((fillL layI l k).flatMap layI.cs).length = l.length := by rw [flat_length, fillL_length layI l k hk]; exact Nat.mul_one _
   have hcl := hown.cellAt k (by omega)
   have hfr := hown.frozenAt k
   obtain ⟨u, hu⟩ : ∃ u, wr.cell? ⟨w.heap.size, k, none⟩ = some u := ⟨_, hcl.trans (List.getElem?_eq_getElem (by omega))⟩
   have HR := hide (fillI_step (g := w.heap.size) hlt (Nat.le_refl _) hown hBr)
   clear hown hBr hcl hB1 hown1 hln hcell
   generalize l.getD k 0 = x at *
   go_wp2
   go_roundw
   case rel => exact ⟨k + 1, by omega, by go_num, HR.out.1, HR.out.2⟩
   case measure => simp [intOf]; omega
  ·have e : k = l.length := by omega
   subst e
   rw [fillL_all] at hown
   go_wp2
   go_ret
   exact ⟨w.heap.size, rfl, hown, hBr⟩

/-- The rows that have been copied so far: the outer row's heads, and how each reads. -/
structure Rows2 (ll : List (List Int)) (k g lo : Nat) (wr : World) (base : Nat) (hs : List Hd) : Prop where
 len : hs.length = k
 own : wr.ownsRow base 72 1 (.slice (some ⟨g, 0, none⟩) ll.length ll.length) ll.length ((hs ++ List.replicate (ll.length - k) layH.d).flatMap layH.cs)
 row : ∀ i, i < k → (hs.getD i (none, 0, 0)).2.1 = (ll.getD i []).length ∧ RdLo layI lo wr.heap.size wr (hs.getD i (none, 0, 0)).1 (ll.getD i [])

theorem Rows2.kept {ll : List (List Int)} {k g lo : Nat} {wr w' : World} {base : Nat} {hs : List Hd} (h : Rows2 ll k g lo wr base hs) (hb : Below wr.heap.size wr w') : Rows2 ll k g lo w' base hs :=
 ⟨h.len, own_kept h.own hb, fun i hi => ⟨(h.row i hi).1, ((h.row i hi).2.kept hb (Nat.le_refl _)).le hb.size⟩⟩
theorem Rows2.step {ll : List (List Int)} {k g lo : Nat} {wr : World} {base : Nat} {hs : List Hd} {o : Option Addr} {c : Nat} (h : Rows2 ll k g lo wr base hs) (hk : k < ll.length) (hg : g < lo) (hr : RdLo layI lo wr.heap.size wr o (ll.getD k [])) :
  Rows2 ll (k + 1) g lo (wr.setCell ⟨g, k, none⟩ (.slice o (ll.getD k []).length c)) base (hs ++ [(o, (ll.getD k []).length, c)]) := by
 have hsz : (wr.setCell ⟨g, k, none⟩ (.slice o (ll.getD k []).length c)).heap.size = wr.heap.size := by simp
 have hlen := h.len
 refine ⟨by simp [hlen], ?_, fun i hi => ?_⟩
 ·have h1 := (h.own.stored k (.slice o (ll.getD k []).length c)).1
  rw [flat_set1 layH rfl (a := (o, (ll.getD k []).length, c)) rfl] at h1
  have e1 : ll.length - k = (ll.length - (k + 1)) + 1 := by omega
  rw [e1, List.replicate_succ, List.set_append_right _ _ (by omega), hlen, Nat.sub_self, List.set_cons_zero] at h1
  rw [List.append_assoc]
  exact h1
 ·rcases Nat.lt_succ_iff_lt_or_eq.1 hi with h' | h'
  ·have e : (hs ++ [(o, (ll.getD k []).length, c)]).getD i (none, 0, 0) = hs.getD i (none, 0, 0) := by
    rw [List.getD_eq_getElem?_getD, List.getElem?_append_left (by omega), ← List.getD_eq_getElem?_getD]
   rw [e, hsz]
   exact ⟨(h.row i h').1, (h.row i h').2.put hg⟩
  ·subst h'
   have e : (hs ++ [(o, (ll.getD i []).length, c)]).getD i (none, 0, 0) = (o, (ll.getD i []).length, c) := by
    rw [List.getD_eq_getElem?_getD, List.getElem?_append_right (by omega), hlen, Nat.sub_self]; rfl
   rw [e, hsz]
   exact ⟨rfl, hr.put hg⟩
theorem Rows2.all {ll : List (List Int)} {g lo : Nat} {wr : World} {base : Nat} {hs : List Hd} (h : Rows2 ll ll.length g lo wr base hs) : RdLL wr.heap.size wr (some ⟨g, 0, none⟩) ll := by
 have ho := h.own
 rw [Nat.sub_self, List.replicate_zero, List.append_nil] at ho
 have hl := h.len
 have ho' : ownL layH 72 wr base (.slice (some ⟨g, 0, none⟩) hs.length ll.length) hs := by
  rw [hl]; exact (by unfold ownL; rw [hl]; exact ho)
 exact ⟨hs, hl, ho'.rd, fun i hi => ⟨(h.row i hi).1, (h.row i hi).2.rd⟩⟩

set_option maxHeartbeats 1000000 in
theorem eqIntSS_same (o1 o2 : Option Addr) (c1 c2 : Nat) (ll : List (List Int)) (w : World) (h1 : RdLL w.heap.size w o1 ll) (h2 : RdLL w.heap.size w o2 ll) (hl : ll.length ≤ 1048576) (hx : ∀ i, i < ll.length → (ll.getD i []).length ≤ 1048576) :
  Calls Tryd.prog 66 #[.slice o1 ll.length c1, .slice o2 ll.length c2] w fun e w' => e = .returned (.bool true) ∧ Below w.heap.size w w' := by
 go_enter Tryd.func66, Tryd.ntmps66
 go_wp2
 go_loopw [5] (fun i wr => ∃ k : Nat, k ≤ ll.length ∧ i = .int .i64 k ∧ Below w.heap.size w wr)
  (fun i _ => ll.length - (intOf i).toNat)
 case atStart => exact ⟨0, Nat.zero_le _, rfl, Below.refl _ _⟩
 case round =>
  obtain ⟨k, hk, rfl, hBr⟩ := hrel
  by_cases hlt : k < ll.length
  ·obtain ⟨b1, off1, o1', c1', rfl, hb1, hc1, hr1⟩ := ((h1.kept hBr (Nat.le_refl _)).le hBr.size).at (Nat.le_refl _) k hlt
   obtain ⟨b2, off2, o2', c2', rfl, hb2, hc2, hr2⟩ := ((h2.kept hBr (Nat.le_refl _)).le hBr.size).at (Nat.le_refl _) k hlt
   have hxk := hx k hlt
   have HB := hide hBr
   have G1 := Grown.cell hc1 hb1
   have G2 := Grown.cell hc2 hb2
   have HE := hide (fun p : Grown wr => eqIntS_same o1' o2' c1' c2' (ll.getD k []) p.v ((hr1.kept p.b (Nat.le_refl _)).le p.b.size) ((hr2.kept p.b (Nat.le_refl _)).le p.b.size) hxk)
   clear hBr hr1 hr2 hx h1 h2 hc1 hc2
   have i1 : (k : Int) < (ll.length : Int) := by omega
   generalize ll.getD k [] = row at *
   go_wp2
   (refine wp_region_grown (by kernel_rfl) (by kernel_rfl) ?_; intro hne9; (repeat (go_big_quiet_step ((go_at_call 91; exact grown_of _ (HE.out _))))); (with_reducible refine wpQuiet_nil ?_); intro _ hw9; obtain ⟨pq, hw8⟩ := hw9; subst hw8)
   go_wp2
   go_roundw
   case rel => exact ⟨k + 1, by omega, by go_num, HB.out.trans (pq.b.mono HB.out.size)⟩
   case measure => simp [intOf]; omega
  ·have e : k = ll.length := by omega
   subst e
   go_wp2
   go_ret
   exact ⟨rfl, hBr⟩

end Go.Proofs.YtmmhgkkcpjhiiaaDoor

/- The program's twoBest. -/
namespace Go.Proofs.YtmmhgkkcpjhiiaaDoor
open Go.ChangeShapes Go.WideShapes Go.ChangeAt Go.RowKit Go.Joins
set_option linter.unusedVariables false
set_option linter.unusedSimpArgs false

set_option maxHeartbeats 400000 in
theorem bestId_any (o : Option Addr) (c C : Nat) (l : List Sc) (w : World) (hR : RdL layD C w o l) (h0 : 0 < l.length) :
  Calls Tryd.prog 176 #[.slice o l.length c] w fun e w' => e = .returned (.int .i64 (l.getD 0 (0, 0)).1) ∧ w = w' := by
 rcases hR with hR | ⟨b, off, rfl, hbl, hcell⟩
 ·subst hR; simp at h0
 have hc := RdL.sc hcell 0 h0
 clear hcell
 generalize l.getD 0 (0, 0) = x at *
 obtain ⟨x1, x2⟩ := x
 simp only [Nat.zero_mul, Nat.add_zero] at hc
 obtain ⟨c0, c1⟩ := hc
 have z : (0 : Int) < (l.length : Int) := by omega
 go_enter Tryd.func176, Tryd.ntmps176
 go_wp2
 go_ret
 exact ⟨rfl, rfl⟩

/-- What twoBest answers of a board: nothing; the first twice; the first and the first of the rest. -/
def TwoOf (lb : List Sc) (p : List Int) : Prop :=
 (lb = [] ∧ p = []) ∨ (lb.length = 1 ∧ p = [(lb.getD 0 (0, 0)).1, (lb.getD 0 (0, 0)).1]) ∨
 ∃ l2, Rest lb l2 ∧ HeapP l2 l2.length ∧ 0 < l2.length ∧ p = [(lb.getD 0 (0, 0)).1, (l2.getD 0 (0, 0)).1]

theorem ownI_lit (w : World) (base : Nat) (x y : Int) (hb : base ≤ w.heap.size) : ownI (w.alloc (.cells #[.int .i64 x, .int .i64 y] 3)) base (.slice (some ⟨w.heap.size, 0, none⟩) 2 2) [x, y] := by
 have := World.ownsRow_lit (base := base) (e := 3) (size := 1) w #[.int .i64 x, .int .i64 y] 2 hb (by unfold maxLen; omega) rfl
 exact this

set_option maxRecDepth 100000 in
set_option maxHeartbeats 2000000 in
theorem twoBest_any (k : Nat) (v : Value) (lb : List Sc) (w : World) (hb : BrdV k v w lb) (hh : HeapP lb lb.length) (ho : okD lb) (hlen : lb.length ≤ 1000) :
  Calls Tryd.prog 138 #[.iface 203 (.pointer (some ⟨k, 0, none⟩))] w fun e w' => ∃ v' p, e = .returned v' ∧ TwoOf lb p ∧ ownI w' k v' p ∧ Below k w w' := by
 have eN : ∀ args w, (callFunc 171 args).run Tryd.prog w = .ok (.enter 171 args) w := enters_of Tryd.func171 (by kernel_rfl) rfl
 have eB : ∀ args w, (callFunc 176 args).run Tryd.prog w = .ok (.enter 176 args) w := enters_of Tryd.func176 (by kernel_rfl) rfl
 obtain ⟨o, c, rfl⟩ := hb.slice
 have hc := hb.cell
 have mN := finds_val' methLen hc
 have hklt := hb.lt
 by_cases h0 : lb.length = 0
 ·have e : lb = [] := List.eq_nil_of_length_eq_zero h0
  subst e
  simp only [List.length_nil] at mN
  go_enter Tryd.func138, Tryd.ntmps138
  go_wp2_with (first | (go_at_call 171; refine (sbLen_any _ _ _ _).mono ?_; rintro e w2 ⟨rfl, rfl⟩))
  go_ret
  exact ⟨_, [], rfl, .inl ⟨rfl, rfl⟩, World.ownsRow_nil _ _ _ _, Below.refl _ _⟩
 ·have hpos : 0 < lb.length := by omega
  have hn0 : ((lb.length : Int) == 0) = false := by rw [beq_eq_false_iff_ne]; omega
  have HN0 := hide h0
  obtain ⟨g, c1, he⟩ := ownsRow_form hb.row hpos
  simp only [Value.slice.injEq] at he
  obtain ⟨rfl, _, rfl⟩ := he
  have hB : Brd k g c w lb := ⟨hb.box, hb.row⟩
  have hrd := hB.row.rd
  obtain ⟨n, hn⟩ : ∃ n, n + 1 = lb.length := ⟨lb.length - 1, by omega⟩
  have hpop := popH_any k g c lb n w hB hn ho hh (by omega)
  have hbest := bestId_any (some ⟨g, 0, none⟩) c w.heap.size lb w hrd hpos
  generalize hfst : (lb.getD 0 (0, 0)).1 = fst at hbest
  have HF := hide hfst
  clear h0 hn hfst
  go_enter Tryd.func138, Tryd.ntmps138
  go_wp2_with (first | (go_at_call 171; refine (sbLen_any _ _ _ _).mono ?_; rintro e w2 ⟨rfl, rfl⟩))
  rw [finds_val' (f := 176) ?hm hc]
  case hm => kernel_rfl
  go_wp2_with (first | (go_at_call 176; refine hbest.mono ?_; rintro e w2 ⟨rfl, rfl⟩))
  refine hpop.mono ?_
  rintro e w3 ⟨⟨v3, rfl⟩, l2, hb3, hh3, hr3, ho3, hB3⟩
  have hk3 := hb3.v.lt
  have hl2 : l2.length ≤ 1000 := by have := hr3.1; omega
  have mN3 := finds_val' methLen hb3.cell
  clear mN hpop hbest hrd hb hB hc
  by_cases h2 : l2.length = 0
  ·have e : l2 = [] := List.eq_nil_of_length_eq_zero h2
   subst e
   simp only [List.length_nil] at mN3
   have HT : Hid (TwoOf lb [fst, fst]) := .inr (.inl ⟨by have := hr3.1; simpa using this.symm, by rw [HF.out]⟩)
   have HO := hide (ownI_lit w3 k fst fst (by omega))
   have HB := hide hB3
   clear hr3 hh3 ho3 hB3 HF
   go_wp2_with (first | (go_at_call 171; refine (sbLen_any _ _ _ _).mono ?_; rintro e w2 ⟨rfl, rfl⟩))
   go_ret
   exact ⟨_, [fst, fst], rfl, HT.out, HO.out, HB.out.alloc (by omega) _⟩
  ·have hpos2 : 0 < l2.length := by omega
   have hn2 : ((l2.length : Int) == 0) = false := by rw [beq_eq_false_iff_ne]; omega
   have hc3 := hb3.cell
   have hbest2 := bestId_any (some ⟨g, 0, none⟩) c w3.heap.size l2 w3 hb3.row.rd hpos2
   have HT : Hid (TwoOf lb [fst, (l2.getD 0 (0, 0)).1]) := .inr (.inr ⟨l2, hr3, hh3, hpos2, by rw [HF.out]⟩)
   generalize (l2.getD 0 (0, 0)).1 = snd at *
   have HO := hide (ownI_lit w3 k fst snd (by omega))
   have HB := hide hB3
   clear hr3 hh3 ho3 hB3 HF h2
   go_wp2_with (first | (go_at_call 171; refine (sbLen_any _ _ _ _).mono ?_; rintro e w2 ⟨rfl, rfl⟩))
   rw [finds_val' (f := 176) ?hm2 hc3]
   case hm2 => kernel_rfl
   go_wp2_with (first | (go_at_call 176; refine hbest2.mono ?_; rintro e w2 ⟨rfl, rfl⟩))
   go_ret
   exact ⟨_, [fst, snd], rfl, HT.out, HO.out, HB.out.alloc (by omega) _⟩

end Go.Proofs.YtmmhgkkcpjhiiaaDoor

/- The two best: as the model finds them, and as the heap tells them. -/
namespace Go.Proofs.YtmmhgkkcpjhiiaaDoor
open Go.ChangeShapes Go.WideShapes Go.ChangeAt Go.RowKit Go.Joins
set_option linter.unusedVariables false
set_option linter.unusedSimpArgs false

/-- What one more does to the best and the next. -/
def pickStep (p : Option Sc × Option Sc) (x : Sc) : Option Sc × Option Sc :=
 match p with
 | (none, t) => (some x, none)
 | (some o, t) => if o.2 < x.2 then (some x, some o) else
  match t with
  | none => (some o, some x)
  | some u => if u.2 < x.2 then (some o, some x) else (some o, some u)
def pick (l : List Sc) : Option Sc × Option Sc := l.foldl pickStep (none, none)
theorem pick_snoc (l : List Sc) (x : Sc) : pick (l ++ [x]) = pickStep (pick l) x := by simp [pick]
def pairL (p : Option Sc × Option Sc) : List Int :=
 match p with
 | (none, _) => []
 | (some o, none) => [o.1, o.1]
 | (some o, some t) => [o.1, t.1]
/-- The best and the next of these. -/
def Best (l : List Sc) (p : Option Sc × Option Sc) : Prop :=
 match p with
 | (none, t) => l = [] ∧ t = none
 | (some o, none) => l = [o]
 | (some o, some t) => o ∈ l ∧ t ∈ l ∧ t ≠ o ∧ (∀ z ∈ l, rank o ≤ rank z) ∧ (∀ z ∈ l, z ≠ o → rank t ≤ rank z)
theorem rank_lt {o x : Sc} (ho : okS o) (hx : okS x) (h : o.2 < x.2) : rank x < rank o := by unfold rank okS at *; omega
theorem rank_gt {o x : Sc} (ho : okS o) (hx : okS x) (hid : o.1 < x.1) (h : ¬ o.2 < x.2) : rank o < rank x := by unfold rank okS at *; omega
theorem rank_inj {a b : Sc} (ha : okS a) (hb : okS b) (h : rank a = rank b) : a = b := by
 obtain ⟨a1, a2⟩ := a
 obtain ⟨b1, b2⟩ := b
 unfold rank okS at *
 dsimp only at *
 have h1 : a2 = b2 := by omega
 have h2 : a1 = b1 := by omega
 rw [h1, h2]
theorem best_step {l : List Sc} {p : Option Sc × Option Sc} {x : Sc} (h : Best l p) (hok : ∀ z ∈ l, okS z) (hx : okS x) (hid : ∀ z ∈ l, z.1 < x.1) : Best (l ++ [x]) (pickStep p x) := by
 have hne : ∀ z ∈ l, z ≠ x := fun z hz e => by have := hid z hz; rw [e] at this; omega
 obtain ⟨p1, p2⟩ := p
 cases p1 with
 | none =>
  obtain ⟨h1, h2⟩ : l = [] ∧ p2 = none := h
  subst h1 h2
  rfl
 | some o =>
  cases p2 with
  | none =>
   have h1 : l = [o] := h
   subst h1
   have oo := hok o (by simp)
   have oi := hid o (by simp)
   unfold pickStep
   by_cases hlt : o.2 < x.2
   ·simp only [if_pos hlt]
    have := rank_lt oo hx hlt
    refine ⟨by simp, by simp, fun e => hne o (by simp) e, fun z hz => ?_, fun z hz hzx => ?_⟩
    ·simp at hz; rcases hz with e | e <;> subst e <;> omega
    ·simp at hz; rcases hz with e | e
     ·subst e; omega
     ·exact absurd e hzx
   ·simp only [if_neg hlt]
    have := rank_gt oo hx oi hlt
    refine ⟨by simp, by simp, fun e => hne o (by simp) e.symm, fun z hz => ?_, fun z hz hzo => ?_⟩
    ·simp at hz; rcases hz with e | e <;> subst e <;> omega
    ·simp at hz; rcases hz with e | e
     ·exact absurd e hzo
     ·subst e; omega
  | some t =>
   obtain ⟨ho, ht, hto, hmin, hmin2⟩ : o ∈ l ∧ t ∈ l ∧ t ≠ o ∧ (∀ z ∈ l, rank o ≤ rank z) ∧ (∀ z ∈ l, z ≠ o → rank t ≤ rank z) := h
   have oo := hok o ho
   have ot := hok t ht
   have oi := hid o ho
   have ti := hid t ht
   unfold pickStep
   by_cases hlt : o.2 < x.2
   ·simp only [if_pos hlt]
    have hr := rank_lt oo hx hlt
    refine ⟨by simp, List.mem_append.2 (.inl ho), hne o ho, fun z hz => ?_, fun z hz hzx => ?_⟩
    ·rcases List.mem_append.1 hz with hz | hz
     ·have := hmin z hz; omega
     ·simp at hz; subst hz; omega
    ·rcases List.mem_append.1 hz with hz | hz
     ·exact hmin z hz
     ·simp at hz; exact absurd hz hzx
   ·simp only [if_neg hlt]
    have hr := rank_gt oo hx oi hlt
    by_cases hlt2 : t.2 < x.2
    ·simp only [if_pos hlt2]
     have hr2 := rank_lt ot hx hlt2
     refine ⟨List.mem_append.2 (.inl ho), by simp, fun e => hne o ho e.symm, fun z hz => ?_, fun z hz hzo => ?_⟩
     ·rcases List.mem_append.1 hz with hz | hz
      ·exact hmin z hz
      ·simp at hz; subst hz; omega
     ·rcases List.mem_append.1 hz with hz | hz
      ·have := hmin2 z hz hzo; omega
      ·simp at hz; subst hz; omega
    ·simp only [if_neg hlt2]
     have hr2 := rank_gt ot hx ti hlt2
     refine ⟨List.mem_append.2 (.inl ho), List.mem_append.2 (.inl ht), hto, fun z hz => ?_, fun z hz hzo => ?_⟩
     ·rcases List.mem_append.1 hz with hz | hz
      ·exact hmin z hz
      ·simp at hz; subst hz; omega
     ·rcases List.mem_append.1 hz with hz | hz
      ·exact hmin2 z hz hzo
      ·simp at hz; subst hz; omega
/-- The heap's answer is the model's. -/
theorem two_pair {lb ls : List Sc} {p : Option Sc × Option Sc} {q : List Int} (hB : Best ls p) (hok : ∀ z ∈ ls, okS z) (hH : Holds lb ls) (hh : HeapP lb lb.length) (hT : TwoOf lb q) : q = pairL p := by
 have hm := hH.2.1
 obtain ⟨p1, p2⟩ := p
 rcases hT with ⟨h1, h2⟩ | ⟨h1, h2⟩ | ⟨l2, hr, hh2, hpos, h2⟩
 ·subst h1 h2
  have : ls = [] := List.eq_nil_of_length_eq_zero hH.1.symm
  subst this
  cases p1 with
  | none => rfl
  | some o =>
   cases p2 with
   | none => cases (hB : [] = [o])
   | some t => exact absurd hB.1 (by simp)
 ·obtain ⟨o, ho⟩ : ∃ o, ls = [o] := List.length_eq_one_iff.1 (hH.1.symm.trans h1)
  subst ho
  have e0 : lb.getD 0 (0, 0) = o := by
   have := (hm (lb.getD 0 (0, 0))).1 ⟨0, by omega, rfl⟩
   simpa using this
  rw [h2, e0]
  cases p1 with
  | none => cases (hB.1 : [o] = [])
  | some o' =>
   cases p2 with
   | none => have : [o] = [o'] := hB; simp at this; subst this; rfl
   | some t =>
    obtain ⟨a1, a2, a3, _⟩ : o' ∈ [o] ∧ t ∈ [o] ∧ t ≠ o' ∧ _ := hB
    simp at a1 a2; rw [a1, a2] at a3; exact absurd rfl a3
 ·have hl2 := hr.1
  have hd := hH.2.2
  have m0 : lb.getD 0 (0, 0) ∈ ls := (hm _).1 ⟨0, by omega, rfl⟩
  have top : ∀ z ∈ ls, rank (lb.getD 0 (0, 0)) ≤ rank z := fun z hz => by
   obtain ⟨i, hi, e⟩ := (hm z).2 hz
   have := heap_top hh i hi
   unfold fr at this
   rw [e] at this; exact this
  obtain ⟨i2, hi2a, hi2b, ei2⟩ := (hr.2 (l2.getD 0 (0, 0))).1 ⟨0, hpos, rfl⟩
  have m2 : l2.getD 0 (0, 0) ∈ ls := (hm _).1 ⟨i2, hi2b, ei2⟩
  have ne2 : l2.getD 0 (0, 0) ≠ lb.getD 0 (0, 0) := fun e => by
   have := hd i2 0 hi2b (by omega) (ei2.trans e); omega
  have top2 : ∀ z ∈ ls, z ≠ lb.getD 0 (0, 0) → rank (l2.getD 0 (0, 0)) ≤ rank z := fun z hz hne => by
   obtain ⟨i, hi, e⟩ := (hm z).2 hz
   have hi1 : 1 ≤ i := by
    rcases Nat.eq_zero_or_pos i with h | h
    ·subst h; exact absurd e.symm hne
    ·exact h
   obtain ⟨i', hi', e'⟩ := (hr.2 z).2 ⟨i, hi1, hi, e⟩
   have := heap_top hh2 i' hi'
   unfold fr at this
   rw [e'] at this; exact this
  cases p1 with
  | none => have : ls = [] := hB.1; rw [this] at m0; cases m0
  | some o =>
   cases p2 with
   | none =>
    have h1 : ls = [o] := hB
    rw [h1] at m0 m2
    simp at m0 m2
    exact absurd (m2.trans m0.symm) ne2
   | some t =>
    obtain ⟨ho, ht, hto, hmin, hmin2⟩ : o ∈ ls ∧ t ∈ ls ∧ t ≠ o ∧ (∀ z ∈ ls, rank o ≤ rank z) ∧ (∀ z ∈ ls, z ≠ o → rank t ≤ rank z) := hB
    have e0 : lb.getD 0 (0, 0) = o := rank_inj (hok _ m0) (hok o ho) (Int.le_antisymm (top o ho) (hmin _ m0))
    rw [e0] at ne2 top2
    have e2 : l2.getD 0 (0, 0) = t := rank_inj (hok _ m2) (hok t ht) (Int.le_antisymm (top2 t ht hto) (hmin2 _ m2 ne2))
    rw [h2, e0, e2]
    rfl

end Go.Proofs.YtmmhgkkcpjhiiaaDoor

/- The model's l3pair. -/
namespace Go.Proofs.YtmmhgkkcpjhiiaaDoor
open Go.ChangeShapes Go.WideShapes Go.ChangeAt Go.RowKit Go.Joins
set_option linter.unusedVariables false
set_option linter.unusedSimpArgs false

def scOf (key b : Int) (x : Bk) : Sc := (x.1, scoreI key b x.1 x.2.1)
/-- A place in the list, or -1, tells q. -/
def IdxOf (key b : Int) (l : List Bk) (v : Int) (q : Option Sc) : Prop := (v = -1 ∧ q = none) ∨ ∃ k : Nat, v = (k : Int) ∧ k < l.length ∧ q = some (scOf key b (l.getD k (0, 0, false)))
theorem pick_next {key b : Int} {l : List Bk} {j : Nat} {x y : Int} (hlt : j < l.length) (hxy : l.getD j (0, 0, false) = (x, y, false)) : pick (scL key b (l.take (j + 1))) = pickStep (pick (scL key b (l.take j))) (scOf key b (x, y, false)) := by
 have hts := takeL_succ layK l j hlt
 rw [show l.getD j layK.d = l.getD j (0, 0, false) from rfl, hxy] at hts
 rw [hts, scL_snoc_yes _ _ _ _ rfl, pick_snoc]; rfl
theorem pick_skip {key b : Int} {l : List Bk} {j : Nat} {x y : Int} (hlt : j < l.length) (hxy : l.getD j (0, 0, false) = (x, y, true)) : pick (scL key b (l.take (j + 1))) = pick (scL key b (l.take j)) := by
 have hts := takeL_succ layK l j hlt
 rw [show l.getD j layK.d = l.getD j (0, 0, false) from rfl, hxy] at hts
 rw [hts, scL_snoc_no _ _ _ _ rfl]
theorem backs_all {l : List Bk} (h : backsOkB l = true) {k : Nat} (hk : k < l.length) {x y : Int} {z : Bool} (hxy : l.getD k (0, 0, false) = (x, y, z)) : 0 ≤ x ∧ x < 6 ∧ 1 ≤ y ∧ y ≤ 100 := backB_iff.1 (okAt_back h hk hxy)

set_option maxRecDepth 100000 in
set_option maxHeartbeats 2000000 in
theorem l3pair_any (key b : Int) (o : Option Addr) (cap : Nat) (l : List Bk) (w : World) (hR : RdK w.heap.size w o l) (hlen : l.length ≤ 1000) (hk : keyB key = true) (hbk : 0 ≤ b ∧ b < 8) (hl : backsOkB l = true) :
  Calls Tryd.prog 85 #[.int .i64 key, .int .i64 b, .slice o l.length cap] w fun e w' => ∃ v, e = .returned v ∧ ownI w' w.heap.size v (pairL (pick (scL key b l))) ∧ Below w.heap.size w w' := by
 obtain ⟨hk1, hk2⟩ := keyB_iff.1 hk
 have hsc := fun k (hk : k < l.length) x y z (hxy : l.getD k (0, 0, false) = (x, y, z)) W => have h := backs_all hl hk hxy; l3score_any key b x y z W hk1 hk2 hbk.1 hbk.2 h.1 h.2.1 (by omega) h.2.2.2
 have HSC := hide hsc
 clear hsc
 go_enter Tryd.func85, Tryd.ntmps85
 go_wp2
 go_loopw [7, 8, 9] (fun one two iv wr => ∃ (j : Nat) (v1 v2 : Int), iv = .int .i64 j ∧ one = .int .i64 v1 ∧ two = .int .i64 v2 ∧ j ≤ l.length ∧ IdxOf key b l v1 (pick (scL key b (l.take j))).1 ∧ IdxOf key b l v2 (pick (scL key b (l.take j))).2 ∧ Below w.heap.size w wr)
  (fun _ _ iv _ => l.length - (intOf iv).toNat)
 case atStart => exact ⟨0, -1, -1, rfl, rfl, rfl, Nat.zero_le _, .inl ⟨rfl, by simp [scL, pick]⟩, .inl ⟨rfl, by simp [scL, pick]⟩, Below.refl _ _⟩
 case round =>
  obtain ⟨j, v1, v2, rfl, rfl, rfl, hj, hi1, hi2, hBr⟩ := hrel
  by_cases hlt : j < l.length
  ·rcases hR with hR | ⟨bb, off, rfl, hbl, hcell⟩
   ·subst hR; simp at hlt
   have HC := hide (fun k (hk : k < l.length) W (hW : Below w.heap.size w W) => have h := RdL.back (C := w.heap.size) hcell k hk; (show W.cell? ⟨bb, off + k * 3, none⟩ = some (.int .i64 (l.getD k (0, 0, false)).1) ∧ W.cell? ⟨bb, off + k * 3 + 1, none⟩ = some (.int .i64 (l.getD k (0, 0, false)).2.1) ∧ W.cell? ⟨bb, off + k * 3 + 2, none⟩ = some (.bool (l.getD k (0, 0, false)).2.2) from ⟨(hW.cell (p := ⟨bb, off + k * 3, none⟩) hbl).trans h.1, (hW.cell (p := ⟨bb, off + k * 3 + 1, none⟩) hbl).trans h.2.1, (hW.cell (p := ⟨bb, off + k * 3 + 2, none⟩) hbl).trans h.2.2⟩))
   clear hcell
   have hcx := HC.out j hlt wr hBr
   obtain ⟨x, y, z, hxy⟩ : ∃ x y z, l.getD j (0, 0, false) = (x, y, z) := ⟨_, _, _, rfl⟩
   rw [hxy] at hcx
   dsimp only at hcx
   obtain ⟨c0, c1, c2⟩ := hcx
   have z1 : (j : Int) < (l.length : Int) := by omega
   cases z with
   | true =>
    have HP := hide (pick_skip (key := key) (b := b) hlt hxy)
    have HB := hide hBr
    have H1 := hide hi1
    have H2 := hide hi2
    clear hxy hBr hi1 hi2
    go_wp2
    go_roundw
    case rel => exact ⟨j + 1, v1, v2, by go_num, rfl, rfl, by omega, by rw [HP.out]; exact H1.out, by rw [HP.out]; exact H2.out, HB.out⟩
    case measure => simp [intOf]; omega
   | false =>
    have HP := hide (pick_next (key := key) (b := b) hlt hxy)
    have hsI := HSC.out j hlt x y false hxy
    have HJ : Hid (IdxOf key b l (j : Int) (some (scOf key b (x, y, false)))) := .inr ⟨j, rfl, hlt, by rw [hxy]⟩
    generalize hg : scOf key b (x, y, false) = sx at *
    obtain ⟨sid, sc⟩ := sx
    have hscx : scoreI key b x y = sc := by simp [scOf] at hg; exact hg.2
    rw [hscx] at hsI
    have HB := hide hBr
    clear hxy hBr hg hscx
    generalize pick (scL key b (l.take j)) = pp at *
    obtain ⟨p1, p2⟩ := pp
    dsimp only at hi1 hi2
    rcases hi1 with ⟨rfl, rfl⟩ | ⟨k1, rfl, hk1l, rfl⟩
    ·go_wp2_with fail
     refine (hsI wr).mono ?_
     rintro e w1 ⟨rfl, hb1⟩
     have HB1 := hide (HB.out.trans (hb1.mono HB.out.size))
     clear c0 c1 c2 hsI hb1 hi2
     go_wp2
     go_roundw
     case rel => exact ⟨j + 1, j, -1, by go_num, rfl, rfl, by omega, by rw [HP.out]; exact HJ.out, by rw [HP.out]; exact .inl ⟨rfl, rfl⟩, HB1.out⟩
     case measure => simp [intOf]; omega
    ·obtain ⟨x1, y1, t1, hxy1⟩ : ∃ x y z, l.getD k1 (0, 0, false) = (x, y, z) := ⟨_, _, _, rfl⟩
     have hs1 := HSC.out k1 hk1l x1 y1 t1 hxy1
     have HI1 : Hid (IdxOf key b l (k1 : Int) (some (scOf key b (x1, y1, t1)))) := .inr ⟨k1, rfl, hk1l, by rw [hxy1]⟩
     have HC1 := HC.out k1 hk1l
     rw [hxy1] at HP HC1
     dsimp only at HC1
     generalize hg1 : scOf key b (x1, y1, t1) = s1 at *
     obtain ⟨id1, sc1⟩ := s1
     have hsc1 : scoreI key b x1 y1 = sc1 := by simp [scOf] at hg1; exact hg1.2
     rw [hsc1] at hs1
     have z2 : (k1 : Int) < (l.length : Int) := by omega
     have z3 : ¬ ((k1 : Int) < 0) := by omega
     have HCC1 := hide HC1
     clear hxy1 hg1 hsc1 HC1
     go_wp2_with fail
     refine (hsI wr).mono ?_
     rintro e w1 ⟨rfl, hb1⟩
     have HB1 := hide (HB.out.trans (hb1.mono HB.out.size))
     obtain ⟨d0, d1, d2⟩ := HCC1.out w1 HB1.out
     clear c0 c1 c2 hsI hb1
     go_wp2_with fail
     refine (hs1 w1).mono ?_
     rintro e w2 ⟨rfl, hb2⟩
     have HB2 := hide (HB1.out.trans (hb2.mono HB1.out.size))
     clear d0 d1 d2 hs1 hb2
     by_cases hgt : sc1 < sc
     ·have HE : Hid (pickStep (some (id1, sc1), p2) (sid, sc) = (some (sid, sc), some (id1, sc1))) := by simp [pickStep, hgt, Hid]
      clear hi2
      go_wp2
      go_roundw
      case rel => exact ⟨j + 1, j, k1, by go_num, rfl, rfl, by omega, by rw [HP.out, HE.out]; exact HJ.out, by rw [HP.out, HE.out]; exact HI1.out, HB2.out⟩
      case measure => simp [intOf]; omega
     ·rcases hi2 with ⟨rfl, rfl⟩ | ⟨k2, rfl, hk2l, rfl⟩
      ·have HE : Hid (pickStep (some (id1, sc1), none) (sid, sc) = (some (id1, sc1), some (sid, sc))) := by simp [pickStep, hgt, Hid]
       go_wp2
       go_roundw
       case rel => exact ⟨j + 1, k1, j, by go_num, rfl, rfl, by omega, by rw [HP.out, HE.out]; exact HI1.out, by rw [HP.out, HE.out]; exact HJ.out, HB2.out⟩
       case measure => simp [intOf]; omega
      ·obtain ⟨x2, y2, t2, hxy2⟩ : ∃ x y z, l.getD k2 (0, 0, false) = (x, y, z) := ⟨_, _, _, rfl⟩
       have hs2 := HSC.out k2 hk2l x2 y2 t2 hxy2
       have HI2 : Hid (IdxOf key b l (k2 : Int) (some (scOf key b (x2, y2, t2)))) := .inr ⟨k2, rfl, hk2l, by rw [hxy2]⟩
       have HC2 := HC.out k2 hk2l
       rw [hxy2] at HP HC2
       dsimp only at HC2
       generalize hg2 : scOf key b (x2, y2, t2) = s2 at *
       obtain ⟨id2, sc2⟩ := s2
       have hsc2 : scoreI key b x2 y2 = sc2 := by simp [scOf] at hg2; exact hg2.2
       rw [hsc2] at hs2
       have z4 : (k2 : Int) < (l.length : Int) := by omega
       have z5 : ¬ ((k2 : Int) < 0) := by omega
       obtain ⟨f0, f1, f2⟩ := HC2 w2 HB2.out
       clear hxy2 hg2 hsc2 HC2
       go_wp2_with fail
       refine (hs2 w2).mono ?_
       rintro e w3 ⟨rfl, hb3⟩
       have HB3 := hide (HB2.out.trans (hb3.mono HB2.out.size))
       clear f0 f1 f2 hs2 hb3
       by_cases hgt2 : sc2 < sc
       ·have HE : Hid (pickStep (some (id1, sc1), some (id2, sc2)) (sid, sc) = (some (id1, sc1), some (sid, sc))) := by unfold Hid; simp only [pickStep, if_neg (show ¬ sc1 < sc by omega), if_pos hgt2]
        go_wp2
        go_roundw
        case rel => exact ⟨j + 1, k1, j, by go_num, rfl, rfl, by omega, by rw [HP.out, HE.out]; exact HI1.out, by rw [HP.out, HE.out]; exact HJ.out, HB3.out⟩
        case measure => simp [intOf]; omega
       ·have HE : Hid (pickStep (some (id1, sc1), some (id2, sc2)) (sid, sc) = (some (id1, sc1), some (id2, sc2))) := by unfold Hid; simp only [pickStep, if_neg (show ¬ sc1 < sc by omega), if_neg (show ¬ sc2 < sc by omega)]
        go_wp2
        go_roundw
        case rel => exact ⟨j + 1, k1, k2, by go_num, rfl, rfl, by omega, by rw [HP.out, HE.out]; exact HI1.out, by rw [HP.out, HE.out]; exact HI2.out, HB3.out⟩
        case measure => simp [intOf]; omega
  ·have e : j = l.length := by omega
   subst e
   rw [List.take_of_length_le (Nat.le_refl _)] at hi1 hi2
   have HQ := hide (show pick (scL key b l) = ((pick (scL key b l)).1, (pick (scL key b l)).2) from rfl)
   generalize (pick (scL key b l)).1 = p1 at *
   generalize (pick (scL key b l)).2 = p2 at *
   have HB := hide hBr
   have z0 : ¬ (l.length : Int) < (l.length : Int) := by omega
   rcases hi1 with ⟨rfl, rfl⟩ | ⟨k1, rfl, hk1l, rfl⟩
   ·clear hBr hi2
    go_wp2
    go_ret
    exact ⟨_, rfl, by rw [HQ.out]; exact World.ownsRow_nil _ _ _ _, HB.out⟩
   ·rcases hR with hR | ⟨bb, off, rfl, hbl, hcell⟩
    ·subst hR; simp at hk1l
    have h1 := RdL.back (C := w.heap.size) hcell k1 hk1l
    have c1 := (hBr.cell (p := ⟨bb, off + k1 * 3, none⟩) hbl).trans h1.1
    have z2 : (k1 : Int) < (l.length : Int) := by omega
    have z3 : ¬ ((k1 : Int) < 0) := by omega
    have HI1 : Hid ((scOf key b (l.getD k1 (0, 0, false))).1 = (l.getD k1 (0, 0, false)).1) := rfl
    generalize scOf key b (l.getD k1 (0, 0, false)) = s1 at *
    rcases hi2 with ⟨rfl, rfl⟩ | ⟨k2, rfl, hk2l, rfl⟩
    ·have HO := hide (fun W (hW : w.heap.size ≤ W.heap.size) => ownI_lit W w.heap.size (l.getD k1 (0, 0, false)).1 (l.getD k1 (0, 0, false)).1 hW)
     have HPL : Hid (pairL (pick (scL key b l)) = [(l.getD k1 (0, 0, false)).1, (l.getD k1 (0, 0, false)).1]) := by unfold Hid; rw [HQ.out]; show [s1.1, s1.1] = _; rw [HI1.out]
     generalize (l.getD k1 (0, 0, false)).1 = x1 at *
     have hsz := HB.out.size
     clear hBr hcell h1
     go_wp2
     go_region
     all_goals go_wp2
     all_goals go_ret
     all_goals exact ⟨_, rfl, by rw [HPL.out]; exact (HO.out wr hsz).drew, (HB.out.alloc hsz _).drew⟩
    ·have h2 := RdL.back (C := w.heap.size) hcell k2 hk2l
     have c2 := (hBr.cell (p := ⟨bb, off + k2 * 3, none⟩) hbl).trans h2.1
     have z4 : (k2 : Int) < (l.length : Int) := by omega
     have z5 : ¬ ((k2 : Int) < 0) := by omega
     have HO := hide (fun W (hW : w.heap.size ≤ W.heap.size) => ownI_lit W w.heap.size (l.getD k1 (0, 0, false)).1 (l.getD k2 (0, 0, false)).1 hW)
     have HPL : Hid (pairL (pick (scL key b l)) = [(l.getD k1 (0, 0, false)).1, (l.getD k2 (0, 0, false)).1]) := by unfold Hid; rw [HQ.out]; show [s1.1, (scOf key b (l.getD k2 (0, 0, false))).1] = _; rw [HI1.out]; rfl
     generalize (l.getD k1 (0, 0, false)).1 = x1 at *
     generalize (l.getD k2 (0, 0, false)).1 = x2 at *
     have hsz := HB.out.size
     clear hBr hcell h1 h2
     go_wp2
     go_region
     all_goals go_wp2
     all_goals go_ret
     all_goals exact ⟨_, rfl, by rw [HPL.out]; exact (HO.out wr hsz).drew, (HB.out.alloc hsz _).drew⟩

end Go.Proofs.YtmmhgkkcpjhiiaaDoor

/- PairOf on both sides. -/
namespace Go.Proofs.YtmmhgkkcpjhiiaaDoor
open Go.ChangeShapes Go.WideShapes Go.ChangeAt Go.RowKit Go.Joins
set_option linter.unusedVariables false
set_option linter.unusedSimpArgs false

def pairI (key b : Int) (l : List Bk) : List Int := if keyB key = true ∧ (0 ≤ b ∧ b < 8) ∧ backsOkB l = true then pairL (pick (scL key b l)) else []
theorem pairI_len (key b : Int) (l : List Bk) : (pairI key b l).length ≤ 2 := by
 unfold pairI
 split
 ·unfold pairL; split <;> simp
 ·simp
/-- Ids ascend below six: so there are no more than six. -/
theorem backs_len {l : List Bk} (h : backsOkB l = true) : l.length ≤ 6 := by
 have key : ∀ j, j < l.length → (j : Int) ≤ (l.getD j (0, 0, false)).1 := fun j => by
  induction j with
  | zero =>
   intro hj
   obtain ⟨x, y, z, hxy⟩ : ∃ x y z, l.getD 0 (0, 0, false) = (x, y, z) := ⟨_, _, _, rfl⟩
   have := backs_all h hj hxy
   rw [hxy]; simpa using this.1
  | succ j ih =>
   intro hj
   have h1 := ih (by omega)
   have h2 := backs_lt h (j + 1) hj j (by omega)
   omega
 rcases Nat.lt_or_ge 6 l.length with h7 | h7
 ·obtain ⟨x, y, z, hxy⟩ : ∃ x y z, l.getD 6 (0, 0, false) = (x, y, z) := ⟨_, _, _, rfl⟩
  have h1 := key 6 h7
  have h2 := backs_all h h7 hxy
  rw [hxy] at h1
  dsimp only at h1
  omega
 ·exact h7
theorem scL_mem_ok {key b : Int} {l : List Bk} (h : backsOkB l = true) {z : Sc} (hz : z ∈ scL key b l) : okS z := by
 obtain ⟨i, hi, e⟩ := scL_ids hz
 obtain ⟨x, y, t, hxy⟩ : ∃ x y z, l.getD i (0, 0, false) = (x, y, z) := ⟨_, _, _, rfl⟩
 have := backs_all h hi hxy
 rw [hxy] at e
 unfold okS
 rw [← e]
 dsimp only
 omega
theorem backsOkB_take {l : List Bk} (h : backsOkB l = true) (j : Nat) : backsOkB (l.take j) = true := by
 rw [backsOkB_iff] at *
 intro i hi
 have hi' : i < l.length := by simp at hi; omega
 have hij : i < j := by simp at hi; omega
 have := h i hi'
 unfold okAt at *
 have e1 : (l.take j).getD i (0, 0, false) = l.getD i (0, 0, false) := by simp [List.getD_eq_getElem?_getD, List.getElem?_take, hij]
 have e2 : (l.take j).getD (i - 1) (0, 0, false) = l.getD (i - 1) (0, 0, false) := by simp [List.getD_eq_getElem?_getD, List.getElem?_take, show i - 1 < j by omega]
 rw [e1, e2]; exact this
theorem best_scL {key b : Int} {l : List Bk} (h : backsOkB l = true) : Best (scL key b l) (pick (scL key b l)) := by
 have key' : ∀ j, j ≤ l.length → Best (scL key b (l.take j)) (pick (scL key b (l.take j))) := fun j => by
  induction j with
  | zero => intro _; exact ⟨by simp [scL], by simp [scL, pick]⟩
  | succ j ih =>
   intro hj
   have ih' := ih (by omega)
   obtain ⟨x, y, z, hxy⟩ : ∃ x y z, l.getD j (0, 0, false) = (x, y, z) := ⟨_, _, _, rfl⟩
   have hts := takeL_succ layK l j (by omega)
   rw [show l.getD j layK.d = l.getD j (0, 0, false) from rfl, hxy] at hts
   cases z with
   | true => rw [hts, scL_snoc_no _ _ _ _ rfl]; exact ih'
   | false =>
    rw [hts, scL_snoc_yes _ _ _ _ rfl, pick_snoc]
    have hb := backs_all h (by omega) hxy
    refine best_step ih' (fun z hz => scL_mem_ok (backsOkB_take h j) hz) ⟨hb.1, by dsimp only; omega⟩ (fun z hz => ?_)
    obtain ⟨i, hi, e⟩ := scL_ids hz
    have hij : i < j := by simp at hi; omega
    have := backs_lt h j (by omega) i hij
    rw [hxy] at this
    rw [show (l.take j).getD i (0, 0, false) = l.getD i (0, 0, false) by simp [List.getD_eq_getElem?_getD, List.getElem?_take, hij]] at e
    rw [← e]; exact this
 have := key' l.length (Nat.le_refl _)
 rw [List.take_of_length_le (Nat.le_refl _)] at this
 exact this

set_option maxHeartbeats 1000000 in
theorem implPairOf_any (key b : Int) (o : Option Addr) (cap : Nat) (l : List Bk) (w : World) (hR : RdK w.heap.size w o l) (hlen : l.length ≤ 1048576) :
  Calls Tryd.prog 127 #[.int .i64 key, .int .i64 b, .slice o l.length cap] w fun e w' => ∃ v, e = .returned v ∧ ownI w' w.heap.size v (pairI key b l) ∧ Below w.heap.size w w' := by
 have hkey := fun w => isKey_any key w
 have hbuc := fun w => isBucket_any b w
 have hbo := implBacksOk_any o cap l w hR hlen
 by_cases hk : keyB key = true
 ·rw [hk] at hkey
  by_cases hbk : 0 ≤ b ∧ b < 8
  ·rw [show (decide (0 ≤ b) && decide (b < 8)) = true by simp [hbk]] at hbuc
   by_cases hl : backsOkB l = true
   ·rw [hl] at hbo
    have HE := hide (show pairI key b l = pairL (pick (scL key b l)) by rw [pairI, if_pos ⟨hk, hbk, hl⟩])
    have hln := backs_len hl
    go_enter Tryd.func127, Tryd.ntmps127
    go_wp2_with (first | (go_at_call 87; refine (hkey _).mono ?_; rintro e w1 ⟨rfl, rfl⟩) | (go_at_call 137; refine (hbuc _).mono ?_; rintro e w1 ⟨rfl, rfl⟩) | (go_at_call 88; refine hbo.mono ?_; rintro e w2 ⟨rfl, hb2⟩))
    refine (contestOf_any key b o cap l w2 ((hR.kept hb2 (Nat.le_refl _)).le hb2.size) (by omega) hk hbk hl).mono ?_
    rintro e w3 ⟨k, v, lb, rfl, hbd, hhp, hok, hhd, hkge, hb3⟩
    have hlb : lb.length ≤ 1000 := by
     have h1 := hhd.1
     have h2 : (scL key b l).length ≤ l.length := by unfold scL; rw [List.length_map]; exact List.length_filter_le _ _
     omega
    have htwo := twoBest_any k v lb w3 hbd hhp hok hlb
    clear hbo
    go_wp2_with fail
    refine htwo.mono ?_
    rintro e w4 ⟨v4, p, rfl, ht, ho4, hb4⟩
    have hp := two_pair (best_scL hl) (fun z hz => scL_mem_ok hl hz) hhd hhp ht
    have HO := hide (own_mono (hp ▸ ho4) (Nat.le_trans hb2.size hkge))
    have HB := hide ((hb2.trans (hb3.mono hb2.size)).trans (hb4.mono (Nat.le_trans hb2.size hkge)))
    clear ho4 hb2 hb3 hb4 hR ht hp htwo hbd hhp hok hhd
    go_wp2
    go_ret
    exact ⟨v4, rfl, by rw [HE.out]; exact HO.out, HB.out⟩
   ·rw [Bool.eq_false_iff.2 hl] at hbo
    have HE := hide (show pairI key b l = [] by rw [pairI, if_neg (fun q => hl q.2.2)])
    go_enter Tryd.func127, Tryd.ntmps127
    go_wp2_with (first | (go_at_call 87; refine (hkey _).mono ?_; rintro e w1 ⟨rfl, rfl⟩) | (go_at_call 137; refine (hbuc _).mono ?_; rintro e w1 ⟨rfl, rfl⟩) | (go_at_call 88; refine hbo.mono ?_; rintro e w2 ⟨rfl, hb2⟩))
    go_ret
    exact ⟨_, rfl, by rw [HE.out]; exact World.ownsRow_nil _ _ _ _, hb2⟩
  ·rw [show (decide (0 ≤ b) && decide (b < 8)) = false by simpa using hbk] at hbuc
   have HE := hide (show pairI key b l = [] by rw [pairI, if_neg (fun q => hbk q.2.1)])
   go_enter Tryd.func127, Tryd.ntmps127
   go_wp2_with (first | (go_at_call 87; refine (hkey _).mono ?_; rintro e w1 ⟨rfl, rfl⟩) | (go_at_call 137; refine (hbuc _).mono ?_; rintro e w1 ⟨rfl, rfl⟩))
   go_ret
   exact ⟨_, rfl, by rw [HE.out]; exact World.ownsRow_nil _ _ _ _, Below.refl _ _⟩
 ·rw [Bool.eq_false_iff.2 hk] at hkey
  have HE := hide (show pairI key b l = [] by rw [pairI, if_neg (fun q => hk q.1)])
  go_enter Tryd.func127, Tryd.ntmps127
  go_wp2_with (first | (go_at_call 87; refine (hkey _).mono ?_; rintro e w1 ⟨rfl, rfl⟩))
  go_ret
  exact ⟨_, rfl, by rw [HE.out]; exact World.ownsRow_nil _ _ _ _, Below.refl _ _⟩

end Go.Proofs.YtmmhgkkcpjhiiaaDoor

/- Rows of ints that own their memory, each row its own: TableOf's answers. -/
namespace Go.Proofs.YtmmhgkkcpjhiiaaDoor
open Go.ChangeShapes Go.WideShapes Go.ChangeAt Go.RowKit Go.Joins
set_option linter.unusedVariables false
set_option linter.unusedSimpArgs false

theorem ownL.rds {α : Type} {L : Lay α} {e : TypeId} {w : World} {base n c : Nat} {o : Option Addr} {l : List α} (h : ownL L e w base (.slice o n c) l) : RdL L w.heap.size w o l := by
 obtain ⟨o', c', e', hr⟩ := h.open
 injection e' with e1 e2 e3
 rw [e1]; exact hr
/-- Rows of unlike types never share a block. -/
theorem own_apart {w : World} {b1 b2 s1 s2 n1 n2 : Nat} {e1 e2 : TypeId} {v1 v2 : Value} {x1 x2 : List Value} (h1 : w.ownsRow b1 e1 s1 v1 n1 x1) (h2 : w.ownsRow b2 e2 s2 v2 n2 x2) (he : e1 ≠ e2) : v1.ownBlock = none ∨ v1.ownBlock ≠ v2.ownBlock := by
 rcases h1.2 with ⟨rfl, _⟩ | ⟨g, cap, cur, rfl, _, hg, _⟩
 ·exact .inl rfl
 ·right
  rcases h2.2 with ⟨rfl, _⟩ | ⟨g', cap', cur', rfl, _, hg', _⟩
  ·simp [Value.ownBlock]
  ·intro e
   simp [Value.ownBlock] at e
   subst e
   rw [hg] at hg'
   simp at hg'
   exact he hg'.2
theorem intNe : (3 : TypeId) ≠ 72 := by decide
def hv (hs : List Hd) (i : Nat) : Value := .slice (hs.getD i (none, 0, 0)).1 (hs.getD i (none, 0, 0)).2.1 (hs.getD i (none, 0, 0)).2.2
/-- The first k rows: each its own, no two in one block. -/
structure Tab (R : Nat → List Int) (k : Nat) (w : World) (base : Nat) (hs : List Hd) : Prop where
 len : hs.length = k
 row : ∀ i, i < k → ownI w base (hv hs i) (R i)
 apart : ∀ i j, i < k → j < k → i ≠ j → (hv hs i).ownBlock = none ∨ (hv hs i).ownBlock ≠ (hv hs j).ownBlock
theorem Tab.nil (R : Nat → List Int) (w : World) (base : Nat) : Tab R 0 w base [] := ⟨rfl, fun i h => absurd h (Nat.not_lt_zero _), fun i _ h => absurd h (Nat.not_lt_zero _)⟩
theorem Tab.kept {R : Nat → List Int} {k : Nat} {w w' : World} {base : Nat} {hs : List Hd} (h : Tab R k w base hs) (hb : Below w.heap.size w w') : Tab R k w' base hs :=
 ⟨h.len, fun i hi => own_kept (h.row i hi) hb, h.apart⟩
theorem Tab.grown {R : Nat → List Int} {k : Nat} {w w' : World} {base : Nat} {hs : List Hd} {r : Option Nat} (h : Tab R k w base hs) (hg : w.grownBy w' r) (hn : ∀ i, i < k → (hv hs i).ownBlock = none ∨ (hv hs i).ownBlock ≠ r) : Tab R k w' base hs :=
 ⟨h.len, fun i hi => (h.row i hi).kept hg (hn i hi), h.apart⟩
/-- A row of another type has grown. -/
theorem Tab.other {R : Nat → List Int} {k : Nat} {w w' : World} {base b2 s2 n2 : Nat} {hs : List Hd} {e2 : TypeId} {v2 : Value} {x2 : List Value} (h : Tab R k w base hs) (h2 : w.ownsRow b2 e2 s2 v2 n2 x2) (he : 3 ≠ e2) (hg : w.grownBy w' v2.ownBlock) : Tab R k w' base hs :=
 h.grown hg fun i hi => own_apart (h.row i hi) h2 he
theorem hv_left {hs : List Hd} {x : Hd} {i : Nat} (h : i < hs.length) : hv (hs ++ [x]) i = hv hs i := by
 unfold hv; rw [List.getD_eq_getElem?_getD, List.getElem?_append_left h, ← List.getD_eq_getElem?_getD]
theorem hv_last {hs : List Hd} {x : Hd} : hv (hs ++ [x]) hs.length = .slice x.1 x.2.1 x.2.2 := by
 unfold hv; rw [List.getD_eq_getElem?_getD, List.getElem?_append_right (Nat.le_refl _), Nat.sub_self]; rfl
theorem Tab.snoc {R : Nat → List Int} {k : Nat} {w : World} {base n0 : Nat} {hs : List Hd} {o : Option Addr} {m c : Nat} (h : Tab R k w base hs) (hlt : ∀ i, i < k → ∀ b, (hv hs i).ownBlock = some b → b < n0) (hbn : base ≤ n0)
  (hr : ownI w n0 (.slice o m c) (R k)) : Tab R (k + 1) w base (hs ++ [(o, m, c)]) := by
 have hl := h.len
 have new : hv (hs ++ [(o, m, c)]) k = .slice o m c := by rw [← hl]; exact hv_last
 refine ⟨by simp [hl], fun i hi => ?_, fun i j hi hj hij => ?_⟩
 ·rcases Nat.lt_succ_iff_lt_or_eq.1 hi with h' | h'
  ·rw [hv_left (by omega)]; exact h.row i h'
  ·subst h'; rw [new]; exact own_mono hr hbn
 ·rcases Nat.lt_succ_iff_lt_or_eq.1 hi with h' | h'
  ·rw [hv_left (by omega)]
   rcases Nat.lt_succ_iff_lt_or_eq.1 hj with g' | g'
   ·rw [hv_left (by omega)]; exact h.apart i j h' g' hij
   ·subst g'; rw [new]
    cases hob : (hv hs i).ownBlock with
    | none => exact .inl rfl
    | some b =>
     right
     intro e
     have h1 := hlt i h' b hob
     have h2 := (hr.lt b e.symm).1
     omega
  ·subst h'
   rw [new]
   cases hob : (Value.slice o m c).ownBlock with
   | none => exact .inl rfl
   | some b =>
    right
    rw [hv_left (by omega)]
    intro e
    have h1 := hlt j (by omega) b e.symm
    have h2 := (hr.lt b hob).1
    omega
theorem Tab.lt {R : Nat → List Int} {k : Nat} {w : World} {base : Nat} {hs : List Hd} (h : Tab R k w base hs) : ∀ i, i < k → ∀ b, (hv hs i).ownBlock = some b → b < w.heap.size :=
 fun i hi b e => ((h.row i hi).lt b e).2
def rowsOf (R : Nat → List Int) (n : Nat) : List (List Int) := (List.range n).map R
theorem rowsOf_length (R : Nat → List Int) (n : Nat) : (rowsOf R n).length = n := by simp [rowsOf]
theorem rowsOf_get (R : Nat → List Int) (n i : Nat) (h : i < n) : (rowsOf R n).getD i [] = R i := by simp [rowsOf, h]
theorem Tab.rd {R : Nat → List Int} {n : Nat} {w : World} {base b2 m c : Nat} {hs : List Hd} {o : Option Addr} (h : Tab R n w base hs) (ho : ownL layH 72 w b2 (.slice o m c) hs) : RdLL w.heap.size w o (rowsOf R n) := by
 refine ⟨hs, by rw [h.len, rowsOf_length], ownL.rds ho, fun i hi => ?_⟩
 rw [rowsOf_length] at hi
 rw [rowsOf_get R n i hi]
 have hr := h.row i hi
 obtain ⟨o', c', e', _⟩ := ownL.open (L := layI) hr
 unfold hv at e'
 injection e' with e1 e2 e3
 exact ⟨e2, ownL.rds (L := layI) hr⟩

/-- A table that is its caller's own, or none. -/
def OwnT (w : World) (base : Nat) (v : Value) (n : Nat) (R : Nat → List Int) : Prop :=
 (v = .slice none 0 0 ∧ n = 0) ∨ ∃ g hs, v = .slice (some ⟨g, 0, none⟩) n n ∧ ownL layH 72 w base v hs ∧ Tab R n w base hs
theorem OwnT.kept {w w' : World} {base n : Nat} {v : Value} {R : Nat → List Int} (h : OwnT w base v n R) (hb : Below w.heap.size w w') : OwnT w' base v n R := by
 rcases h with h | ⟨g, hs, e, ho, ht⟩
 ·exact .inl h
 ·exact .inr ⟨g, hs, e, own_kept ho hb, ht.kept hb⟩
theorem OwnT.grown {w w' : World} {base n gx : Nat} {v : Value} {R : Nat → List Int} (h : OwnT w base v n R) (hg : w.grownBy w' (some gx)) (hx : gx < base) : OwnT w' base v n R := by
 have key : ∀ {u : Value} {e : TypeId} {s m : Nat} {xs : List Value}, w.ownsRow base e s u m xs → u.ownBlock = none ∨ u.ownBlock ≠ some gx := fun {u e s m xs} hu => by
  cases hob : u.ownBlock with
  | none => exact .inl rfl
  | some b => right; have := (hu.lt b hob).1; intro e'; injection e' with e'; omega
 rcases h with h | ⟨g, hs, e, ho, ht⟩
 ·exact .inl h
 ·exact .inr ⟨g, hs, e, World.ownsRow.kept ho hg (key ho), ht.grown hg fun i hi => key (ht.row i hi)⟩
theorem OwnT.open {w : World} {base n : Nat} {v : Value} {R : Nat → List Int} (h : OwnT w base v n R) : ∃ o c, v = .slice o n c ∧ RdLL w.heap.size w o (rowsOf R n) := by
 rcases h with ⟨rfl, rfl⟩ | ⟨g, hs, rfl, ho, ht⟩
 ·exact ⟨none, 0, rfl, [], rfl, .inl rfl, fun i hi => by simp [rowsOf] at hi⟩
 ·exact ⟨_, _, rfl, ht.rd ho⟩

/-- Where row i's marks begin. -/
def st (R : Nat → List Int) (k : Int) : Nat → Int
 | 0 => k
 | i + 1 => st R k i + (R i).length
/-- The first i rows hold marks. -/
def mkd (R : Nat → List Int) (k : Int) (i j : Nat) : List Int := if j < i then markI (st R k j) (R j).length else R j
theorem Tab.marked {R : Nat → List Int} {k : Int} {n i : Nat} {w w' : World} {base : Nat} {hs : List Hd} (hi : i < n) (h : Tab (mkd R k i) n w base hs)
  (ho : ownI w' base (hv hs i) (markI (st R k i) (R i).length)) (hg : w.grownBy w' (hv hs i).ownBlock) : Tab (mkd R k (i + 1)) n w' base hs := by
 refine ⟨h.len, fun j hj => ?_, h.apart⟩
 by_cases e : j = i
 ·subst e
  rw [mkd, if_pos (Nat.lt_succ_self _)]; exact ho
 ·have hr := (h.row j hj).kept hg (h.apart j i hj hi e)
  have e2 : mkd R k (i + 1) j = mkd R k i j := by
   unfold mkd
   by_cases h1 : j < i
   ·rw [if_pos h1, if_pos (by omega)]
   ·rw [if_neg h1, if_neg (by omega)]
  rw [e2]; exact hr

end Go.Proofs.YtmmhgkkcpjhiiaaDoor

/- The program's TableOf. -/
namespace Go.Proofs.YtmmhgkkcpjhiiaaDoor
open Go.ChangeShapes Go.WideShapes Go.ChangeAt Go.RowKit Go.Joins
set_option linter.unusedVariables false
set_option linter.unusedSimpArgs false

def tabN (key : Int) (l : List Bk) : Nat := if keyB key = true ∧ backsOkB l = true then 8 else 0
/-- The table that is filled: the heads of the first k rows, and none behind. -/
theorem fillT_step {wr : World} {base g : Nat} {hs : List Hd} {k n : Nat} {o : Option Addr} {m c : Nat} (hk : k < n) (hl : hs.length = k) (h : wr.ownsRow base 72 1 (.slice (some ⟨g, 0, none⟩) n n) n ((hs ++ List.replicate (n - k) layH.d).flatMap layH.cs)) :
  (wr.setCell ⟨g, k, none⟩ (.slice o m c)).ownsRow base 72 1 (.slice (some ⟨g, 0, none⟩) n n) n (((hs ++ [(o, m, c)]) ++ List.replicate (n - (k + 1)) layH.d).flatMap layH.cs) := by
 have h1 := (h.stored k (.slice o m c)).1
 rw [flat_set1 layH rfl (a := (o, m, c)) rfl] at h1
 have e1 : n - k = (n - (k + 1)) + 1 := by omega
 rw [e1, List.replicate_succ, List.set_append_right _ _ (by omega), hl, Nat.sub_self, List.set_cons_zero] at h1
 rw [List.append_assoc]
 exact h1

set_option maxHeartbeats 1000000 in
theorem implTableOf_any (key : Int) (o : Option Addr) (cap : Nat) (l : List Bk) (w : World) (hR : RdK w.heap.size w o l) (hlen : l.length ≤ 1048576) :
  Calls Tryd.prog 114 #[.int .i64 key, .slice o l.length cap] w fun e w' => ∃ v, e = .returned v ∧ OwnT w' w.heap.size v (tabN key l) (fun b => pairI key b l) ∧ Below w.heap.size w w' := by
 have hkey := fun w => isKey_any key w
 have hbo := implBacksOk_any o cap l w hR hlen
 by_cases hk : keyB key = true
 ·rw [hk] at hkey
  by_cases hl : backsOkB l = true
  ·rw [hl] at hbo
   have HE := hide (show tabN key l = 8 by rw [tabN, if_pos ⟨hk, hl⟩])
   have HP := hide (fun (b : Nat) W h => implPairOf_any key b o cap l W h hlen)
   obtain ⟨i0, hi, hz0, hz1, hz2⟩ := info_parts infoIntS
   go_enter Tryd.func114, Tryd.ntmps114
   go_wp2_with (first | (go_at_call 87; refine (hkey _).mono ?_; rintro e w1 ⟨rfl, rfl⟩) | (go_at_call 88; refine hbo.mono ?_; rintro e w2 ⟨rfl, hb2⟩) | (at_make; refine wpList_make_full _ rfl _ _ 71 rfl w2.heap.size 72 i0 (.slice none 0 0) 1 Tryd.underlying71 hi hz0 hz1 _ _ _ _ 8 rfl rfl rfl rfl ?b2 ?b3 ?b4 ?_))
   case b2 => rw [hz2]; omega
   case b3 => unfold maxLen; omega
   case b4 => simp
   intro w3 hown hgrow
   have hb3 : Below w2.heap.size w2 w3 := (Below.refl _ _).grown hgrow (Nat.le_refl _) (fun k h => by cases h)
   have hB3 : Below w.heap.size w w3 := hb2.trans (hb3.mono hb2.size)
   have hs2 : w.heap.size ≤ w2.heap.size := hb2.size
   have ho3 : w3.ownsRow w.heap.size 72 1 (.slice (some ⟨w2.heap.size, 0, none⟩) 8 8) 8 ((([] : List Hd) ++ List.replicate (8 - 0) layH.d).flatMap layH.cs) := by
    rw [List.nil_append, Nat.sub_zero, ← made_flat layH (.slice none 0 0) rfl, show layH.k = 1 from rfl, Nat.mul_one]; exact own_mono hown hs2
   clear hown hgrow hb3 hbo hb2
   go_wp2
   go_loopw [18] (fun iv wr => ∃ (k : Nat) (hs : List Hd), k ≤ 8 ∧ iv = .int .i64 k ∧ wr.ownsRow w.heap.size 72 1 (.slice (some ⟨w2.heap.size, 0, none⟩) 8 8) 8 ((hs ++ List.replicate (8 - k) layH.d).flatMap layH.cs) ∧ Tab (fun b => pairI key b l) k wr w.heap.size hs ∧ Below w.heap.size w wr)
    (fun iv _ => 8 - (intOf iv).toNat)
   case atStart => exact ⟨0, [], Nat.zero_le _, rfl, ho3, Tab.nil _ _ _, hB3⟩
   case round =>
    obtain ⟨k, hs, hk8, rfl, hor, htr, hBr⟩ := hrel
    by_cases hlt : k < 8
    ·have hp := HP.out k wr ((hR.kept hBr (Nat.le_refl _)).le hBr.size)
     have HO := hide hor
     have HT := hide htr
     have HB := hide hBr
     have z1 : (k : Int) < 8 := by omega
     have HR := hide hR
     clear hor htr hBr ho3 hB3 hR
     go_wp2_with fail
     refine hp.mono ?_
     rintro e w4 ⟨v4, rfl, hv4, hb4⟩
     obtain ⟨o4, c4, e4, _⟩ := hv4.open
     rw [e4] at hv4 ⊢
     have HO4 := hide (own_kept HO.out hb4)
     have hln : ((hs ++ List.replicate (8 - k) layH.d).flatMap layH.cs).length = 8 := by rw [flat_length, List.length_append, List.length_replicate, HT.out.len, show layH.k = 1 from rfl]; omega
     have hcl := HO4.out.cellAt k (by omega)
     have hfr := HO4.out.frozenAt k
     obtain ⟨u, hu⟩ : ∃ u, w4.cell? ⟨w2.heap.size, k, none⟩ = some u := ⟨_, hcl.trans (List.getElem?_eq_getElem (by omega))⟩
     have HO5 := hide (fillT_step (o := o4) (m := (pairI key k l).length) (c := c4) hlt HT.out.len HO4.out)
     have HT4 := (HT.out.kept hb4).snoc HT.out.lt HB.out.size hv4
     have HT5 := hide (HT4.other HO4.out intNe (HO4.out.stored k (.slice o4 (pairI key k l).length c4)).2)
     have HB5 := hide ((HB.out.trans (hb4.mono HB.out.size)).setCell (p := ⟨w2.heap.size, k, none⟩) hs2 (.slice o4 (pairI key k l).length c4))
     clear hv4 hb4 hcl HT4 e4 hp hln
     generalize (pairI key k l).length = q at *
     go_wp2
     go_roundw
     case rel => exact ⟨k + 1, _, by omega, by go_num, HO5.out, HT5.out, HB5.out⟩
     case measure => simp [intOf]; omega
    ·have e : k = 8 := by omega
     subst e
     have HO := hide hor
     have HT := hide htr
     have HB := hide hBr
     clear hor htr hBr ho3 hB3
     go_wp2
     go_ret
     refine ⟨_, rfl, .inr ⟨w2.heap.size, hs, by rw [HE.out]; rfl, ?_, by rw [HE.out]; exact HT.out⟩, HB.out⟩
     have h1 := HO.out
     rw [Nat.sub_self, List.replicate_zero, List.append_nil] at h1
     unfold ownL
     rw [HT.out.len]
     exact h1
  ·rw [Bool.eq_false_iff.2 hl] at hbo
   have HE := hide (show tabN key l = 0 by rw [tabN, if_neg (fun q => hl q.2)])
   go_enter Tryd.func114, Tryd.ntmps114
   go_wp2_with (first | (go_at_call 87; refine (hkey _).mono ?_; rintro e w1 ⟨rfl, rfl⟩) | (go_at_call 88; refine hbo.mono ?_; rintro e w2 ⟨rfl, hb2⟩))
   go_ret
   exact ⟨_, rfl, .inl ⟨rfl, HE.out⟩, hb2⟩
 ·rw [Bool.eq_false_iff.2 hk] at hkey
  have HE := hide (show tabN key l = 0 by rw [tabN, if_neg (fun q => hk q.1)])
  go_enter Tryd.func114, Tryd.ntmps114
  go_wp2_with (first | (go_at_call 87; refine (hkey _).mono ?_; rintro e w1 ⟨rfl, rfl⟩))
  go_ret
  exact ⟨_, rfl, .inl ⟨rfl, HE.out⟩, Below.refl _ _⟩

end Go.Proofs.YtmmhgkkcpjhiiaaDoor

