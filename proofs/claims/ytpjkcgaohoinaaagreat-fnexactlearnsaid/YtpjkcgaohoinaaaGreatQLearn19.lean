/- Several texts in one: SHeap6, DHeap, DHeap3, DHeap4, DHeap5. -/
import Derived.WalkSmall
import Derived.Test.YtpjkcgaohoinaaaGreatQLearn18
namespace Go.Proofs.YtpjkcgaohoinaaaGreat
open Go.ChangeShapes Go.WideShapes Go.ChangeAt Go.RowKit Go.Joins
set_option linter.unusedVariables false
set_option linter.unusedSimpArgs false

theorem getD_snoc_lt {l : List Sc} {x : Sc} {i : Nat} (h : i < l.length) : (l ++ [x]).getD i (0, 0) = l.getD i (0, 0) := by
 rw [List.getD_eq_getElem?_getD, List.getElem?_append_left h, ← List.getD_eq_getElem?_getD]
theorem getD_snoc_eq {l : List Sc} {x : Sc} : (l ++ [x]).getD l.length (0, 0) = x := by
 rw [List.getD_eq_getElem?_getD, List.getElem?_append_right (Nat.le_refl _), Nat.sub_self]; rfl
theorem up_begin {l : List Sc} {x : Sc} (h : HeapP l l.length) : UpInv (l ++ [x]) (l ++ [x]).length l.length := by
 have hl : (l ++ [x]).length = l.length + 1 := by simp
 rw [hl]
 refine ⟨fun i h1 h2 h3 => ?_, fun h0 i h1 h2 h3 => by omega⟩
 have := h i h1 (by omega)
 unfold fr at *
 rw [getD_snoc_lt (by omega), getD_snoc_lt (by omega)]
 exact this
theorem okD_snoc {l : List Sc} {x : Sc} (h : okD l) (hx : okS x) : okD (l ++ [x]) := fun i hi => by
 have hl : (l ++ [x]).length = l.length + 1 := by simp
 rcases Nat.lt_or_ge i l.length with h1 | h1
 ·rw [getD_snoc_lt h1]; exact h i h1
 ·rw [show i = l.length by omega, getD_snoc_eq]; exact hx

set_option maxRecDepth 100000 in
set_option maxHeartbeats 2000000 in
theorem pushH_any (k : Nat) (v : Value) (l : List Sc) (i g : Int) (w : World) (hb : BrdV k v w l) (hok : okD l) (hx : okS (i, g)) (hh : HeapP l l.length) (hlen : l.length ≤ 1000000) :
  Calls Tryz.prog 104 #[.iface 246 (.pointer (some ⟨k, 0, none⟩)), .iface 250 (.agg #[.int .i64 i, .int .i64 g])] w fun e w' => e = .returned (.tuple #[]) ∧ ∃ g' c l', Brd k g' c w' l' ∧ HeapP l' l'.length ∧ Same (l ++ [(i, g)]) l' (l.length + 1) ∧ okD l' ∧ Below k w w' := by
 have eP : ∀ args w, (callFunc 193 args).run Tryz.prog w = .ok (.enter 193 args) w := enters_of Tryz.func193 (by kernel_rfl) rfl
 have eN : ∀ args w, (callFunc 190 args).run Tryz.prog w = .ok (.enter 190 args) w := enters_of Tryz.func190 (by kernel_rfl) rfl
 have mP := fun w => finds_ptr' (k := k) (w := w) methPush
 have hl : (l ++ [(i, g)]).length = l.length + 1 := by simp
 go_enter Tryz.func104, Tryz.ntmps104
 go_wp2_with fail
 refine (sbPush_any k v l i g w hb hlen).mono ?_
 rintro e w1 ⟨rfl, g1, c1, hb1, hw1⟩
 have mN := finds_val' methLen hb1.cell
 rw [hl] at mN
 go_wp2_with (go_at_call 190; refine (sbLen_any _ _ _ _).mono ?_; rintro e w2 ⟨rfl, rfl⟩)
 have hjj : (((l.length + 1 : Nat) : Int) - 1) = (l.length : Int) := by omega
 refine (up_any k g1 c1 (l ++ [(i, g)]) l.length w1 hb1 (by omega) (okD_snoc hok hx) (up_begin hh) (by omega)).mono ?_
 rintro e w3 ⟨rfl, l3, hb3, hh3, hs3, ho3, hg3⟩
 have hge := hb1.ge
 have hlt := hb1.lt
 have HB : Hid (Below k w w3) := hw1.trans ((Below.refl k w1).grown hg3 (by omega) (fun b e => by cases e; omega))
 have HH : Hid (HeapP l3 l3.length) := by unfold Hid; rw [hs3.1]; exact hh3
 have HS : Hid (Same (l ++ [(i, g)]) l3 (l.length + 1)) := by unfold Hid; rw [← hl]; exact hs3
 clear mN mP hh3 hs3 hw1 hg3
 go_wp2
 go_end0
 exact ⟨rfl, g1, c1, l3, hb3, HH.out, HS.out, ho3, HB.out⟩

set_option maxRecDepth 100000 in
set_option maxHeartbeats 2000000 in
theorem sbPop_any (k g c : Nat) (l : List Sc) (x y : Int) (w : World) (hb : Brd k g c w (l ++ [(x, y)])) (hlen : l.length ≤ 1000000) :
  Calls Tryz.prog 192 #[.pointer (some ⟨k, 0, none⟩)] w fun e w' => e = .returned (.iface 250 (.agg #[.int .i64 x, .int .i64 y])) ∧ Brd k g c w' l ∧ Below k w w' := by
 have hl : (l ++ [(x, y)]).length = l.length + 1 := by simp
 have cb := hb.cell
 have fb := hb.v.frozen
 have hk := hb.v.lt
 rw [hl] at cb
 have hR := hb.row.rd
 rcases hR with hR | ⟨b, off, e0, hbl, hcell⟩
 ·simp at hR
 cases e0
 have hc := RdL.sc hcell l.length (by omega)
 rw [getD_snoc_eq] at hc
 simp only [Nat.zero_add] at hc
 obtain ⟨c0, c1⟩ := hc
 clear hcell
 have hcap : l.length + 1 ≤ c := by
  rcases hb.row.2 with ⟨h', _⟩ | ⟨g', cap', cur, h', _, _, hn, _⟩
  ·simp at h'
  ·simp only [Value.slice.injEq] at h'
   rw [← h'.2.2] at hn; omega
 have hrow : w.ownsRow (k + 1) 250 2 (.slice (some ⟨g, 0, none⟩) l.length c) l.length (l.flatMap layD.cs) := by
  have h1 := hb.row
  unfold ownD ownL at h1
  rw [hl, List.flatMap_append] at h1
  exact ownsRow_pop (flat_length layD l) h1
 have HB := hide hb
 have HR := hide hrow
 clear hb hrow
 go_enter Tryz.func192, Tryz.ntmps192
 go_wp2
 go_ret
 refine ⟨rfl, ⟨?_, ?_⟩, ?_⟩
 ·exact (((Below.refl w.heap.size _).alloc (by simp) _).block k hk).trans (box_setH HB.out.box)
 ·exact (ownsRow_setCell_below HR.out (a := ⟨k, 0, none⟩) (Nat.lt_succ_self k) _).alloc _
 ·exact ((Below.refl k w).setCell (p := ⟨k, 0, none⟩) (Nat.le_refl _) _).alloc (by simp; omega) _

def Rest (l l' : List Sc) : Prop := l'.length + 1 = l.length ∧ ∀ z, (∃ i, i < l'.length ∧ l'.getD i (0, 0) = z) ↔ (∃ i, 1 ≤ i ∧ i < l.length ∧ l.getD i (0, 0) = z)

theorem down_begin {l : List Sc} {n : Nat} (h : HeapP l (n + 1)) (hn : n + 1 = l.length) : DownInv (swapD l 0 n) n 0 := by
 have F : ∀ m, fr (swapD l 0 n) m = if m = n then fr l 0 else if m = 0 then fr l n else fr l m := fun m => swapD_fr l 0 n m (by omega) (by omega)
 refine ⟨fun c h1 h2 h3 => ?_, fun h0 => by omega⟩
 rw [F, F, if_neg (by omega), if_neg h3, if_neg (by omega), if_neg (by omega)]
 exact h c h1 (by omega)
theorem getD_take {l : List Sc} {n i : Nat} (h : i < n) : (l.take n).getD i (0, 0) = l.getD i (0, 0) := by
 simp [List.getD_eq_getElem?_getD, List.getElem?_take, h]

set_option maxRecDepth 100000 in
set_option maxHeartbeats 2000000 in
theorem popH_any (k g c : Nat) (l : List Sc) (n : Nat) (w : World) (hb : Brd k g c w l) (hn : n + 1 = l.length) (hok : okD l) (hh : HeapP l l.length) (hlen : l.length ≤ 1000000) :
  Calls Tryz.prog 106 #[.iface 246 (.pointer (some ⟨k, 0, none⟩))] w fun e w' => (∃ v, e = .returned v) ∧ ∃ l', Brd k g c w' l' ∧ HeapP l' l'.length ∧ Rest l l' ∧ okD l' ∧ Below k w w' := by
 have eP : ∀ args w, (callFunc 192 args).run Tryz.prog w = .ok (.enter 192 args) w := enters_of Tryz.func192 (by kernel_rfl) rfl
 have eN : ∀ args w, (callFunc 190 args).run Tryz.prog w = .ok (.enter 190 args) w := enters_of Tryz.func190 (by kernel_rfl) rfl
 have eS : ∀ args w, (callFunc 194 args).run Tryz.prog w = .ok (.enter 194 args) w := enters_of Tryz.func194 (by kernel_rfl) rfl
 have mP := fun w => finds_ptr' (k := k) (w := w) methPop
 have mN := finds_val' methLen hb.cell
 have mS := finds_val' methSwap hb.cell
 have hni : (l.length : Int) - 1 = (n : Int) := by omega
 have HN := hide hn
 have hge := hb.ge
 have hlt := hb.lt
 clear hn
 go_enter Tryz.func106, Tryz.ntmps106
 go_wp2_with (first | (go_at_call 190; refine (sbLen_any _ _ _ _).mono ?_; rintro e w2 ⟨rfl, rfl⟩))
 have hsw := sbSwap_any (k + 1) g c l 0 n w hb.row (by have := HN.out; omega) (by have := HN.out; omega) (by omega)
 refine hsw.mono ?_
 rintro e w1 ⟨rfl, ho1, hg1⟩
 have hb1 := hb.swap ho1 hg1
 have hB1 : Below k w w1 := (Below.refl k w).grown hg1 (by omega) (fun b e => by cases e; omega)
 have hlt1 := hb1.lt
 have hdn := down_any k g c (swapD l 0 n) n w1 hb1 (by rw [swapD_length]; have := HN.out; omega) (swapD_ok 0 n (by have := HN.out; omega) (by have := HN.out; omega) hok) (down_begin (HN.out.symm ▸ hh) HN.out) (by rw [swapD_length]; omega)
 clear mN mS hsw ho1 hg1 hb
 go_wp2_with fail
 refine hdn.mono ?_
 rintro e w2 ⟨⟨r, rfl⟩, l2, hb2, hh2, hs2, ho2, hg2⟩
 have hB2 : Below k w w2 := hB1.trans ((Below.refl k w1).grown hg2 (by omega) (fun b e => by cases e; omega))
 have hl2 : l2.length = n + 1 := by rw [hs2.1, swapD_length]; exact HN.out.symm
 have e2 : l2 = l2.take n ++ [((l2.getD n (0, 0)).1, (l2.getD n (0, 0)).2)] := by
  have := takeL_succ layD l2 n (by omega)
  rw [List.take_of_length_le (by omega)] at this
  exact this
 have hln : (l2.take n).length = n := by simp; omega
 have hpp := sbPop_any k g c (l2.take n) (l2.getD n (0, 0)).1 (l2.getD n (0, 0)).2 w2 (e2 ▸ hb2) (by omega)
 have HH : Hid (HeapP (l2.take n) (l2.take n).length) := by
  unfold Hid; rw [hln]; intro i h1 h2
  have := hh2 i h1 h2
  unfold fr at *
  rw [getD_take (by omega), getD_take h2]; exact this
 have HO : Hid (okD (l2.take n)) := fun i hi => by rw [getD_take (by omega)]; exact ho2 i (by omega)
 have HR : Hid (Rest l (l2.take n)) := by
  refine ⟨by rw [hln]; exact HN.out, fun z => ?_⟩
  rw [hln]
  have h1 : (∃ i, i < n ∧ (l2.take n).getD i (0, 0) = z) ↔ (∃ i, i < n ∧ l2.getD i (0, 0) = z) :=
   ⟨fun ⟨i, hi, e⟩ => ⟨i, hi, by rw [← getD_take hi]; exact e⟩, fun ⟨i, hi, e⟩ => ⟨i, hi, by rw [getD_take hi]; exact e⟩⟩
  rw [h1, hs2.2.1 z]
  have hnn := HN.out
  constructor
  ·rintro ⟨i, hi, e⟩
   rw [swapD_get l 0 n i (by omega) (by omega), if_neg (by omega)] at e
   by_cases h0 : i = 0
   ·rw [if_pos h0] at e
    subst h0
    exact ⟨n, by omega, by omega, e⟩
   ·rw [if_neg h0] at e
    exact ⟨i, by omega, by omega, e⟩
  ·rintro ⟨i, hi1, hi2, e⟩
   by_cases h0 : i = n
   ·refine ⟨0, by omega, ?_⟩
    rw [swapD_get l 0 n 0 (by omega) (by omega), if_neg (by omega), if_pos rfl, ← h0]; exact e
   ·refine ⟨i, by omega, ?_⟩
    rw [swapD_get l 0 n i (by omega) (by omega), if_neg h0, if_neg (by omega)]; exact e
 clear hdn hb1 hb2 hh2 hs2 ho2 hg2 e2 hB1
 go_wp2_with fail
 refine hpp.mono ?_
 rintro e w3 ⟨rfl, hb3, hB3⟩
 clear mP hpp
 go_wp2
 go_ret
 exact ⟨⟨_, rfl⟩, l2.take n, hb3, HH.out, HR.out, HO.out, hB2.trans hB3⟩

end Go.Proofs.YtpjkcgaohoinaaaGreat

namespace Go.Proofs.YtpjkcgaohoinaaaGreat.Dep
open Go.ChangeShapes Go.WideShapes Go.ChangeAt Go.RowKit Go.Joins
set_option linter.unusedVariables false
set_option linter.unusedSimpArgs false

theorem methLess : (Tryz.prog.info? 169).map (fun i => (i.methods.find? (fun m => m.name == "Less")).map (fun m => (m.path, m.func))) = some (some (#[], some (185, false))) := by kernel_rfl
theorem methSwap : (Tryz.prog.info? 169).map (fun i => (i.methods.find? (fun m => m.name == "Swap")).map (fun m => (m.path, m.func))) = some (some (#[], some (188, false))) := by kernel_rfl
theorem methLen : (Tryz.prog.info? 169).map (fun i => (i.methods.find? (fun m => m.name == "Len")).map (fun m => (m.path, m.func))) = some (some (#[], some (105, false))) := by kernel_rfl
theorem methPush : (Tryz.prog.info? 169).map (fun i => (i.methods.find? (fun m => m.name == "Push")).map (fun m => (m.path, m.func))) = some (some (#[], some (187, true))) := by kernel_rfl
theorem methPop : (Tryz.prog.info? 169).map (fun i => (i.methods.find? (fun m => m.name == "Pop")).map (fun m => (m.path, m.func))) = some (some (#[], some (186, true))) := by kernel_rfl
theorem ptrSb : Tryz.prog.underlying 169 = some (.pointer 171) := Tryz.underlying169

set_option maxRecDepth 100000 in
theorem finds_val {name : String} {f : FuncId} {k : Nat} {v : Value} {w : World} (hm : (Tryz.prog.info? 169).map (fun i => (i.methods.find? (fun m => m.name == name)).map (fun m => (m.path, m.func))) = some (some (#[], some (f, false))))
  (hc : w.cell? ⟨k, 0, none⟩ = some v) : Sem.run Tryz.prog (method (Tryz.prog.types.size + 100) 169 (.pointer (some ⟨k, 0, none⟩)) name) w = .ok (f, v) w := by
 obtain ⟨i, hi, hf⟩ := Option.map_eq_some_iff.1 hm
 obtain ⟨m, hm1, hm2⟩ := Option.map_eq_some_iff.1 hf
 simp only [Prod.mk.injEq] at hm2
 have ht := run_typeInfo (w := w) hi
 have hu := run_underlying ptrSb w
 unfold method
 simp only [Sem.run_bind, ht, Result.andThen]
 rw [hm1]
 simp only [hm2.1, hm2.2]
 simp [follow, receiverAt, Sem.run_bind, hu, Place.get, wrapchk, asAddr, hc, go_sem]
set_option maxRecDepth 100000 in
theorem finds_ptr {name : String} {f : FuncId} {k : Nat} {w : World} (hm : (Tryz.prog.info? 169).map (fun i => (i.methods.find? (fun m => m.name == name)).map (fun m => (m.path, m.func))) = some (some (#[], some (f, true)))) :
  Sem.run Tryz.prog (method (Tryz.prog.types.size + 100) 169 (.pointer (some ⟨k, 0, none⟩)) name) w = .ok (f, .pointer (some ⟨k, 0, none⟩)) w := by
 obtain ⟨i, hi, hf⟩ := Option.map_eq_some_iff.1 hm
 obtain ⟨m, hm1, hm2⟩ := Option.map_eq_some_iff.1 hf
 simp only [Prod.mk.injEq] at hm2
 have ht := run_typeInfo (w := w) hi
 have hu := run_underlying ptrSb w
 unfold method
 simp only [Sem.run_bind, ht, Result.andThen]
 rw [hm1]
 simp only [hm2.1, hm2.2]
 simp [follow, receiverAt, Sem.run_bind, hu, Place.get, go_sem]
theorem finds_val' {name : String} {f : FuncId} {k : Nat} {v : Value} {w : World} (hm : (Tryz.prog.info? 169).map (fun i => (i.methods.find? (fun m => m.name == name)).map (fun m => (m.path, m.func))) = some (some (#[], some (f, false))))
  (hc : w.cell? ⟨k, 0, none⟩ = some v) : Sem.run Tryz.prog (method 367 169 (.pointer (some ⟨k, 0, none⟩)) name) w = .ok (f, v) w := by
 rw [← typesSize]; exact finds_val hm hc
theorem finds_ptr' {name : String} {f : FuncId} {k : Nat} {w : World} (hm : (Tryz.prog.info? 169).map (fun i => (i.methods.find? (fun m => m.name == name)).map (fun m => (m.path, m.func))) = some (some (#[], some (f, true)))) :
  Sem.run Tryz.prog (method 367 169 (.pointer (some ⟨k, 0, none⟩)) name) w = .ok (f, .pointer (some ⟨k, 0, none⟩)) w := by
 rw [← typesSize]; exact finds_ptr hm

abbrev ownD := ownL layD 117
def lessD (a b : Sc) : Bool := if a.1 = b.1 then decide (a.2 < b.2) else decide (a.1 < b.1)
theorem ownD_set {w : World} {base g c : Nat} {l : List Sc} {n i : Nat} {x y : Int} (h : w.ownsRow base 117 2 (.slice (some ⟨g, 0, none⟩) n c) n (l.flatMap layD.cs)) :
  ((w.setCell ⟨g, i * 2, none⟩ (.int .i64 x)).setCell ⟨g, i * 2 + 1, none⟩ (.int .i64 y)).ownsRow base 117 2 (.slice (some ⟨g, 0, none⟩) n c) n ((l.set i (x, y)).flatMap layD.cs) ∧ w.grownBy ((w.setCell ⟨g, i * 2, none⟩ (.int .i64 x)).setCell ⟨g, i * 2 + 1, none⟩ (.int .i64 y)) (some g) := by
 have h1 := h.stored (i * 2) (.int .i64 x)
 have h2 := h1.1.stored (i * 2 + 1) (.int .i64 y)
 rw [flat_set2h layD rfl (a := (x, y)) rfl] at h2
 exact ⟨h2.1, grown_tr h1.2 h2.2⟩
theorem swapD_own {w : World} {base g c : Nat} {l : List Sc} {i j : Nat} {xi xs yi ys : Int} (h : ownD w base (.slice (some ⟨g, 0, none⟩) l.length c) l) (hi : l.getD i (0, 0) = (xi, xs)) (hj : l.getD j (0, 0) = (yi, ys)) :
  ownD ((((w.setCell ⟨g, i * 2, none⟩ (.int .i64 yi)).setCell ⟨g, i * 2 + 1, none⟩ (.int .i64 ys)).setCell ⟨g, j * 2, none⟩ (.int .i64 xi)).setCell ⟨g, j * 2 + 1, none⟩ (.int .i64 xs)).drew base (.slice (some ⟨g, 0, none⟩) l.length c) (swapD l i j) ∧
   w.grownBy ((((w.setCell ⟨g, i * 2, none⟩ (.int .i64 yi)).setCell ⟨g, i * 2 + 1, none⟩ (.int .i64 ys)).setCell ⟨g, j * 2, none⟩ (.int .i64 xi)).setCell ⟨g, j * 2 + 1, none⟩ (.int .i64 xs)).drew (some g) := by
 have h1 := ownD_set (i := i) (x := yi) (y := ys) h
 have h2 := ownD_set (i := j) (x := xi) (y := xs) h1.1
 have h3 := grown_tr h1.2 h2.2
 refine ⟨?_, ⟨h3.os, h3.tape, h3.output, h3.size, h3.block⟩⟩
 have h4 := h2.1.drew
 unfold ownD ownL swapD
 rw [hi, hj, show ((l.set i (yi, ys)).set j (xi, xs)).length = l.length by simp]
 exact h4

set_option maxHeartbeats 400000 in
theorem dpLen_any (o : Option Addr) (n c : Nat) (w : World) : Calls Tryz.prog 105 #[.slice o n c] w fun e w' => e = .returned (.int .i64 n) ∧ w = w' := by
 go_enter Tryz.func105, Tryz.ntmps105
 go_wp2
 go_ret
 exact ⟨rfl, rfl⟩

set_option maxHeartbeats 1000000 in
theorem dpLess_any (o : Option Addr) (c : Nat) (l : List Sc) (i j : Nat) (w : World) (C : Nat) (hR : RdL layD C w o l) (hi : i < l.length) (hj : j < l.length) (hlen : l.length ≤ 1048576) :
  Calls Tryz.prog 185 #[.slice o l.length c, .int .i64 i, .int .i64 j] w fun e w' => e = .returned (.bool (lessD (l.getD i (0, 0)) (l.getD j (0, 0)))) ∧ ∃ q, w' = w.drewN q := by
 rcases hR with hR | ⟨b, off, rfl, hbl, hcell⟩
 ·subst hR; simp at hi
 have ci := RdL.sc hcell i hi
 have cj := RdL.sc hcell j hj
 clear hcell
 generalize l.getD i (0, 0) = x at *
 generalize l.getD j (0, 0) = y at *
 obtain ⟨xi, xs⟩ := x
 obtain ⟨yi, ys⟩ := y
 dsimp only at ci cj
 obtain ⟨ci0, ci1⟩ := ci
 obtain ⟨cj0, cj1⟩ := cj
 have z1 : (i : Int) < (l.length : Int) := by omega
 have z2 : (j : Int) < (l.length : Int) := by omega
 by_cases hs : xi = yi
 ·have hn : (xi != yi) = false := by simp [hs]
  have HE := hide (show decide (xs < ys) = lessD (xi, xs) (yi, ys) by simp [lessD, hs])
  clear hs
  go_enter Tryz.func185, Tryz.ntmps185
  go_wp2
  go_quiet (fail)
  go_wp2
  go_quiet (fail)
  go_wp2
  go_ret
  exact ⟨ret_bool HE.out, _, (World.drewN_drewN _ _ _)⟩
 ·have hn : (xi != yi) = true := by simp [hs]
  have HE := hide (show decide (xi < yi) = lessD (xi, xs) (yi, ys) by simp [lessD, hs])
  clear hs
  go_enter Tryz.func185, Tryz.ntmps185
  go_wp2
  go_quiet (fail)
  go_wp2
  go_quiet (fail)
  go_wp2
  go_ret
  exact ⟨ret_bool HE.out, _, (World.drewN_drewN _ _ _)⟩

set_option maxHeartbeats 2000000 in
theorem dpSwap_any (base g c : Nat) (l : List Sc) (i j : Nat) (w : World) (hown : ownD w base (.slice (some ⟨g, 0, none⟩) l.length c) l) (hi : i < l.length) (hj : j < l.length) (hlen : l.length ≤ 1048576) :
  Calls Tryz.prog 188 #[.slice (some ⟨g, 0, none⟩) l.length c, .int .i64 i, .int .i64 j] w fun e w' => e = .returned (.tuple #[]) ∧ ownD w' base (.slice (some ⟨g, 0, none⟩) l.length c) (swapD l i j) ∧ w.grownBy w' (some g) := by
 have hR := hown.rd
 rcases hR with hR | ⟨b, off, e0, hbl, hcell⟩
 ·subst hR; simp at hi
 cases e0
 have ci := RdL.sc hcell i hi
 have cj := RdL.sc hcell j hj
 clear hcell
 simp only [Nat.zero_add] at ci cj
 have z1 : (i : Int) < (l.length : Int) := by omega
 have z2 : (j : Int) < (l.length : Int) := by omega
 have fi0 := hown.frozenAt (i * 2)
 have fi1 := hown.frozenAt (i * 2 + 1)
 have fj0 := hown.frozenAt (j * 2)
 have fj1 := hown.frozenAt (j * 2 + 1)
 have HO := hide hown
 clear hown
 have HS := hide (show (l.set i (l.getD j (0, 0))).set j (l.getD i (0, 0)) = swapD l i j from rfl)
 have HL := hide hlen
 generalize hgi : l.getD i (0, 0) = x at *
 generalize hgj : l.getD j (0, 0) = y at *
 have HGI := hide hgi
 have HGJ := hide hgj
 clear hgi hgj
 obtain ⟨xi, xs⟩ := x
 obtain ⟨yi, ys⟩ := y
 dsimp only at ci cj
 obtain ⟨ci0, ci1⟩ := ci
 obtain ⟨cj0, cj1⟩ := cj
 obtain ⟨a0, ha0⟩ := cell?_setCell_some (w := w) (p := ⟨g, i * 2, none⟩) (x := .int .i64 yi) cj0
 obtain ⟨a1, ha1⟩ := cell?_setCell_some (w := w) (p := ⟨g, i * 2, none⟩) (x := .int .i64 yi) cj1
 obtain ⟨b0, hb0⟩ := cell?_setCell_some (p := ⟨g, i * 2 + 1, none⟩) (x := .int .i64 ys) ha0
 obtain ⟨b1, hb1⟩ := cell?_setCell_some (p := ⟨g, i * 2 + 1, none⟩) (x := .int .i64 ys) ha1
 obtain ⟨c1, hc1⟩ := cell?_setCell_some (p := ⟨g, j * 2, none⟩) (x := .int .i64 xi) hb1
 go_enter Tryz.func188, Tryz.ntmps188
 go_wp2
 go_region
 all_goals (try go_wp2)
 all_goals go_end0
 all_goals exact ⟨rfl, swapD_own HO.out HGI.out HGJ.out⟩


def rank (a : Sc) : Int := 16 * a.1 + a.2
def okS (a : Sc) : Prop := 0 ≤ a.2 ∧ a.2 < 16
theorem lessD_rank {a b : Sc} (ha : okS a) (hb : okS b) : lessD a b = decide (rank a < rank b) := by
 obtain ⟨a1, a2⟩ := a
 obtain ⟨b1, b2⟩ := b
 unfold okS at ha hb
 unfold lessD rank
 dsimp only at *
 by_cases h : a1 = b1
 ·rw [if_pos h]; congr 1; apply propext; constructor <;> intro <;> omega
 ·rw [if_neg h]; congr 1; apply propext; constructor <;> intro <;> omega
def Same (l l' : List Sc) (n : Nat) : Prop := Go.Proofs.YtpjkcgaohoinaaaGreat.Same l l' n ∧ ∀ i, n ≤ i → l'.getD i (0, 0) = l.getD i (0, 0)
theorem Same.refl (l : List Sc) (n : Nat) : Same l l n := ⟨Go.Proofs.YtpjkcgaohoinaaaGreat.Same.refl l n, fun _ _ => rfl⟩
theorem Same.trans {a b c : List Sc} {n : Nat} (h : Same a b n) (k : Same b c n) : Same a c n := ⟨Go.Proofs.YtpjkcgaohoinaaaGreat.Same.trans h.1 k.1, fun i hi => (k.2 i hi).trans (h.2 i hi)⟩
theorem swapD_same {l : List Sc} (i j n : Nat) (hi : i < n) (hj : j < n) (hn : n ≤ l.length) : Same l (swapD l i j) n :=
 ⟨Go.Proofs.YtpjkcgaohoinaaaGreat.swapD_same i j n hi hj hn, fun m hm => by rw [swapD_get l i j m (by omega) (by omega), if_neg (by omega), if_neg (by omega)]⟩

abbrev fr (l : List Sc) (i : Nat) : Int := rank (l.getD i (0, 0))
def okD (l : List Sc) : Prop := ∀ i, i < l.length → okS (l.getD i (0, 0))
def HeapP (l : List Sc) (n : Nat) : Prop := ∀ i, 1 ≤ i → i < n → fr l ((i - 1) / 2) ≤ fr l i
def UpInv (l : List Sc) (n j : Nat) : Prop := (∀ i, 1 ≤ i → i < n → i ≠ j → fr l ((i - 1) / 2) ≤ fr l i) ∧ (1 ≤ j → ∀ i, 1 ≤ i → i < n → (i - 1) / 2 = j → fr l ((j - 1) / 2) ≤ fr l i)
def DownInv (l : List Sc) (n i : Nat) : Prop := (∀ c, 1 ≤ c → c < n → (c - 1) / 2 ≠ i → fr l ((c - 1) / 2) ≤ fr l c) ∧ (1 ≤ i → ∀ c, 1 ≤ c → c < n → (c - 1) / 2 = i → fr l ((i - 1) / 2) ≤ fr l c)
theorem swapD_fr (l : List Sc) (i j m : Nat) (hi : i < l.length) (hj : j < l.length) : fr (swapD l i j) m = if m = j then fr l i else if m = i then fr l j else fr l m := by
 unfold fr; rw [swapD_get l i j m hi hj]; split
 ·rfl
 ·split <;> rfl
theorem swapD_ok {l : List Sc} (i j : Nat) (hi : i < l.length) (hj : j < l.length) (h : okD l) : okD (swapD l i j) := fun m hm => by
 rw [swapD_length] at hm
 rw [swapD_get l i j m hi hj]
 split
 ·exact h i hi
 ·split
  ·exact h j hj
  ·exact h m hm
theorem up_done {l : List Sc} {n j : Nat} (h : UpInv l n j) (hj : j = 0 ∨ fr l ((j - 1) / 2) ≤ fr l j) : HeapP l n := fun i h1 h2 => by
 by_cases e : i = j
 ·subst e
  rcases hj with h0 | h0
  ·omega
  ·exact h0
 ·exact h.1 i h1 h2 e
theorem up_step {l : List Sc} {n j p : Nat} (h : UpInv l n j) (hp : p = (j - 1) / 2) (hj0 : 1 ≤ j) (hjn : j < n) (hn : n ≤ l.length) (hlt : fr l j < fr l p) : UpInv (swapD l p j) n p := by
 have pj : p < j := by omega
 have F : ∀ m, fr (swapD l p j) m = if m = j then fr l p else if m = p then fr l j else fr l m := fun m => swapD_fr l p j m (by omega) (by omega)
 refine ⟨fun i h1 h2 h3 => ?_, fun hp1 i h1 h2 h3 => ?_⟩
 ·by_cases e1 : i = j
  ·subst e1
   rw [F, F, if_pos rfl, ← hp, if_neg (by omega), if_pos rfl]; omega
  ·by_cases e2 : (i - 1) / 2 = j
   ·rw [e2, F, F, if_pos rfl, if_neg e1, if_neg h3]
    have := h.2 hj0 i h1 h2 e2
    rw [← hp] at this; exact this
   ·by_cases e3 : (i - 1) / 2 = p
    ·have := h.1 i h1 h2 e1
     rw [e3] at this ⊢
     rw [F, F, if_neg (by omega), if_pos rfl, if_neg e1, if_neg h3]; omega
    ·have := h.1 i h1 h2 e1
     rw [F, F, if_neg e2, if_neg e3, if_neg e1, if_neg h3]; exact this
 ·have hpp : (p - 1) / 2 < p := by omega
  have h4 := h.1 p hp1 (by omega) (by omega)
  rw [F ((p - 1) / 2), if_neg (by omega), if_neg (by omega), F i]
  by_cases e1 : i = j
  ·rw [if_pos e1]; exact h4
  ·rw [if_neg e1, if_neg (by omega)]
   have h5 := h.1 i h1 h2 e1
   rw [h3] at h5; omega
theorem down_done {l : List Sc} {n i : Nat} (h : DownInv l n i) (hc : ∀ c, 1 ≤ c → c < n → (c - 1) / 2 = i → fr l i ≤ fr l c) : HeapP l n := fun c h1 h2 => by
 by_cases e : (c - 1) / 2 = i
 ·rw [e]; exact hc c h1 h2 e
 ·exact h.1 c h1 h2 e
theorem down_step {l : List Sc} {n i j : Nat} (h : DownInv l n i) (hj1 : 1 ≤ j) (hjn : j < n) (hp : (j - 1) / 2 = i) (hn : n ≤ l.length) (hlt : fr l j < fr l i) (hbest : ∀ c, 1 ≤ c → c < n → (c - 1) / 2 = i → fr l j ≤ fr l c) : DownInv (swapD l i j) n j := by
 have ij : i < j := by omega
 have F : ∀ m, fr (swapD l i j) m = if m = j then fr l i else if m = i then fr l j else fr l m := fun m => swapD_fr l i j m (by omega) (by omega)
 refine ⟨fun c h1 h2 h3 => ?_, fun _ c h1 h2 h3 => ?_⟩
 ·by_cases e1 : (c - 1) / 2 = i
  ·rw [e1, F i, if_neg (by omega), if_pos rfl, F c]
   by_cases e2 : c = j
   ·rw [if_pos e2]; omega
   ·rw [if_neg e2, if_neg (by omega)]; exact hbest c h1 h2 e1
  ·rw [F ((c - 1) / 2), if_neg h3, if_neg e1, F c]
   have h4 := h.1 c h1 h2 e1
   by_cases e2 : c = j
   ·subst e2; omega
   ·rw [if_neg e2]
    by_cases e3 : c = i
    ·subst e3
     rw [if_pos rfl]
     have := h.2 h1 j hj1 hjn hp
     exact this
    ·rw [if_neg e3]; exact h4
 ·rw [hp, F i, if_neg (by omega), if_pos rfl, F c, if_neg (by omega), if_neg (by omega)]
  have := h.1 c h1 h2 (by omega)
  rw [h3] at this; exact this
theorem heap_top {l : List Sc} {n : Nat} (h : HeapP l n) : ∀ i, i < n → fr l 0 ≤ fr l i := fun i => by
 induction i using Nat.strongRecOn with
 | _ i ih =>
  intro hi
  by_cases h0 : i = 0
  ·subst h0; exact Int.le_refl _
  ·exact Int.le_trans (ih ((i - 1) / 2) (by omega) (by omega)) (h i (by omega) hi)

end Go.Proofs.YtpjkcgaohoinaaaGreat.Dep

namespace Go.Proofs.YtpjkcgaohoinaaaGreat.Dep
open Go.ChangeShapes Go.WideShapes Go.ChangeAt Go.RowKit Go.Joins
set_option linter.unusedVariables false
set_option linter.unusedSimpArgs false

structure Brd (k g c : Nat) (w : World) (l : List Sc) : Prop where
 box : w.heap[k]? = some (.cells #[.slice (some ⟨g, 0, none⟩) l.length c] 171 (0, 0))
 row : ownD w (k + 1) (.slice (some ⟨g, 0, none⟩) l.length c) l
theorem Brd.cell {k g c : Nat} {w : World} {l : List Sc} (h : Brd k g c w l) : w.cell? ⟨k, 0, none⟩ = some (.slice (some ⟨g, 0, none⟩) l.length c) := by
 simp [World.cell?, h.box]
theorem Brd.ge {k g c : Nat} {w : World} {l : List Sc} (h : Brd k g c w l) : k + 1 ≤ g := (h.row.lt g rfl).1
theorem Brd.lt {k g c : Nat} {w : World} {l : List Sc} (h : Brd k g c w l) : g < w.heap.size := (h.row.lt g rfl).2
theorem Brd.drewN {k g c : Nat} {w : World} {l : List Sc} (h : Brd k g c w l) (q : Nat) : Brd k g c (w.drewN q) l := ⟨h.box, h.row⟩
theorem Brd.swap {k g c : Nat} {w w' : World} {l : List Sc} {i j : Nat} (h : Brd k g c w l) (ho : ownD w' (k + 1) (.slice (some ⟨g, 0, none⟩) l.length c) (swapD l i j)) (hg : w.grownBy w' (some g)) : Brd k g c w' (swapD l i j) := by
 refine ⟨?_, by rw [swapD_length]; exact ho⟩
 rw [swapD_length]
 have hlt : k < w.heap.size := (Array.getElem?_eq_some_iff.1 h.box).1
 exact (hg.block k hlt (by have := h.ge; simp; omega)).trans h.box
set_option maxRecDepth 100000 in
set_option maxHeartbeats 2000000 in
theorem up_any (k g c : Nat) (l : List Sc) (j : Nat) (w : World) (hb : Brd k g c w l) (hj : j < l.length) (hok : okD l) (hinv : UpInv l l.length j) (hlen : l.length ≤ 1048576) :
  Calls Tryz.prog 133 #[.iface 169 (.pointer (some ⟨k, 0, none⟩)), .int .i64 j] w fun e w' => e = .returned (.tuple #[]) ∧ ∃ l', Brd k g c w' l' ∧ HeapP l' l.length ∧ Same l l' l.length ∧ okD l' ∧ w.grownBy w' (some g) := by
 have eL : ∀ args w, (callFunc 185 args).run Tryz.prog w = .ok (.enter 185 args) w := enters_of Tryz.func185 (by kernel_rfl) rfl
 have eS : ∀ args w, (callFunc 188 args).run Tryz.prog w = .ok (.enter 188 args) w := enters_of Tryz.func188 (by kernel_rfl) rfl
 go_enter Tryz.func133, Tryz.ntmps133
 go_wp2
 go_loopw [1] (fun jv wr => ∃ (q : Nat) (lq : List Sc), jv = .int .i64 q ∧ q < l.length ∧ lq.length = l.length ∧ Brd k g c wr lq ∧ UpInv lq l.length q ∧ Same l lq l.length ∧ okD lq ∧ w.grownBy wr (some g))
  (fun jv _ => (intOf jv).toNat)
 case atStart => exact ⟨j, l, rfl, hj, rfl, hb, hinv, Same.refl _ _, hok, World.grownBy.refl _ _⟩
 case round =>
  obtain ⟨q, lq, rfl, hq, hlq, hbq, hiq, hsq, hoq, hgq⟩ := hrel
  have hcell := hbq.cell
  rcases Nat.eq_zero_or_pos q with h0 | h0
  ·subst h0
   have HF := hide (up_done hiq (.inl rfl))
   go_wp2
   go_end0
   exact ⟨rfl, lq, hbq, HF.out, hsq, hoq, hgq⟩
  ·obtain ⟨p, hp⟩ : ∃ p, p = (q - 1) / 2 := ⟨_, rfl⟩
   have hpi : ((q : Int) - 1) / 2 = (p : Int) := by omega
   have hpq : p < q := by omega
   have HP := hide hp
   clear hp
   have mL : ∀ n, Sem.run Tryz.prog (method 367 169 (.pointer (some ⟨k, 0, none⟩)) "Less") (wr.drewN n) = .ok (185, .slice (some ⟨g, 0, none⟩) lq.length c) (wr.drewN n) := fun n => finds_val' methLess (hbq.drewN n).cell
   have mL0 : Sem.run Tryz.prog (method 367 169 (.pointer (some ⟨k, 0, none⟩)) "Less") wr = .ok (185, .slice (some ⟨g, 0, none⟩) lq.length c) wr := finds_val' methLess hcell
   have mS : ∀ n, Sem.run Tryz.prog (method 367 169 (.pointer (some ⟨k, 0, none⟩)) "Swap") (wr.drewN n) = .ok (188, .slice (some ⟨g, 0, none⟩) lq.length c) (wr.drewN n) := fun n => finds_val' methSwap (hbq.drewN n).cell
   have hle := dpLess_any (some ⟨g, 0, none⟩) c lq q p wr wr.heap.size hbq.row.rd (by omega) (by omega) (by omega)
   rw [lessD_rank (hoq q (by omega)) (hoq p (by omega))] at hle
   have qp : ¬ ((p : Int) = (q : Int)) := by omega
   have qpb : ((p : Int) == (q : Int)) = false := by simp; omega
   by_cases hlt : fr lq q < fr lq p
   ·rw [decide_eq_true hlt] at hle
    have HS := hide (fun m => dpSwap_any (k + 1) g c lq p q (wr.drewN m) (hbq.drewN m).row (by omega) (by omega) (by omega))
    have HU := hide (up_step hiq HP.out (by omega) (by omega) (by omega) hlt)
    have HM := hide (Same.trans hsq (swapD_same (l := lq) p q l.length (by omega) (by omega) (by omega)))
    have HO := hide (swapD_ok p q (by omega) (by omega) hoq)
    have HG := hide hgq
    have HB := hide hbq
    have HLQ := hide hlq
    clear hgq hbq hiq hsq hoq hlt hcell hlq
    go_wp2_with (first | (go_at_call 185; refine hle.mono ?_; rintro e w1 ⟨rfl, m1, rfl⟩) | (go_at_call 188; refine (HS.out _).mono ?_; rintro e w2 ⟨rfl, ho2, hg2⟩; clear mL mL0 mS))
    go_roundw
    case rel => exact ⟨p, swapD lq p q, rfl, by omega, by rw [swapD_length]; exact HLQ.out, (HB.out.drewN m1).swap ho2 hg2, HU.out, HM.out, HO.out, grown_tr HG.out (grown_tr (grown_dr wr m1 _) hg2)⟩
    case measure => simp [intOf]; omega
   ·rw [decide_eq_false hlt] at hle
    have HF := hide (up_done hiq (.inr (by rw [← HP.out]; omega)))
    have HG := hide hgq
    have HB := hide hbq
    clear hgq hbq hiq hlt hcell hlq
    go_wp2_with (first | (go_at_call 185; refine hle.mono ?_; rintro e w1 ⟨rfl, m1, rfl⟩))
    go_end0
    exact ⟨rfl, lq, HB.out.drewN _, HF.out, hsq, hoq, grown_tr HG.out (grown_dr wr _ _)⟩

end Go.Proofs.YtpjkcgaohoinaaaGreat.Dep

namespace Go.Proofs.YtpjkcgaohoinaaaGreat.Dep
open Go.ChangeShapes Go.WideShapes Go.ChangeAt Go.RowKit Go.Joins
set_option linter.unusedVariables false
set_option linter.unusedSimpArgs false

set_option maxRecDepth 100000 in
set_option maxHeartbeats 4000000 in
theorem down_any (k g c : Nat) (l : List Sc) (n : Nat) (w : World) (hb : Brd k g c w l) (hn : n ≤ l.length) (hok : okD l) (hinv : DownInv l n 0) (hlen : l.length ≤ 1048576) :
  Calls Tryz.prog 134 #[.iface 169 (.pointer (some ⟨k, 0, none⟩)), .int .i64 0, .int .i64 n] w fun e w' => (∃ r, e = .returned (.bool r)) ∧ ∃ l', Brd k g c w' l' ∧ HeapP l' n ∧ Same l l' n ∧ okD l' ∧ w.grownBy w' (some g) := by
 have eL : ∀ args w, (callFunc 185 args).run Tryz.prog w = .ok (.enter 185 args) w := enters_of Tryz.func185 (by kernel_rfl) rfl
 have eS : ∀ args w, (callFunc 188 args).run Tryz.prog w = .ok (.enter 188 args) w := enters_of Tryz.func188 (by kernel_rfl) rfl
 go_enter Tryz.func134, Tryz.ntmps134
 go_wp2
 go_loopw [7] (fun iv wr => ∃ (q : Nat) (lq : List Sc), iv = .int .i64 q ∧ q ≤ n ∧ lq.length = l.length ∧ Brd k g c wr lq ∧ DownInv lq n q ∧ Same l lq n ∧ okD lq ∧ w.grownBy wr (some g))
  (fun iv _ => n - (intOf iv).toNat)
 case atStart => exact ⟨0, l, rfl, Nat.zero_le _, rfl, hb, hinv, Same.refl _ _, hok, World.grownBy.refl _ _⟩
 case round =>
  obtain ⟨q, lq, rfl, hq, hlq, hbq, hiq, hsq, hoq, hgq⟩ := hrel
  have hcell := hbq.cell
  have HLQ := hide hlq
  have HB := hide hbq
  have HG := hide hgq
  have mL := fun m => finds_val' methLess (hbq.drewN m).cell
  have mL0 := finds_val' methLess hcell
  have mL2 := fun m m' => finds_val' methLess ((hbq.drewN m).drewN m').cell
  have mS := fun m => finds_val' methSwap (hbq.drewN m).cell
  have mS0 := finds_val' methSwap hcell
  have mS2 := fun m m' => finds_val' methSwap ((hbq.drewN m).drewN m').cell
  obtain ⟨j1, hj1⟩ : ∃ j1 : Nat, j1 = 2 * q + 1 := ⟨_, rfl⟩
  obtain ⟨j2, hj2⟩ : ∃ j2 : Nat, j2 = j1 + 1 := ⟨_, rfl⟩
  have e1 : 2 * (q : Int) + 1 = (j1 : Int) := by omega
  have e2 : (j1 : Int) + 1 = (j2 : Int) := by omega
  have hfr : True := trivial
  clear hgq hbq hcell
  by_cases hA : j1 < n
  ·have hA' : ¬ (n : Int) ≤ (j1 : Int) := by omega
   have hA2 : ¬ (j1 : Int) < 0 := by omega
   by_cases hB2 : j2 < n
   ·have hJ := fun W (hW : Brd k g c W lq) => dpLess_any (some ⟨g, 0, none⟩) c lq j2 j1 W W.heap.size hW.row.rd (by omega) (by omega) (by omega)
    by_cases hl2 : fr lq j2 < fr lq j1
    ·rw [lessD_rank (hoq j2 (by omega)) (hoq j1 (by omega)), decide_eq_true hl2] at hJ
     have HJ := hide hJ
     clear hJ
     have hbest : ∀ x, 1 ≤ x → x < n → (x - 1) / 2 = q → fr lq j2 ≤ fr lq x := fun x h1 h2 h3 => by rcases (show x = j1 ∨ x = j2 by omega) with e | e <;> subst e <;> omega
     have hQ := fun W (hW : Brd k g c W lq) => dpLess_any (some ⟨g, 0, none⟩) c lq j2 q W W.heap.size hW.row.rd (by omega) (by omega) (by omega)
     by_cases hlt : fr lq j2 < fr lq q
     ·rw [lessD_rank (hoq j2 (by omega)) (hoq q (by omega)), decide_eq_true hlt] at hQ
      have HQ := hide hQ
      have HS := hide (fun W (hW : Brd k g c W lq) => dpSwap_any (k + 1) g c lq q j2 W hW.row (by omega) (by omega) (by omega))
      have HU := hide (down_step hiq (by omega) (by omega) (by omega) (by omega) hlt hbest)
      have HM := hide (Same.trans hsq (swapD_same (l := lq) q j2 n (by omega) (by omega) (by omega)))
      have HO := hide (swapD_ok q j2 (by omega) (by omega) hoq)
      clear hQ hiq hsq hoq hlt hbest hlq hfr hj1 hj2
      go_wp2_with (first | (go_at_call_of 185 (Value.int .i64 (q : Int)); refine (HQ.out _ (by first | exact HB.out | exact HB.out.drewN _)).mono ?_; rintro e w2 ⟨rfl, m2, rfl⟩) | (go_at_call 185; refine (HJ.out _ (by first | exact HB.out | exact HB.out.drewN _)).mono ?_; rintro e w1 ⟨rfl, m1, rfl⟩) | (go_at_call 188; refine (HS.out _ (by first | exact HB.out | exact HB.out.drewN _ | exact (HB.out.drewN _).drewN _)).mono ?_; rintro e w3 ⟨rfl, ho3, hg3⟩; clear mL mL0 mS mS0 mS2 mL2))
      go_roundw
      case rel => exact ⟨j2, swapD lq q j2, rfl, by omega, by rw [swapD_length]; exact HLQ.out, Brd.swap (HB.out.drewN _) ho3 hg3, HU.out, HM.out, HO.out, grown_tr HG.out (grown_tr (grown_dr wr _ _) hg3)⟩
      case measure => simp [intOf]; omega
     ·rw [lessD_rank (hoq j2 (by omega)) (hoq q (by omega)), decide_eq_false hlt] at hQ
      have HQ := hide hQ
      have HF := hide (down_done hiq (fun x h1 h2 h3 => by have := hbest x h1 h2 h3; omega))
      clear hQ hiq hlt hbest hlq hfr hj1 hj2
      go_wp2_with (first | (go_at_call_of 185 (Value.int .i64 (q : Int)); refine (HQ.out _ (by first | exact HB.out | exact HB.out.drewN _)).mono ?_; rintro e w2 ⟨rfl, m2, rfl⟩) | (go_at_call 185; refine (HJ.out _ (by first | exact HB.out | exact HB.out.drewN _)).mono ?_; rintro e w1 ⟨rfl, m1, rfl⟩))
      go_ret
      exact ⟨⟨_, rfl⟩, lq, HB.out.drewN _, HF.out, hsq, hoq, grown_tr HG.out (grown_dr wr _ _)⟩
    ·rw [lessD_rank (hoq j2 (by omega)) (hoq j1 (by omega)), decide_eq_false hl2] at hJ
     have HJ := hide hJ
     clear hJ
     have hbest : ∀ x, 1 ≤ x → x < n → (x - 1) / 2 = q → fr lq j1 ≤ fr lq x := fun x h1 h2 h3 => by rcases (show x = j1 ∨ x = j2 by omega) with e | e <;> subst e <;> omega
     have hQ := fun W (hW : Brd k g c W lq) => dpLess_any (some ⟨g, 0, none⟩) c lq j1 q W W.heap.size hW.row.rd (by omega) (by omega) (by omega)
     by_cases hlt : fr lq j1 < fr lq q
     ·rw [lessD_rank (hoq j1 (by omega)) (hoq q (by omega)), decide_eq_true hlt] at hQ
      have HQ := hide hQ
      have HS := hide (fun W (hW : Brd k g c W lq) => dpSwap_any (k + 1) g c lq q j1 W hW.row (by omega) (by omega) (by omega))
      have HU := hide (down_step hiq (by omega) (by omega) (by omega) (by omega) hlt hbest)
      have HM := hide (Same.trans hsq (swapD_same (l := lq) q j1 n (by omega) (by omega) (by omega)))
      have HO := hide (swapD_ok q j1 (by omega) (by omega) hoq)
      clear hQ hiq hsq hoq hlt hbest hlq hfr hj1 hj2
      go_wp2_with (first | (go_at_call_of 185 (Value.int .i64 (q : Int)); refine (HQ.out _ (by first | exact HB.out | exact HB.out.drewN _)).mono ?_; rintro e w2 ⟨rfl, m2, rfl⟩) | (go_at_call 185; refine (HJ.out _ (by first | exact HB.out | exact HB.out.drewN _)).mono ?_; rintro e w1 ⟨rfl, m1, rfl⟩) | (go_at_call 188; refine (HS.out _ (by first | exact HB.out | exact HB.out.drewN _ | exact (HB.out.drewN _).drewN _)).mono ?_; rintro e w3 ⟨rfl, ho3, hg3⟩; clear mL mL0 mS mS0 mS2 mL2))
      go_roundw
      case rel => exact ⟨j1, swapD lq q j1, rfl, by omega, by rw [swapD_length]; exact HLQ.out, Brd.swap (HB.out.drewN _) ho3 hg3, HU.out, HM.out, HO.out, grown_tr HG.out (grown_tr (grown_dr wr _ _) hg3)⟩
      case measure => simp [intOf]; omega
     ·rw [lessD_rank (hoq j1 (by omega)) (hoq q (by omega)), decide_eq_false hlt] at hQ
      have HQ := hide hQ
      have HF := hide (down_done hiq (fun x h1 h2 h3 => by have := hbest x h1 h2 h3; omega))
      clear hQ hiq hlt hbest hlq hfr hj1 hj2
      go_wp2_with (first | (go_at_call_of 185 (Value.int .i64 (q : Int)); refine (HQ.out _ (by first | exact HB.out | exact HB.out.drewN _)).mono ?_; rintro e w2 ⟨rfl, m2, rfl⟩) | (go_at_call 185; refine (HJ.out _ (by first | exact HB.out | exact HB.out.drewN _)).mono ?_; rintro e w1 ⟨rfl, m1, rfl⟩))
      go_ret
      exact ⟨⟨_, rfl⟩, lq, HB.out.drewN _, HF.out, hsq, hoq, grown_tr HG.out (grown_dr wr _ _)⟩
   ·have hB2' : ¬ (j2 : Int) < (n : Int) := by omega
    have hbest : ∀ x, 1 ≤ x → x < n → (x - 1) / 2 = q → fr lq j1 ≤ fr lq x := fun x h1 h2 h3 => by rcases (show x = j1 by omega) with rfl; omega
    have hQ := fun W (hW : Brd k g c W lq) => dpLess_any (some ⟨g, 0, none⟩) c lq j1 q W W.heap.size hW.row.rd (by omega) (by omega) (by omega)
    by_cases hlt : fr lq j1 < fr lq q
    ·rw [lessD_rank (hoq j1 (by omega)) (hoq q (by omega)), decide_eq_true hlt] at hQ
     have HQ := hide hQ
     have HS := hide (fun W (hW : Brd k g c W lq) => dpSwap_any (k + 1) g c lq q j1 W hW.row (by omega) (by omega) (by omega))
     have HU := hide (down_step hiq (by omega) (by omega) (by omega) (by omega) hlt hbest)
     have HM := hide (Same.trans hsq (swapD_same (l := lq) q j1 n (by omega) (by omega) (by omega)))
     have HO := hide (swapD_ok q j1 (by omega) (by omega) hoq)
     clear hQ hiq hsq hoq hlt hbest hlq hfr hj1 hj2
     go_wp2_with (first | (go_at_call_of 185 (Value.int .i64 (q : Int)); refine (HQ.out _ (by first | exact HB.out | exact HB.out.drewN _)).mono ?_; rintro e w2 ⟨rfl, m2, rfl⟩) | (go_at_call 188; refine (HS.out _ (by first | exact HB.out | exact HB.out.drewN _ | exact (HB.out.drewN _).drewN _)).mono ?_; rintro e w3 ⟨rfl, ho3, hg3⟩; clear mL mL0 mS mS0 mS2 mL2))
     go_roundw
     case rel => exact ⟨j1, swapD lq q j1, rfl, by omega, by rw [swapD_length]; exact HLQ.out, Brd.swap (HB.out.drewN m2) ho3 hg3, HU.out, HM.out, HO.out, grown_tr HG.out (grown_tr (grown_dr wr _ _) hg3)⟩
     case measure => simp [intOf]; omega
    ·rw [lessD_rank (hoq j1 (by omega)) (hoq q (by omega)), decide_eq_false hlt] at hQ
     have HQ := hide hQ
     have HF := hide (down_done hiq (fun x h1 h2 h3 => by have := hbest x h1 h2 h3; omega))
     clear hQ hiq hlt hbest hlq hfr hj1 hj2
     go_wp2_with (first | (go_at_call_of 185 (Value.int .i64 (q : Int)); refine (HQ.out _ (by first | exact HB.out | exact HB.out.drewN _)).mono ?_; rintro e w2 ⟨rfl, m2, rfl⟩))
     go_ret
     exact ⟨⟨_, rfl⟩, lq, HB.out.drewN m2, HF.out, hsq, hoq, grown_tr HG.out (grown_dr wr _ _)⟩
  ·have hA' : (n : Int) ≤ (j1 : Int) := by omega
   have HF := hide (down_done hiq (fun x h1 h2 h3 => by omega))
   clear hiq hlq hfr hj1 hj2
   go_wp2
   go_ret
   exact ⟨⟨_, rfl⟩, lq, HB.out, HF.out, hsq, hoq, HG.out⟩

end Go.Proofs.YtpjkcgaohoinaaaGreat.Dep

namespace Go.Proofs.YtpjkcgaohoinaaaGreat.Dep
open Go.ChangeShapes Go.WideShapes Go.ChangeAt Go.RowKit Go.Joins
set_option linter.unusedVariables false
set_option linter.unusedSimpArgs false

theorem infoSc : (Tryz.prog.info? 117).map (fun i => (i.zero, i.size, i.bytes)) = some (some (.agg #[.int .i64 0, .int .i64 0]), 2, 16) := by kernel_rfl

structure BrdV (k : Nat) (v : Value) (w : World) (l : List Sc) : Prop where
 box : w.heap[k]? = some (.cells #[v] 171 (0, 0))
 row : ownD w (k + 1) v l
theorem Brd.v {k g c : Nat} {w : World} {l : List Sc} (h : Brd k g c w l) : BrdV k (.slice (some ⟨g, 0, none⟩) l.length c) w l := ⟨h.box, h.row⟩
theorem BrdV.cell {k : Nat} {v : Value} {w : World} {l : List Sc} (h : BrdV k v w l) : w.cell? ⟨k, 0, none⟩ = some v := by simp [World.cell?, h.box]
theorem BrdV.frozen {k : Nat} {v : Value} {w : World} {l : List Sc} (h : BrdV k v w l) : w.frozen? ⟨k, 0, none⟩ = false := by simp [World.frozen?, h.box]
theorem BrdV.lt {k : Nat} {v : Value} {w : World} {l : List Sc} (h : BrdV k v w l) : k < w.heap.size := (Array.getElem?_eq_some_iff.1 h.box).1
theorem BrdV.slice {k : Nat} {v : Value} {w : World} {l : List Sc} (h : BrdV k v w l) : ∃ o c, v = .slice o l.length c := by
 obtain ⟨o, c, e, _⟩ := h.row.open
 exact ⟨o, c, e⟩

theorem BrdV.ne {k : Nat} {v : Value} {w : World} {l : List Sc} (h : BrdV k v w l) : some k ≠ v.ownBlock := fun e => by have := (h.row.lt k e.symm).1; omega
theorem box_cell {w : World} {k : Nat} {v : Value} (h : w.heap[k]? = some (.cells #[v] 171 (0, 0))) : w.cell? ⟨k, 0, none⟩ = some v := by simp [World.cell?, h]
theorem box_frozen {w : World} {k : Nat} {v : Value} (h : w.heap[k]? = some (.cells #[v] 171 (0, 0))) : w.frozen? ⟨k, 0, none⟩ = false := by simp [World.frozen?, h]
theorem box_setH {w : World} {k : Nat} {v u : Value} (h : w.heap[k]? = some (.cells #[v] 171 (0, 0))) : (w.setCell ⟨k, 0, none⟩ u).heap[k]? = some (.cells #[u] 171 (0, 0)) := by
 simp [World.setCell, Array.getElem?_modify, h]

theorem step_append_sc {ops : Array Oper} {o : Oper} {a : Act} {w : World} {K : Act → World → Prop} {Q : Exit → Act → World → Prop} {E : Prop} (hgd : o.guard = none) (s x : Operand)
  (ho : o.op = .call { callee := .builtin .append, args := #[s, x], argTypes := #[171, 171] }) (base : Nat) (v : Value) (l0 : List Sc) (hs : a.eval s = v) (hown : ownD w base v l0)
  (n : Nat) (i g : Int) (hx : a.eval x = .slice (some ⟨n, 0, none⟩) 1 1) (h0 : w.cell? ⟨n, 0, none⟩ = some (.int .i64 i)) (h1 : w.cell? ⟨n, 1, none⟩ = some (.int .i64 g)) (hlen : l0.length ≤ 1048576) (hbase : base ≤ w.heap.size)
  (h : ∀ v' w', ownD w' base v' (l0 ++ [(i, g)]) → w.grownBy w' v.ownBlock → K (a.put o.dst v') w') : if Region.wanted o (yielded ops a.tmps) = true then Oper.wp Tryz.prog o a w K Q else E := by
 have hw : Region.wanted o (yielded ops a.tmps) = true := by simp [Region.wanted, hgd]
 rw [if_pos hw]
 obtain ⟨i0, hi, hz0, hz1, hz2⟩ := info_parts infoSc
 refine wp_append_own _ s x 171 ho base 117 i0 (.agg #[.int .i64 0, .int .i64 0]) 2 16 Tryz.underlying171 hi hz0 hz1 hz2 rfl (by decide) v _ _ hs hown ⟨n, 0, none⟩ 1 1 [.int .i64 i, .int .i64 g] hx rfl ?_ (by simp [Value.oneCell']) (by unfold maxLen; omega) (by omega) hbase ?_
 ·intro j u hj
  match j, hj with
  | 0, hj => simp at hj; subst hj; exact h0
  | 1, hj => simp at hj; subst hj; exact h1
 ·intro v' w' h1 h2 _
  refine h v' w' ?_ h2
  unfold ownD ownL
  simpa [layD] using h1

set_option maxRecDepth 100000 in
theorem assertSc (t0 : TypeId) (i g : Int) (w : World) : Sem.run Tryz.prog (Instr.typeAssert (.iface 117 (.agg #[.int .i64 i, .int .i64 g])) t0 117 false) w = .ok (.agg #[.int .i64 i, .int .i64 g]) w := by kernel_rfl

set_option maxRecDepth 100000 in
set_option maxHeartbeats 2000000 in
theorem dpPush_any (k : Nat) (v : Value) (l : List Sc) (i g : Int) (w : World) (hb : BrdV k v w l) (hlen : l.length ≤ 1000000) :
  Calls Tryz.prog 187 #[.pointer (some ⟨k, 0, none⟩), .iface 117 (.agg #[.int .i64 i, .int .i64 g])] w fun e w' => e = .returned (.tuple #[]) ∧ ∃ g' c, Brd k g' c w' (l ++ [(i, g)]) ∧ Below k w w' := by
 obtain ⟨o, c, rfl⟩ := hb.slice
 have cb := hb.cell
 have fb := hb.frozen
 have hk := hb.lt
 have ca : ∀ O, (w.alloc O).cell? ⟨k, 0, none⟩ = some (.slice o l.length c) := fun O => ((Below.refl w.heap.size w).alloc (Nat.le_refl _) O).cell (p := ⟨k, 0, none⟩) hk |>.trans cb
 have HN := hb.ne
 have HBX := hb.box
 have ta := fun t0 => assertSc t0 i g
 go_enter Tryz.func187, Tryz.ntmps187
 go_wp2
 go_region_law (first | (refine step_append_sc rfl (.tmp 7) (.tmp 10) rfl (k + 1) (.slice o l.length c) l rfl (hb.row.alloc _) w.heap.size i g rfl ?h1 ?h2 ?h3 ?h4 ?_; (case h1 => simp); (case h2 => simp); (case h3 => omega); (case h4 => (show k + 1 ≤ (w.alloc _).heap.size; simp; omega)); intro v8 w8 hv8 hg8; obtain ⟨g8, c8, e8⟩ := ownsRow_form hv8 (by simp); rw [e8] at hv8 ⊢; have bx8 := push_box HBX hg8 HN; have cb8 := box_cell bx8; have fb8 := box_frozen bx8))
 all_goals (try go_wp2)
 all_goals go_end0
 all_goals (
  refine ⟨rfl, g8, c8, ⟨?_, ?_⟩, ?_⟩
  ·have := box_setH (u := .slice (some ⟨g8, 0, none⟩) (l.length + 1) c8) bx8
   simpa using this
  ·exact ownsRow_setCell_below hv8 (a := ⟨k, 0, none⟩) (Nat.lt_succ_self k) _
  ·exact (push_below hk hg8 (fun b e => by have := (hb.row.lt b e).1; omega)).setCell (p := ⟨k, 0, none⟩) (Nat.le_refl _) _)


theorem up_begin {l : List Sc} {x : Sc} (h : HeapP l l.length) : UpInv (l ++ [x]) (l ++ [x]).length l.length := by
 have hl : (l ++ [x]).length = l.length + 1 := by simp
 rw [hl]
 refine ⟨fun i h1 h2 h3 => ?_, fun h0 i h1 h2 h3 => by omega⟩
 have := h i h1 (by omega)
 unfold fr at *
 rw [getD_snoc_lt (by omega), getD_snoc_lt (by omega)]
 exact this
theorem okD_snoc {l : List Sc} {x : Sc} (h : okD l) (hx : okS x) : okD (l ++ [x]) := fun i hi => by
 have hl : (l ++ [x]).length = l.length + 1 := by simp
 rcases Nat.lt_or_ge i l.length with h1 | h1
 ·rw [getD_snoc_lt h1]; exact h i h1
 ·rw [show i = l.length by omega, getD_snoc_eq]; exact hx

set_option maxRecDepth 100000 in
set_option maxHeartbeats 2000000 in
theorem pushH_any (k : Nat) (v : Value) (l : List Sc) (i g : Int) (w : World) (hb : BrdV k v w l) (hok : okD l) (hx : okS (i, g)) (hh : HeapP l l.length) (hlen : l.length ≤ 1000000) :
  Calls Tryz.prog 104 #[.iface 169 (.pointer (some ⟨k, 0, none⟩)), .iface 117 (.agg #[.int .i64 i, .int .i64 g])] w fun e w' => e = .returned (.tuple #[]) ∧ ∃ g' c l', Brd k g' c w' l' ∧ HeapP l' l'.length ∧ Go.Proofs.YtpjkcgaohoinaaaGreat.Same (l ++ [(i, g)]) l' (l.length + 1) ∧ okD l' ∧ Below k w w' := by
 have eP : ∀ args w, (callFunc 187 args).run Tryz.prog w = .ok (.enter 187 args) w := enters_of Tryz.func187 (by kernel_rfl) rfl
 have eN : ∀ args w, (callFunc 105 args).run Tryz.prog w = .ok (.enter 105 args) w := enters_of Tryz.func105 (by kernel_rfl) rfl
 have mP := fun w => finds_ptr' (k := k) (w := w) methPush
 have hl : (l ++ [(i, g)]).length = l.length + 1 := by simp
 go_enter Tryz.func104, Tryz.ntmps104
 go_wp2_with fail
 refine (dpPush_any k v l i g w hb hlen).mono ?_
 rintro e w1 ⟨rfl, g1, c1, hb1, hw1⟩
 have mN := finds_val' methLen hb1.cell
 rw [hl] at mN
 go_wp2_with (go_at_call 105; refine (dpLen_any _ _ _ _).mono ?_; rintro e w2 ⟨rfl, rfl⟩)
 have hjj : (((l.length + 1 : Nat) : Int) - 1) = (l.length : Int) := by omega
 refine (up_any k g1 c1 (l ++ [(i, g)]) l.length w1 hb1 (by omega) (okD_snoc hok hx) (up_begin hh) (by omega)).mono ?_
 rintro e w3 ⟨rfl, l3, hb3, hh3, hs3, ho3, hg3⟩
 have hge := hb1.ge
 have hlt := hb1.lt
 have HB : Hid (Below k w w3) := hw1.trans ((Below.refl k w1).grown hg3 (by omega) (fun b e => by cases e; omega))
 have HH : Hid (HeapP l3 l3.length) := by unfold Hid; rw [hs3.1.1]; exact hh3
 have HS : Hid (Go.Proofs.YtpjkcgaohoinaaaGreat.Same (l ++ [(i, g)]) l3 (l.length + 1)) := by unfold Hid; rw [← hl]; exact hs3.1
 clear mN mP hh3 hs3 hw1 hg3
 go_wp2
 go_end0
 exact ⟨rfl, g1, c1, l3, hb3, HH.out, HS.out, ho3, HB.out⟩

set_option maxRecDepth 100000 in
set_option maxHeartbeats 2000000 in
theorem dpPop_any (k g c : Nat) (l : List Sc) (x y : Int) (w : World) (hb : Brd k g c w (l ++ [(x, y)])) (hlen : l.length ≤ 1000000) :
  Calls Tryz.prog 186 #[.pointer (some ⟨k, 0, none⟩)] w fun e w' => e = .returned (.iface 117 (.agg #[.int .i64 x, .int .i64 y])) ∧ Brd k g c w' l ∧ Below k w w' := by
 have hl : (l ++ [(x, y)]).length = l.length + 1 := by simp
 have cb := hb.cell
 have fb := hb.v.frozen
 have hk := hb.v.lt
 rw [hl] at cb
 have hR := hb.row.rd
 rcases hR with hR | ⟨b, off, e0, hbl, hcell⟩
 ·simp at hR
 cases e0
 have hc := RdL.sc hcell l.length (by omega)
 rw [getD_snoc_eq] at hc
 simp only [Nat.zero_add] at hc
 obtain ⟨c0, c1⟩ := hc
 clear hcell
 have hcap : l.length + 1 ≤ c := by
  rcases hb.row.2 with ⟨h', _⟩ | ⟨g', cap', cur, h', _, _, hn, _⟩
  ·simp at h'
  ·simp only [Value.slice.injEq] at h'
   rw [← h'.2.2] at hn; omega
 have hrow : w.ownsRow (k + 1) 117 2 (.slice (some ⟨g, 0, none⟩) l.length c) l.length (l.flatMap layD.cs) := by
  have h1 := hb.row
  unfold ownD ownL at h1
  rw [hl, List.flatMap_append] at h1
  exact ownsRow_pop (flat_length layD l) h1
 have HB := hide hb
 have HR := hide hrow
 clear hb hrow
 go_enter Tryz.func186, Tryz.ntmps186
 go_wp2
 go_ret
 refine ⟨rfl, ⟨?_, ?_⟩, ?_⟩
 ·exact (((Below.refl w.heap.size _).alloc (by simp) _).block k hk).trans (box_setH HB.out.box)
 ·exact (ownsRow_setCell_below HR.out (a := ⟨k, 0, none⟩) (Nat.lt_succ_self k) _).alloc _
 ·exact ((Below.refl k w).setCell (p := ⟨k, 0, none⟩) (Nat.le_refl _) _).alloc (by simp; omega) _

theorem down_begin {l : List Sc} {n : Nat} (h : HeapP l (n + 1)) (hn : n + 1 = l.length) : DownInv (swapD l 0 n) n 0 := by
 have F : ∀ m, fr (swapD l 0 n) m = if m = n then fr l 0 else if m = 0 then fr l n else fr l m := fun m => swapD_fr l 0 n m (by omega) (by omega)
 refine ⟨fun c h1 h2 h3 => ?_, fun h0 => by omega⟩
 rw [F, F, if_neg (by omega), if_neg h3, if_neg (by omega), if_neg (by omega)]
 exact h c h1 (by omega)
set_option maxRecDepth 100000 in
set_option maxHeartbeats 2000000 in
theorem popH_any (k g c : Nat) (l : List Sc) (n : Nat) (w : World) (hb : Brd k g c w l) (hn : n + 1 = l.length) (hok : okD l) (hh : HeapP l l.length) (hlen : l.length ≤ 1000000) :
  Calls Tryz.prog 106 #[.iface 169 (.pointer (some ⟨k, 0, none⟩))] w fun e w' => e = .returned (.iface 117 (.agg #[.int .i64 (l.getD 0 (0, 0)).1, .int .i64 (l.getD 0 (0, 0)).2])) ∧ Below k w w' := by
 have eP : ∀ args w, (callFunc 186 args).run Tryz.prog w = .ok (.enter 186 args) w := enters_of Tryz.func186 (by kernel_rfl) rfl
 have eN : ∀ args w, (callFunc 105 args).run Tryz.prog w = .ok (.enter 105 args) w := enters_of Tryz.func105 (by kernel_rfl) rfl
 have eS : ∀ args w, (callFunc 188 args).run Tryz.prog w = .ok (.enter 188 args) w := enters_of Tryz.func188 (by kernel_rfl) rfl
 have mP := fun w => finds_ptr' (k := k) (w := w) methPop
 have mN := finds_val' methLen hb.cell
 have mS := finds_val' methSwap hb.cell
 have hni : (l.length : Int) - 1 = (n : Int) := by omega
 have HN := hide hn
 have hge := hb.ge
 have hlt := hb.lt
 clear hn
 go_enter Tryz.func106, Tryz.ntmps106
 go_wp2_with (first | (go_at_call 105; refine (dpLen_any _ _ _ _).mono ?_; rintro e w2 ⟨rfl, rfl⟩))
 have hsw := dpSwap_any (k + 1) g c l 0 n w hb.row (by have := HN.out; omega) (by have := HN.out; omega) (by omega)
 refine hsw.mono ?_
 rintro e w1 ⟨rfl, ho1, hg1⟩
 have hb1 := hb.swap ho1 hg1
 have hB1 : Below k w w1 := (Below.refl k w).grown hg1 (by omega) (fun b e => by cases e; omega)
 have hlt1 := hb1.lt
 have hdn := down_any k g c (swapD l 0 n) n w1 hb1 (by rw [swapD_length]; have := HN.out; omega) (swapD_ok 0 n (by have := HN.out; omega) (by have := HN.out; omega) hok) (down_begin (HN.out.symm ▸ hh) HN.out) (by rw [swapD_length]; omega)
 clear mN mS hsw ho1 hg1 hb
 go_wp2_with fail
 refine hdn.mono ?_
 rintro e w2 ⟨⟨r, rfl⟩, l2, hb2, hh2, hs2, ho2, hg2⟩
 have hB2 : Below k w w2 := hB1.trans ((Below.refl k w1).grown hg2 (by omega) (fun b e => by cases e; omega))
 have hl2 : l2.length = n + 1 := by rw [hs2.1.1, swapD_length]; exact HN.out.symm
 have e2 : l2 = l2.take n ++ [((l2.getD n (0, 0)).1, (l2.getD n (0, 0)).2)] := by
  have := takeL_succ layD l2 n (by omega)
  rw [List.take_of_length_le (by omega)] at this
  exact this
 have hln : (l2.take n).length = n := by simp; omega
 have hpp := dpPop_any k g c (l2.take n) (l2.getD n (0, 0)).1 (l2.getD n (0, 0)).2 w2 (e2 ▸ hb2) (by omega)
 have H0 : l2.getD n (0, 0) = l.getD 0 (0, 0) := by
  have hnn := HN.out
  rw [hs2.2 n (Nat.le_refl _), swapD_get l 0 n n (by omega) (by omega), if_pos rfl]
 rw [H0] at hpp
 clear hdn hb1 hb2 hh2 hs2 ho2 hg2 e2 hB1 H0
 go_wp2_with fail
 refine hpp.mono ?_
 rintro e w3 ⟨rfl, hb3, hB3⟩
 clear mP hpp
 go_wp2
 go_ret
 exact ⟨rfl, hB2.trans hB3⟩

end Go.Proofs.YtpjkcgaohoinaaaGreat.Dep

