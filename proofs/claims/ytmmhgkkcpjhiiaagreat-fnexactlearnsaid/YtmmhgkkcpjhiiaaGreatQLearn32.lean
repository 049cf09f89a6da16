/- Several texts in one: SPn, SOwn4, SL4b, SPNew, SBBox, SJS, SRep, SJCut, SNote, SRepl, SRepl2, SBFrom2, SBOk. -/
import Derived.Deep.RegionHeld3
import Derived.Deep.CutRange
import Derived.Deep.RegionLaw
import Derived.Test.YtmmhgkkcpjhiiaaGreatQLearn31
import Derived.Test.YtmmhgkkcpjhiiaaGreatQLearn24
import Derived.Test.YtmmhgkkcpjhiiaaGreatQLearn29
import Derived.Test.YtmmhgkkcpjhiiaaGreatQLearn28
import Derived.Test.YtmmhgkkcpjhiiaaGreatQLearn10
namespace Go.Proofs.YtmmhgkkcpjhiiaaGreat
open Go.ChangeShapes Go.WideShapes Go.ChangeAt Go.RowKit Go.Joins
set_option linter.unusedVariables false
set_option linter.unusedSimpArgs false

theorem range_pt {W : World} {g : Nat} {f : Pt} (hg : W.heap[g]? = some (.cells (ptA f) 310 (0, 0))) : W.rangeAt g 0 (ptL f) := fun j v hv => by
 rw [Nat.zero_add, cell_of_row _ _ j (ptA f) _ (0, 0) hg]
 simpa [ptA] using hv
theorem range_kept {w w' : World} {b o : Nat} {cs : List Value} (h : w.rangeAt b o cs) (hb : Below w.heap.size w w') (hlt : b < w.heap.size) : w'.rangeAt b o cs := fun j v hv => (hb.cell (p := ⟨b, o + j, none⟩) hlt).trans (h j v hv)
theorem range_far {w : World} {b o B : Nat} {cs : List Value} (h : w.rangeAt b o cs) (hne : b ≠ B) (j : Nat) (u : Value) : (w.setCell ⟨B, j, none⟩ u).rangeAt b o cs := fun i v hv => (cell_far hne).trans (h i v hv)
theorem range_grown {w w' : World} {b o : Nat} {cs : List Value} {r : Option Nat} (h : w.rangeAt b o cs) (hg : w.grownBy w' r) (hlt : b < w.heap.size) (hne : some b ≠ r) : w'.rangeAt b o cs := fun j v hv => by
 have h1 := h j v hv
 have h2 := hg.block b hlt hne
 simp only [World.cell?, h2] at h1 ⊢
 exact h1
theorem setQ_size (W : World) (B : Nat) (x y z : Value) : (setP W B x y z).heap.size = W.heap.size := by simp [World.setCell]
theorem finK {cur W : World} {B : Nat} {key : Int} {o2 : Option Addr} {c2 : Nat} {l : List Bk} {z0 z1 z2 : Value} (hZ : W.heap[B]? = some (.cells #[z0, z1, z2] 29 (0, 0))) (hx : Below cur.heap.size cur W) (hB : cur.heap.size ≤ B) (ho : ownK W cur.heap.size (.slice o2 l.length c2) l) :
  ∃ B' o' c', Value.pointer (some ⟨B, 0, none⟩) = .pointer (some ⟨B', 0, none⟩) ∧ Hid ((setP W B (.int .i64 key) (.slice o2 l.length c2) (.slice none 0 0)).heap[B']? = some (.cells #[.int .i64 key, .slice o' l.length c', .slice none 0 0] 29 (0, 0))) ∧ Hid (Below cur.heap.size cur (setP W B (.int .i64 key) (.slice o2 l.length c2) (.slice none 0 0))) ∧ cur.heap.size ≤ B' ∧ B' < (setP W B (.int .i64 key) (.slice o2 l.length c2) (.slice none 0 0)).heap.size ∧ Hid (ownK (setP W B (.int .i64 key) (.slice o2 l.length c2) (.slice none 0 0)) cur.heap.size (.slice o' l.length c') l) := by
 have b1 := box_put hZ 0 (.int .i64 key)
 have b2 := box_put b1 1 (.slice o2 l.length c2)
 have b3 := box_put b2 2 (.slice none 0 0)
 exact ⟨B, o2, c2, rfl, b3, setQ_below hx hB _ _ _, hB, (Array.getElem?_eq_some_iff.1 b3).1, own_putB (own_putB (own_putB ho hZ neP4 0 _) b1 neP4 1 _) b2 neP4 2 _⟩
theorem finKn {cur W : World} {key : Int} {o2 : Option Addr} {c2 : Nat} {l : List Bk} (hx : Below cur.heap.size cur W) (ho : ownK W cur.heap.size (.slice o2 l.length c2) l) :
  ∃ B' o' c', Value.pointer (some ⟨W.heap.size, 0, none⟩) = .pointer (some ⟨B', 0, none⟩) ∧ Hid ((W.alloc (.cells #[.int .i64 key, .slice o2 l.length c2, .slice none 0 0] 29)).heap[B']? = some (.cells #[.int .i64 key, .slice o' l.length c', .slice none 0 0] 29 (0, 0))) ∧ Hid (Below cur.heap.size cur (W.alloc (.cells #[.int .i64 key, .slice o2 l.length c2, .slice none 0 0] 29))) ∧ cur.heap.size ≤ B' ∧ B' < (W.alloc (.cells #[.int .i64 key, .slice o2 l.length c2, .slice none 0 0] 29)).heap.size ∧ Hid (ownK (W.alloc (.cells #[.int .i64 key, .slice o2 l.length c2, .slice none 0 0] 29)) cur.heap.size (.slice o' l.length c') l) :=
 ⟨W.heap.size, o2, c2, rfl, World.alloc_heap_new W _, hx.alloc hx.size _, hx.size, by simp, own_kept ho ((Below.refl _ _).alloc (Nat.le_refl _) _)⟩
theorem Rw.grow {α : Type} {Q : Nat → Nat → World → Value → α → Prop} {d : α} {xs : List α} {a b : Nat} {w w' : World} {hs : List Hd} {L H : Nat → Nat} {r : Option Nat} (hQ : Stps Q) (h : Rw Q d xs a b w hs L H) (hg : w.grownBy w' r) (ho : ∀ i, i < xs.length → ∀ g, r = some g → g < L i ∨ H i ≤ g) : Rw Q d xs a b w' hs L H := by
 cases r with
 | none => exact h.step hQ (Stp.grown (lo := 0) (hi := 0) hg (fun b e => by cases e)) (fun i _ => .inl (Nat.zero_le _))
 | some g => exact h.step hQ (Stp.grown (lo := g) (hi := g + 1) hg (fun b e => by injection e with e; omega)) (fun i hi => by have := ho i hi g rfl; omega)
theorem rd_oneH {w : World} {o : Option Addr} {n c : Nat} {T : TypeId} : RdL layH (w.alloc (.cells #[.slice o n c] T)).heap.size (w.alloc (.cells #[.slice o n c] T)) (some ⟨w.heap.size, 0, none⟩) [(o, n, c)] :=
 .inr ⟨w.heap.size, 0, rfl, by simp, fun i hi j hj => by
  have e1 : i = 0 := by simpa using hi
  subst e1
  match j, hj with
  | 0, _ => simp [layH]⟩
theorem RdL.range {w : World} {b off : Nat} {fs : List Pt} (h : ∀ i, i < fs.length → ∀ j, j < layT.k → w.cell? ⟨b, off + i * layT.k + j, none⟩ = (layT.cs (fs.getD i layT.d))[j]?) (i : Nat) (hi : i < fs.length) : w.rangeAt b (off + i * 24) (ptL (fs.getD i ptZ)) := fun j v hv => by
 have hj : j < 24 := by have := (List.getElem?_eq_some_iff.1 hv).1; rw [ptL_len] at this; exact this
 exact (h i hi j hj).trans hv
theorem rd_stp {B : Nat} {w wc wr : World} {oR : Option Addr} {fs : List Pt} (h : RdL layT w.heap.size w oR fs) (hb : Below w.heap.size w wc) (s : Stp B (B + 1) wc wr) (hB : w.heap.size ≤ B) : RdL layT w.heap.size wr oR fs := by
 rcases h with h | ⟨b, off, ho, hlt, r⟩
 ·exact .inl h
 ·refine .inr ⟨b, off, ho, hlt, fun i hi j hj => ?_⟩
  have h1 := (hb.cell (p := ⟨b, off + i * layT.k + j, none⟩) hlt).trans (r i hi j hj)
  have hl : (layT.cs (fs.getD i layT.d)).length = layT.k := layT.len _
  rw [List.getElem?_eq_getElem (by omega)] at h1 ⊢
  exact s.cellP h1 (.inl (show b < B by omega))
theorem all_take {mid hi cQ : Nat} {wr : World} {oQ : Option Addr} {hs : List Hd} {L H : Nat → Nat} {fs : List Pt} {n : Nat} (hn : n = fs.length) (h : Rw InT [] ((fs.map ptLL).take n) mid hi wr hs L H) (ho : ownL layH 51 wr mid (.slice oQ n cQ) hs) : ownL layH 51 wr mid (.slice oQ n cQ) hs ∧ Rw InT [] (fs.map ptLL) mid hi wr hs L H := by
 rw [hn, show fs.length = (fs.map ptLL).length by simp, List.take_length] at h
 exact ⟨ho, h⟩
theorem out_len {oQ : Option Addr} {n cQ : Nat} {L H : Nat → Nat} {fs : List Pt} (hn : n = fs.length) (h : outB (.slice oQ n cQ) n L H) : outB (.slice oQ n cQ) (fs.map ptLL).length L H := by
 rw [List.length_map, ← hn]; exact h
theorem stp_setQ (W : World) (B : Nat) (x y z : Value) : Stp B (B + 1) W (setP W B x y z) := ((stp_set W B 0 x).trans (stp_set _ B 1 y)).trans (stp_set _ B 2 z)
theorem take_map (fs : List Pt) (i : Nat) (h : i < fs.length) : (fs.map ptLL).take (i + 1) = (fs.map ptLL).take i ++ [ptLL (fs.getD i ptZ)] := by
 have hk : i < (fs.map ptLL).length := by rw [List.length_map]; exact h
 rw [List.take_succ_eq_append_getElem hk]
 simp [h]
theorem Rw.more {v1 w8 : World} {mid b0 l2 n : Nat} {hs : List Hd} {L H : Nat → Nat} {xs : List (List (List Int))} {x : List (List Int)} {o4 oQ : Option Addr} {cQ n4 c4 : Nat} {O : Obj} (h : Rw InT [] xs mid b0 v1 hs L H) (hxn : xs.length = n) (hb : b0 ≤ l2) (hm : mid ≤ l2) (hl : l2 ≤ v1.heap.size) (q : InT l2 v1.heap.size v1 (.slice o4 n4 c4) x) (hout : outB (.slice oQ n cQ) n L H) (hlt : ∀ g, (Value.slice oQ n cQ).ownBlock = some g → g < b0) (hg : (v1.alloc O).grownBy w8 (Value.slice oQ n cQ).ownBlock) :
  Rw InT [] (xs ++ [x]) mid w8.heap.size w8 (hs ++ [(o4, n4, c4)]) (fun i => if i < n then L i else l2) (fun i => if i < n then H i else v1.heap.size) := by
 subst hxn
 have h1 := h.snoc hb hm hl q
 have h2 := h1.kept InT.stp ((Below.refl v1.heap.size v1).alloc (Nat.le_refl _) O)
 have hsz := hg.size
 rw [World.size_alloc] at hsz
 refine (h2.grow InT.stp hg (fun i hi g e => ?_)).mono (Nat.le_refl _) (by omega)
 by_cases hi' : i < xs.length
 ·simp only [hi', if_true]; exact hout i hi' g e
 ·simp only [hi', if_false]; have := hlt g e; omega
theorem stp_more {B : Nat} {wc v1 w8 : World} {O : Obj} {r : Option Nat} (s : Stp B (B + 1) wc v1) (hg : (v1.alloc O).grownBy w8 r) (hr : ∀ g, r = some g → wc.heap.size ≤ g) : Stp B (B + 1) wc w8 := by
 have hs := s.size
 have h1 := hg.size
 rw [World.size_alloc] at h1
 refine ⟨hg.os.trans s.os, hg.tape.trans s.tape, hg.output.trans s.output, by omega, fun k hk hn => ?_⟩
 exact (hg.block k (by simp; omega) (fun e => by have := hr k e.symm; omega)).trans ((Below.heap_alloc v1 O k (by omega)).trans (s.block k hk hn))
theorem InPm.mono {lo lo' hi : Nat} {w : World} {v : Value} {m : Pm} (h : InPm lo hi w v m) (hl : lo' ≤ lo) : InPm lo' hi w v m := by
 obtain ⟨vb, vr, mid, e, k1, k2, h1, h2⟩ := h
 exact ⟨vb, vr, mid, e, by omega, k2, InRow.mono h1 hl (Nat.le_refl _), h2⟩
theorem neBR : (178 : TypeId) ≠ 51 := by decide
theorem out_more {v1 : World} {b0 l2 : Nat} {L H : Nat → Nat} {n : Nat} {oQ o8 : Option Addr} {cQ c8 : Nat} {O : Obj} (hout : outB (.slice oQ n cQ) n L H) (hH : ∀ i, i < n → H i ≤ b0) (hb : b0 ≤ l2) (hl : l2 ≤ v1.heap.size) (hlt : ∀ g, (Value.slice oQ n cQ).ownBlock = some g → g < b0) (hn : (Value.slice o8 (n + 1) c8).ownBlock = (Value.slice oQ n cQ).ownBlock ∨ (Value.slice o8 (n + 1) c8).ownBlock = some (v1.alloc O).heap.size) :
  outB (.slice o8 (n + 1) c8) (n + 1) (fun i => if i < n then L i else l2) (fun i => if i < n then H i else v1.heap.size) := fun i hi g e => by
 rcases hn with hn | hn
 ·rw [hn] at e
  by_cases hi' : i < n
  ·simp only [hi', if_true]; exact hout i hi' g e
  ·simp only [hi', if_false]; have := hlt g e; omega
 ·rw [hn, World.size_alloc] at e
  have e' : v1.heap.size + 1 = g := Option.some.inj e
  by_cases hi' : i < n
  ·simp only [hi', if_true]; have := hH i hi'; omega
  ·simp only [hi', if_false]; omega

set_option maxRecDepth 100000 in
set_option maxHeartbeats 8000000 in
theorem plain_go (key : Int) (o : Option Addr) (cap : Nat) (l : List Bk) (oR : Option Addr) (cR : Nat) (fs : List Pt) (n : Nat) (hnn : n = fs.length) (w : World) (hR : RdK w.heap.size w o l) (hn : o = none → cap = 0) (hlen : l.length ≤ 1048576) (hG : RdL layT w.heap.size w oR fs) (hf3 : n ≤ 1048576) :
  Calls Tryz.prog 122 #[polv key (.slice o l.length cap) (.slice oR n cR)] w fun e w' => ∃ v, e = .returned v ∧ InPm w.heap.size w'.heap.size w' v ⟨key, l, fs.map ptLL⟩ ∧ Below w.heap.size w w' := by
 have HNN := hide hnn
 clear hnn
 obtain ⟨W0, hW0⟩ : ∃ W, ((w.alloc (.cells #[.int .i64 key, .slice o l.length cap, .slice oR n cR] 186)).alloc (.cells #[.int .i64 0, .slice none 0 0, .slice none 0 0] 29)) = W := ⟨_, rfl⟩
 have hb_W0 : Below w.heap.size w W0 := by rw [← hW0]; exact (((Below.refl _ _).alloc (Nat.le_refl _) _).alloc (by simp <;> omega) _)
 have HB := hide hb_W0
 clear hb_W0
 have zz : w.heap.size < W0.heap.size := by rw [← hW0]; simp <;> omega
 have z0 : W0.cell? ⟨w.heap.size, 0, none⟩ = some (.int .i64 key) := by rw [← hW0]; simp [go_sem]
 have z1 : W0.cell? ⟨w.heap.size, 1, none⟩ = some (.slice o l.length cap) := by rw [← hW0]; simp [go_sem]
 have z2 : W0.cell? ⟨w.heap.size, 2, none⟩ = some (.slice oR n cR) := by rw [← hW0]; simp [go_sem]
 have zr : w.heap.size + 1 < W0.heap.size := by rw [← hW0]; simp
 have r0 : W0.cell? ⟨w.heap.size + 1, 0, none⟩ = some (.int .i64 0) := by rw [← hW0]; simp [go_sem]
 have r1 : W0.cell? ⟨w.heap.size + 1, 1, none⟩ = some (.slice none 0 0) := by rw [← hW0]; simp [go_sem]
 have r2 : W0.cell? ⟨w.heap.size + 1, 2, none⟩ = some (.slice none 0 0) := by rw [← hW0]; simp [go_sem]
 have fr0 : W0.frozen? ⟨w.heap.size + 1, 0, none⟩ = false := by rw [← hW0]; simp [go_sem]
 have fr1 : W0.frozen? ⟨w.heap.size + 1, 1, none⟩ = false := by rw [← hW0]; simp [go_sem]
 have fr2 : W0.frozen? ⟨w.heap.size + 1, 2, none⟩ = false := by rw [← hW0]; simp [go_sem]
 have HR0 := hide (show W0.heap[w.heap.size + 1]? = some (.cells #[.int .i64 0, .slice none 0 0, .slice none 0 0] 29 (0, 0)) by rw [← hW0]; exact box_new2 w _ _ _)
 have hzr := zr
 have hzz0 := zz
 have HCL := hide (fun W (hb : Below W0.heap.size W0 W) => cloneBacks_any o cap l W ((hR.kept (HB.out.trans (hb.mono HB.out.size)) (Nat.le_refl _)).le (Nat.le_trans HB.out.size hb.size)) hn hlen)
 have HG := hide hG
 clear hR hG
 go_enter Tryz.func122, Tryz.ntmps122
 go_upto_region 1 with fail
 go_cut [3] from 6 to 11 (fun s3 wx => ∃ B o2 c2, s3 = .pointer (some ⟨B, 0, none⟩) ∧ Hid (wx.heap[B]? = some (.cells #[.int .i64 key, .slice o2 l.length c2, .slice none 0 0] 29 (0, 0))) ∧ Hid (Below W0.heap.size W0 wx) ∧ W0.heap.size ≤ B ∧ B < wx.heap.size ∧ Hid (ownK wx W0.heap.size (.slice o2 l.length c2) l))
 case first =>
  go_region_held3 (fun w' => w'.cell? ⟨w.heap.size, 0, none⟩ = some (.int .i64 key) ∧ w'.cell? ⟨w.heap.size, 1, none⟩ = some (.slice o l.length cap)) (first | with_reducible exact ⟨k0_0, k0_1⟩ | with_reducible exact ⟨z0, z1⟩ | with_reducible exact ⟨setP_cell k0_0 zz, setP_cell k0_1 zz⟩ | go_keep) (first | (go_at_call 237; have hc_ := HCL.out W0.drew (Below.drew (Below.refl _ _)); with_reducible refine hc_.mono ?_; clear hc_; rintro e x0 ⟨v2, rfl, ow2, hb⟩; have hp0 : Below W0.heap.size W0 x0 := Below.trans (show Below W0.heap.size W0 W0.drew from (Below.drew (Below.refl _ _))) (hb.mono (by simp)); have sp0 := hp0.size; obtain ⟨o2, c2, e2, _⟩ := ownL.open (L := layK) ow2; subst e2; have ow2 := own_mono ow2 (show W0.heap.size ≤ _ by (try simp)); have k0_0 := bC hp0 z0 zz; have k0_1 := bC hp0 z1 zz; clear hb) | (go_at_call 237; have hc_ := HCL.out (W0.alloc (.cells #[.int .i64 0, .slice none 0 0, .slice none 0 0] 29)).drew (Below.drew ((Below.refl _ _).alloc (Nat.le_refl _) _)); with_reducible refine hc_.mono ?_; clear hc_; rintro e x0 ⟨v2, rfl, ow2, hb⟩; have hp0 : Below W0.heap.size W0 x0 := Below.trans (show Below W0.heap.size W0 (W0.alloc (.cells #[.int .i64 0, .slice none 0 0, .slice none 0 0] 29)).drew from (Below.drew ((Below.refl _ _).alloc (Nat.le_refl _) _))) (hb.mono (by simp)); have sp0 := hp0.size; obtain ⟨o2, c2, e2, _⟩ := ownL.open (L := layK) ow2; subst e2; have ow2 := own_mono ow2 (show W0.heap.size ≤ _ by (try simp)); have k0_0 := bC hp0 z0 zz; have k0_1 := bC hp0 z1 zz; have hZa := box_newA hb; have hzla := (Array.getElem?_eq_some_iff.1 hZa).1; have hzc_0 := bx_cell hZa 0 _ rfl; have hzf_0 := bx_frozen hZa 0; have hzc_1 := bx_cell hZa 1 _ rfl; have hzf_1 := bx_frozen hZa 1; have hzc_2 := bx_cell hZa 2 _ rfl; have hzf_2 := bx_frozen hZa 2; clear hb))
  all_goals (go_wp2_with fail; go_meet)
  all_goals first
   | with_reducible exact finK hZa hp0 (Nat.le_refl _) ow2
   | with_reducible exact finKn hp0 ow2
 case rest =>
  obtain ⟨B, o2, c2, rfl, Hbx, Hbl, hB1, hB2, Hob⟩ := hcut
  have hb := Hbl.out
  have hwc := hb.size
  have HBLK := hide (hb.block _ hzr)
  clear Hbl
  replace z0 := bC hb z0 zz
  replace z1 := bC hb z1 zz
  replace z2 := bC hb z2 zz
  replace zz := Nat.lt_of_lt_of_le zz hb.size
  replace r0 := bC hb r0 zr
  replace r1 := bC hb r1 zr
  replace r2 := bC hb r2 zr
  replace fr0 := bF hb fr0 zr
  replace fr1 := bF hb fr1 zr
  replace fr2 := bF hb fr2 zr
  replace zr := Nat.lt_of_lt_of_le zr hb.size
  replace HB := hide (HB.out.trans (hb.mono HB.out.size))
  clear hb
  have HRB := hide ((HBLK.out).trans HR0.out)
  have HBC := HB
  have HLB := hide (fun b (e : (Value.slice o2 l.length c2).ownBlock = some b) => (Hob.out.lt b e).2)
  have hz2c := z2
  have hr0c := r0
  have hr1c := r1
  have hr2c := r2
  have hf0c := fr0
  have hf1c := fr1
  have hf2c := fr2
  clear z0 z1 r0 r1 r2 fr0 fr1 fr2
  go_wp2
  go_loopw [15] (fun iv wr => ∃ (i : Nat) (hs : List Hd) (L H : Nat → Nat) (oQ : Option Addr) (cQ : Nat), i ≤ n ∧ iv = .int .i64 (i : Int) ∧ Hid (wr.heap[B]? = some (.cells #[.int .i64 key, .slice o2 l.length c2, .slice oQ i cQ] 29 (0, 0))) ∧ Hid (ownL layH 51 wr wc.heap.size (.slice oQ i cQ) hs) ∧ Hid (Rw InT [] ((fs.map ptLL).take i) wc.heap.size wr.heap.size wr hs L H) ∧ Hid (outB (.slice oQ i cQ) i L H) ∧ Hid (ownK wr W0.heap.size (.slice o2 l.length c2) l) ∧ wc.heap.size ≤ wr.heap.size ∧ Hid (Stp B (B + 1) wc wr))
   (fun iv _ => n - (intOf iv).toNat)
  case atStart => exact ⟨0, [], fun _ => 0, fun _ => 0, none, 0, Nat.zero_le _, rfl, Hbx.out, World.ownsRow_nil _ _ _ _, by rw [List.take_zero]; exact Rw.nil _ _ _ _ _ _ _, fun i hi => absurd hi (Nat.not_lt_zero _), Hob.out, Nat.le_refl _, Stp.refl _⟩
  case round =>
   obtain ⟨i, hs, L, H, oQ, cQ, hi', rfl, HBX, HOW, HRW, HOUT, HOB, hsr, HST⟩ := hrel
   have hzB : B ≠ w.heap.size := by omega
   have hBr : B ≠ w.heap.size + 1 := by omega
   have HCELL := hide (fun (p : Addr) u (hp : p.block < W0.heap.size) (h : wc.cell? p = some u) => HST.out.cellP h (by omega))
   by_cases hlt : i < n
   ·skip
    have hlt' : (i : Int) < (n : Int) := by omega
    skip
    have hif : i < fs.length := by rw [← HNN.out]; exact hlt
    have HRD := hide (show RdL layT w.heap.size wr oR fs from rd_stp HG.out HBC.out HST.out (show w.heap.size ≤ B by omega) )
    rcases HRD.out with hh | ⟨b, off, rfl, hbl, hrow⟩
    ·rw [hh] at hif; exact absurd hif (Nat.not_lt_zero _)
    have HRG := hide (RdL.range hrow i hif)
    have HTK := hide (take_map fs i hif)
    clear hrow HRD
    obtain ⟨f, hf⟩ : ∃ f, fs.getD i ptZ = f := ⟨_, rfl⟩
    rw [hf] at HRG HTK
    clear hf
    obtain ⟨W2, hW2⟩ : ∃ W, wr.alloc (.cells (ptA f) 310) = W := ⟨_, rfl⟩
    have hb2 : Below wr.heap.size wr W2 := by rw [← hW2]; exact (Below.refl _ _).alloc (Nat.le_refl _) _
    have hz5 : W2.heap[wr.heap.size]? = some (.cells (ptA f) 310 (0, 0)) := by rw [← hW2]; exact World.alloc_heap_new wr _
    have hx2 := (hb2.block B (by omega)).trans HBX.out
    have hx2l := (Array.getElem?_eq_some_iff.1 hx2).1
    have HRA := hide (show W2.rangeAt wr.heap.size 0 (ptL f) from range_pt hz5)
    clear hz5
    have p2 : W2.cell? ⟨B, 2, none⟩ = some (.slice oQ i cQ) := bx_cell hx2 2 _ rfl
    have HX2 := hide hx2
    have HOW2 := hide (own_kept HOW.out hb2)
    have HRW2 := hide (HRW.out.kept InT.stp hb2)
    have HOB2 := hide (own_kept HOB.out hb2)
    have HST2 := hide (HST.out.trans (Stp.of hb2))
    have hs2 : wr.heap.size ≤ W2.heap.size := hb2.size
    have HLT := hide (fun g (e : (Value.slice oQ i cQ).ownBlock = some g) => (HOW.out.lt g e).2)
    have HHI := hide (fun j (hj : j < i) => (HRW.out.bd j (by rw [List.length_take, List.length_map]; omega)).2)
    have HLN := hide (show ((fs.map ptLL).take i).length = i by rw [List.length_take, List.length_map]; omega)
    clear hb2 hx2 HOW HRW HOB
    go_wp2_with (first | (refine wpList_load_mid rfl 310 (.tmp 17) rfl b (off + i * 24) rfl (ptL f) _ HRG.out ptU rfl ptI ?_) | (refine wpList_store_pt rfl (.tmp 5) (.tmp 18) rfl wr.heap.size f ptZ rfl rfl (World.alloc_heap_new wr _) ?_; rw [World.setRow_alloc_new, hW2]))
    skip
    have HHL := hide (show hs.length = i by have := HRW2.out.len; rw [HLN.out] at this; exact this)
    have HNB := hide (fun g (e : (Value.slice oQ i cQ).ownBlock = some g) => (HOW2.out.lt g e).1)
    refine wp_region_held_drew (S := fun w' => w'.rangeAt wr.heap.size 0 (ptL f)) (by kernel_rfl) HRA.out (fun hHeld => ?_)
    refine wpAnyH_take (i := 2) (oi := _) (v := ptv f) rfl (by kernel_rfl) (by kernel_rfl) (by kernel_rfl) (fun _ _ _ h => h) (yieldsIf_load_mid (by rfl) _ _ rfl wr.heap.size 0 rfl (ptL f) _ (fun w h => h) ptU rfl ptI) hHeld ?_
    try simp only [Act.put, List.setIfInBounds_toArray, List.set_cons_zero, List.set_cons_succ]
    refine wpAnyH_take (i := 0) (oi := _) (v := .pointer (some ⟨B, 2, none⟩)) rfl (by kernel_rfl) (by kernel_rfl) (by kernel_rfl) (fun _ _ _ h => h) (Or.inl ⟨by rfl, fun w _ => by go_simp⟩) hHeld ?_
    try simp only [Act.put, List.setIfInBounds_toArray, List.set_cons_zero, List.set_cons_succ]
    have ra0 : W2.drew.rangeAt wr.heap.size 0 (ptL f) := HRA.out
    have hzw : wr.heap.size < W2.heap.size := by rw [← hW2]; simp
    refine wpAnyH_ready (rs := [1, 3]) (by kernel_rfl) (by simp) ?_
    refine AllReadyH.cons rfl (fun K hK => ?_) ?_
    ·skip
     go_simp
     refine hK.out _ _ ra0 (fun hHeld => ?_)
     clear hK K
     try simp only [Act.put, List.setIfInBounds_toArray, List.set_cons_zero, List.set_cons_succ]
     refine wpAnyH_ready (rs := [3]) (by kernel_rfl) (by simp) ?_
     refine AllReadyH.cons rfl (fun K hK => ?_) ?_
     ·skip
      go_simp
      go_at_call 238
      refine (lists_any f _).mono ?_
      rintro e v1 ⟨v4, rfl, it4, hb4⟩
      replace hb4 : Below W2.heap.size W2 v1 := (Below.drew (Below.refl _ _)).trans hb4
      replace it4 : InT W2.heap.size v1.heap.size v1 v4 (ptLL f) := it4
      obtain ⟨o4, c4, e4, _⟩ := RiT.rd (InT.ri it4)
      rw [ptLL_len] at e4
      subst e4
      have hx4 := (hb4.block B hx2l).trans HX2.out
      have hx4l := (Array.getElem?_eq_some_iff.1 hx4).1
      have p4 : v1.cell? ⟨B, 2, none⟩ = some (.slice oQ i cQ) := bx_cell hx4 2 _ rfl
      have p4a : ∀ O, (v1.alloc O).cell? ⟨B, 2, none⟩ = some (.slice oQ i cQ) := (fun O => ((Below.refl v1.heap.size v1).alloc (Nat.le_refl _) O).cell (p := ⟨B, 2, none⟩) hx4l |>.trans p4)
      have hs4 := hb4.size
      have HOW4 := hide (own_kept HOW2.out hb4)
      have HRW4 := hide (HRW2.out.kept InT.stp hb4)
      have HOB4 := hide (own_kept HOB2.out hb4)
      have HST4 := hide (HST2.out.trans (Stp.of hb4))
      have HIT := hide it4
      have ra1 : v1.rangeAt wr.heap.size 0 (ptL f) := range_kept HRA.out hb4 hzw
      have HX4 := hide hx4
      clear it4 hb4 hx4
      go_wp2_with fail
      refine hK.out _ _ ra1 (fun hHeld => ?_)
      clear hK K
      try simp only [Act.put, List.setIfInBounds_toArray, List.set_cons_zero, List.set_cons_succ]
      refine wpAnyH_ready (rs := [4]) (by kernel_rfl) (by simp) ?_
      refine AllReadyH.cons rfl (fun K hK => ?_) ?_
      ·skip
       go_simp
       refine hK.out _ _ (range_kept ra1 ((Below.refl v1.heap.size v1).alloc (Nat.le_refl _) (.cells #[.slice o4 8 c4] 51)) (by omega)) (fun hHeld => ?_)
       clear hK K
       try simp only [Act.put, List.setIfInBounds_toArray, List.set_cons_zero, List.set_cons_succ]
       refine wpAnyH_ready (rs := [5]) (by kernel_rfl) (by simp) ?_
       refine AllReadyH.cons rfl (fun K hK => ?_) ?_
       ·skip
        refine step_append_lay appHT rfl (.tmp 20) (.tmp 23) rfl wc.heap.size (.slice oQ i cQ) hs rfl (HOW4.out.alloc (.cells #[.slice o4 8 c4] 51)) (some ⟨v1.heap.size, 0, none⟩) 1 _ [(o4, 8, c4)] 1 rfl rfl (by simp) rd_oneH (by rw [HHL.out]; simp; omega) (by simp; omega) ?_
        intro v8 w8 ho8 hg8 hn8
        obtain ⟨o8, c8, e8, _⟩ := ownL.open (L := layH) ho8
        have hl8 : (hs ++ [((o4, 8, c4) : Hd)]).length = i + 1 := (by rw [List.length_append, HHL.out]; rfl)
        rw [hl8] at e8
        subst e8
        have hx8 := (hg8.block B (by simp; omega) (fun e => by have := HLT.out B e.symm; have := HNB.out B e.symm; omega)).trans ((Below.heap_alloc _ _ _ hx4l).trans HX4.out)
        have p8 : w8.cell? ⟨B, 2, none⟩ = some (.slice oQ i cQ) := bx_cell hx8 2 _ rfl
        have f8 := bx_frozen hx8 2
        have ra3 : w8.rangeAt wr.heap.size 0 (ptL f) := range_grown (range_kept ra1 ((Below.refl v1.heap.size v1).alloc (Nat.le_refl _) _) (by omega)) hg8 (by simp; omega) (fun e => by have := HLT.out _ e.symm; omega)
        have HX8 := hide hx8
        have HO8 := hide ho8
        have HG8 := hide hg8
        have HN8 := hide hn8
        clear ho8 hg8 hn8 hx8
        refine hK.out _ _ ra3 (fun hHeld => ?_)
        clear hK K
        try simp only [Act.put, List.setIfInBounds_toArray, List.set_cons_zero, List.set_cons_succ]
        refine wpAnyH_take (i := 6) (oi := _) (v := .pointer (some ⟨B, 2, none⟩)) rfl (by kernel_rfl) (by kernel_rfl) (by kernel_rfl) (fun _ _ _ h => h) (Or.inl ⟨by rfl, fun w _ => by go_simp⟩) hHeld ?_
        try simp only [Act.put, List.setIfInBounds_toArray, List.set_cons_zero, List.set_cons_succ]
        refine wpAnyH_ready (rs := [7]) (by kernel_rfl) (by simp) ?_
        refine AllReadyH.cons rfl (fun K hK => ?_) ?_
        ·skip
         go_simp
         refine hK.out _ _ (range_far ra3 (by omega) _ _) (fun hHeld => ?_)
         clear hK K
         try simp only [Act.put, List.setIfInBounds_toArray, List.set_cons_zero, List.set_cons_succ]
         refine wpAnyH_done (by kernel_rfl) ?_ _
         have HX9 : Hid ((w8.setCell ⟨B, 2, none⟩ (.slice o8 (i + 1) c8)).heap[B]? = some (.cells #[.int .i64 key, .slice o2 l.length c2, .slice o8 (i + 1) c8] 29 (0, 0))) := box_put HX8.out 2 _
         have HO9 : Hid (ownL layH 51 (w8.setCell ⟨B, 2, none⟩ (.slice o8 (i + 1) c8)) wc.heap.size (.slice o8 (i + 1) c8) (hs ++ [(o4, 8, c4)])) := own_putB HO8.out HX8.out neP1 2 _
         have hR8 := Rw.more HRW4.out HLN.out hs2 (show wc.heap.size ≤ W2.heap.size by omega) hs4 HIT.out HOUT.out HLT.out HG8.out
         rw [← HTK.out] at hR8
         have HR9 : Hid (Rw InT [] ((fs.map ptLL).take (i + 1)) wc.heap.size (w8.setCell ⟨B, 2, none⟩ (.slice o8 (i + 1) c8)).heap.size (w8.setCell ⟨B, 2, none⟩ (.slice o8 (i + 1) c8)) (hs ++ [(o4, 8, c4)]) _ _) := (hR8.step InT.stp (stp_set w8 B 2 (.slice o8 (i + 1) c8)) (fun j hj => .inl (Nat.le_trans (show B + 1 ≤ wc.heap.size from hB2) (hR8.bd j hj).1))).mono (Nat.le_refl _) (by simp)
         have HU9 := hide (out_more HOUT.out HHI.out hs2 hs4 HLT.out HN8.out)
         have HOB9 : Hid (ownK (w8.setCell ⟨B, 2, none⟩ (.slice o8 (i + 1) c8)) W0.heap.size (.slice o2 l.length c2) l) := own_putB (World.ownsRow.kept (World.ownsRow.alloc HOB4.out _) HG8.out (own_apart0 HOB4.out HOW4.out neBR)) HX8.out neP4 2 _
         have HS9 := hide ((stp_more HST4.out HG8.out (fun g e => HNB.out g e)).trans (stp_set w8 B 2 (.slice o8 (i + 1) c8)))
         have hs9 : wc.heap.size ≤ w8.heap.size := by have := HS9.out.size; simpa using this
         clear hR8
         go_wp2
         go_roundw
         case rel => exact ⟨i + 1, _, _, _, o8, c8, by omega, by go_num, HX9.out, HO9.out, HR9.out, HU9.out, HOB9.out, by simpa using hs9, HS9.out⟩
         case measure => simp [intOf]; omega
        exact AllReadyH.nil
       exact AllReadyH.nil
      exact AllReadyH.nil
     exact AllReadyH.nil
    refine AllReadyH.cons rfl (fun K hK => ?_) ?_
    ·skip
     go_simp
     go_at_call 238
     refine (lists_any f _).mono ?_
     rintro e v1 ⟨v4, rfl, it4, hb4⟩
     replace hb4 : Below W2.heap.size W2 v1 := (Below.drew (Below.refl _ _)).trans hb4
     replace it4 : InT W2.heap.size v1.heap.size v1 v4 (ptLL f) := it4
     obtain ⟨o4, c4, e4, _⟩ := RiT.rd (InT.ri it4)
     rw [ptLL_len] at e4
     subst e4
     have hx4 := (hb4.block B hx2l).trans HX2.out
     have hx4l := (Array.getElem?_eq_some_iff.1 hx4).1
     have p4 : v1.cell? ⟨B, 2, none⟩ = some (.slice oQ i cQ) := bx_cell hx4 2 _ rfl
     have p4a : ∀ O, (v1.alloc O).cell? ⟨B, 2, none⟩ = some (.slice oQ i cQ) := (fun O => ((Below.refl v1.heap.size v1).alloc (Nat.le_refl _) O).cell (p := ⟨B, 2, none⟩) hx4l |>.trans p4)
     have hs4 := hb4.size
     have HOW4 := hide (own_kept HOW2.out hb4)
     have HRW4 := hide (HRW2.out.kept InT.stp hb4)
     have HOB4 := hide (own_kept HOB2.out hb4)
     have HST4 := hide (HST2.out.trans (Stp.of hb4))
     have HIT := hide it4
     have ra1 : v1.rangeAt wr.heap.size 0 (ptL f) := range_kept HRA.out hb4 hzw
     have HX4 := hide hx4
     clear it4 hb4 hx4
     go_wp2_with fail
     refine hK.out _ _ ra1 (fun hHeld => ?_)
     clear hK K
     try simp only [Act.put, List.setIfInBounds_toArray, List.set_cons_zero, List.set_cons_succ]
     refine wpAnyH_ready (rs := [1, 4]) (by kernel_rfl) (by simp) ?_
     refine AllReadyH.cons rfl (fun K hK => ?_) ?_
     ·skip
      go_simp
      refine hK.out _ _ ra1 (fun hHeld => ?_)
      clear hK K
      try simp only [Act.put, List.setIfInBounds_toArray, List.set_cons_zero, List.set_cons_succ]
      refine wpAnyH_ready (rs := [4]) (by kernel_rfl) (by simp) ?_
      refine AllReadyH.cons rfl (fun K hK => ?_) ?_
      ·skip
       go_simp
       refine hK.out _ _ (range_kept ra1 ((Below.refl v1.heap.size v1).alloc (Nat.le_refl _) (.cells #[.slice o4 8 c4] 51)) (by omega)) (fun hHeld => ?_)
       clear hK K
       try simp only [Act.put, List.setIfInBounds_toArray, List.set_cons_zero, List.set_cons_succ]
       refine wpAnyH_ready (rs := [5]) (by kernel_rfl) (by simp) ?_
       refine AllReadyH.cons rfl (fun K hK => ?_) ?_
       ·skip
        refine step_append_lay appHT rfl (.tmp 20) (.tmp 23) rfl wc.heap.size (.slice oQ i cQ) hs rfl (HOW4.out.alloc (.cells #[.slice o4 8 c4] 51)) (some ⟨v1.heap.size, 0, none⟩) 1 _ [(o4, 8, c4)] 1 rfl rfl (by simp) rd_oneH (by rw [HHL.out]; simp; omega) (by simp; omega) ?_
        intro v8 w8 ho8 hg8 hn8
        obtain ⟨o8, c8, e8, _⟩ := ownL.open (L := layH) ho8
        have hl8 : (hs ++ [((o4, 8, c4) : Hd)]).length = i + 1 := (by rw [List.length_append, HHL.out]; rfl)
        rw [hl8] at e8
        subst e8
        have hx8 := (hg8.block B (by simp; omega) (fun e => by have := HLT.out B e.symm; have := HNB.out B e.symm; omega)).trans ((Below.heap_alloc _ _ _ hx4l).trans HX4.out)
        have p8 : w8.cell? ⟨B, 2, none⟩ = some (.slice oQ i cQ) := bx_cell hx8 2 _ rfl
        have f8 := bx_frozen hx8 2
        have ra3 : w8.rangeAt wr.heap.size 0 (ptL f) := range_grown (range_kept ra1 ((Below.refl v1.heap.size v1).alloc (Nat.le_refl _) _) (by omega)) hg8 (by simp; omega) (fun e => by have := HLT.out _ e.symm; omega)
        have HX8 := hide hx8
        have HO8 := hide ho8
        have HG8 := hide hg8
        have HN8 := hide hn8
        clear ho8 hg8 hn8 hx8
        refine hK.out _ _ ra3 (fun hHeld => ?_)
        clear hK K
        try simp only [Act.put, List.setIfInBounds_toArray, List.set_cons_zero, List.set_cons_succ]
        refine wpAnyH_take (i := 6) (oi := _) (v := .pointer (some ⟨B, 2, none⟩)) rfl (by kernel_rfl) (by kernel_rfl) (by kernel_rfl) (fun _ _ _ h => h) (Or.inl ⟨by rfl, fun w _ => by go_simp⟩) hHeld ?_
        try simp only [Act.put, List.setIfInBounds_toArray, List.set_cons_zero, List.set_cons_succ]
        refine wpAnyH_ready (rs := [7]) (by kernel_rfl) (by simp) ?_
        refine AllReadyH.cons rfl (fun K hK => ?_) ?_
        ·skip
         go_simp
         refine hK.out _ _ (range_far ra3 (by omega) _ _) (fun hHeld => ?_)
         clear hK K
         try simp only [Act.put, List.setIfInBounds_toArray, List.set_cons_zero, List.set_cons_succ]
         refine wpAnyH_done (by kernel_rfl) ?_ _
         have HX9 : Hid ((w8.setCell ⟨B, 2, none⟩ (.slice o8 (i + 1) c8)).heap[B]? = some (.cells #[.int .i64 key, .slice o2 l.length c2, .slice o8 (i + 1) c8] 29 (0, 0))) := box_put HX8.out 2 _
         have HO9 : Hid (ownL layH 51 (w8.setCell ⟨B, 2, none⟩ (.slice o8 (i + 1) c8)) wc.heap.size (.slice o8 (i + 1) c8) (hs ++ [(o4, 8, c4)])) := own_putB HO8.out HX8.out neP1 2 _
         have hR8 := Rw.more HRW4.out HLN.out hs2 (show wc.heap.size ≤ W2.heap.size by omega) hs4 HIT.out HOUT.out HLT.out HG8.out
         rw [← HTK.out] at hR8
         have HR9 : Hid (Rw InT [] ((fs.map ptLL).take (i + 1)) wc.heap.size (w8.setCell ⟨B, 2, none⟩ (.slice o8 (i + 1) c8)).heap.size (w8.setCell ⟨B, 2, none⟩ (.slice o8 (i + 1) c8)) (hs ++ [(o4, 8, c4)]) _ _) := (hR8.step InT.stp (stp_set w8 B 2 (.slice o8 (i + 1) c8)) (fun j hj => .inl (Nat.le_trans (show B + 1 ≤ wc.heap.size from hB2) (hR8.bd j hj).1))).mono (Nat.le_refl _) (by simp)
         have HU9 := hide (out_more HOUT.out HHI.out hs2 hs4 HLT.out HN8.out)
         have HOB9 : Hid (ownK (w8.setCell ⟨B, 2, none⟩ (.slice o8 (i + 1) c8)) W0.heap.size (.slice o2 l.length c2) l) := own_putB (World.ownsRow.kept (World.ownsRow.alloc HOB4.out _) HG8.out (own_apart0 HOB4.out HOW4.out neBR)) HX8.out neP4 2 _
         have HS9 := hide ((stp_more HST4.out HG8.out (fun g e => HNB.out g e)).trans (stp_set w8 B 2 (.slice o8 (i + 1) c8)))
         have hs9 : wc.heap.size ≤ w8.heap.size := by have := HS9.out.size; simpa using this
         clear hR8
         go_wp2
         go_roundw
         case rel => exact ⟨i + 1, _, _, _, o8, c8, by omega, by go_num, HX9.out, HO9.out, HR9.out, HU9.out, HOB9.out, by simpa using hs9, HS9.out⟩
         case measure => simp [intOf]; omega
        exact AllReadyH.nil
       exact AllReadyH.nil
      exact AllReadyH.nil
     refine AllReadyH.cons rfl (fun K hK => ?_) ?_
     ·skip
      go_simp
      refine hK.out _ _ (range_kept ra1 ((Below.refl v1.heap.size v1).alloc (Nat.le_refl _) (.cells #[.slice o4 8 c4] 51)) (by omega)) (fun hHeld => ?_)
      clear hK K
      try simp only [Act.put, List.setIfInBounds_toArray, List.set_cons_zero, List.set_cons_succ]
      refine wpAnyH_ready (rs := [1]) (by kernel_rfl) (by simp) ?_
      refine AllReadyH.cons rfl (fun K hK => ?_) ?_
      ·skip
       go_simp
       refine hK.out _ _ (range_kept ra1 ((Below.refl v1.heap.size v1).alloc (Nat.le_refl _) (.cells #[.slice o4 8 c4] 51)) (by omega)) (fun hHeld => ?_)
       clear hK K
       try simp only [Act.put, List.setIfInBounds_toArray, List.set_cons_zero, List.set_cons_succ]
       refine wpAnyH_ready (rs := [5]) (by kernel_rfl) (by simp) ?_
       refine AllReadyH.cons rfl (fun K hK => ?_) ?_
       ·skip
        refine step_append_lay appHT rfl (.tmp 20) (.tmp 23) rfl wc.heap.size (.slice oQ i cQ) hs rfl (HOW4.out.alloc (.cells #[.slice o4 8 c4] 51)) (some ⟨v1.heap.size, 0, none⟩) 1 _ [(o4, 8, c4)] 1 rfl rfl (by simp) rd_oneH (by rw [HHL.out]; simp; omega) (by simp; omega) ?_
        intro v8 w8 ho8 hg8 hn8
        obtain ⟨o8, c8, e8, _⟩ := ownL.open (L := layH) ho8
        have hl8 : (hs ++ [((o4, 8, c4) : Hd)]).length = i + 1 := (by rw [List.length_append, HHL.out]; rfl)
        rw [hl8] at e8
        subst e8
        have hx8 := (hg8.block B (by simp; omega) (fun e => by have := HLT.out B e.symm; have := HNB.out B e.symm; omega)).trans ((Below.heap_alloc _ _ _ hx4l).trans HX4.out)
        have p8 : w8.cell? ⟨B, 2, none⟩ = some (.slice oQ i cQ) := bx_cell hx8 2 _ rfl
        have f8 := bx_frozen hx8 2
        have ra3 : w8.rangeAt wr.heap.size 0 (ptL f) := range_grown (range_kept ra1 ((Below.refl v1.heap.size v1).alloc (Nat.le_refl _) _) (by omega)) hg8 (by simp; omega) (fun e => by have := HLT.out _ e.symm; omega)
        have HX8 := hide hx8
        have HO8 := hide ho8
        have HG8 := hide hg8
        have HN8 := hide hn8
        clear ho8 hg8 hn8 hx8
        refine hK.out _ _ ra3 (fun hHeld => ?_)
        clear hK K
        try simp only [Act.put, List.setIfInBounds_toArray, List.set_cons_zero, List.set_cons_succ]
        refine wpAnyH_take (i := 6) (oi := _) (v := .pointer (some ⟨B, 2, none⟩)) rfl (by kernel_rfl) (by kernel_rfl) (by kernel_rfl) (fun _ _ _ h => h) (Or.inl ⟨by rfl, fun w _ => by go_simp⟩) hHeld ?_
        try simp only [Act.put, List.setIfInBounds_toArray, List.set_cons_zero, List.set_cons_succ]
        refine wpAnyH_ready (rs := [7]) (by kernel_rfl) (by simp) ?_
        refine AllReadyH.cons rfl (fun K hK => ?_) ?_
        ·skip
         go_simp
         refine hK.out _ _ (range_far ra3 (by omega) _ _) (fun hHeld => ?_)
         clear hK K
         try simp only [Act.put, List.setIfInBounds_toArray, List.set_cons_zero, List.set_cons_succ]
         refine wpAnyH_done (by kernel_rfl) ?_ _
         have HX9 : Hid ((w8.setCell ⟨B, 2, none⟩ (.slice o8 (i + 1) c8)).heap[B]? = some (.cells #[.int .i64 key, .slice o2 l.length c2, .slice o8 (i + 1) c8] 29 (0, 0))) := box_put HX8.out 2 _
         have HO9 : Hid (ownL layH 51 (w8.setCell ⟨B, 2, none⟩ (.slice o8 (i + 1) c8)) wc.heap.size (.slice o8 (i + 1) c8) (hs ++ [(o4, 8, c4)])) := own_putB HO8.out HX8.out neP1 2 _
         have hR8 := Rw.more HRW4.out HLN.out hs2 (show wc.heap.size ≤ W2.heap.size by omega) hs4 HIT.out HOUT.out HLT.out HG8.out
         rw [← HTK.out] at hR8
         have HR9 : Hid (Rw InT [] ((fs.map ptLL).take (i + 1)) wc.heap.size (w8.setCell ⟨B, 2, none⟩ (.slice o8 (i + 1) c8)).heap.size (w8.setCell ⟨B, 2, none⟩ (.slice o8 (i + 1) c8)) (hs ++ [(o4, 8, c4)]) _ _) := (hR8.step InT.stp (stp_set w8 B 2 (.slice o8 (i + 1) c8)) (fun j hj => .inl (Nat.le_trans (show B + 1 ≤ wc.heap.size from hB2) (hR8.bd j hj).1))).mono (Nat.le_refl _) (by simp)
         have HU9 := hide (out_more HOUT.out HHI.out hs2 hs4 HLT.out HN8.out)
         have HOB9 : Hid (ownK (w8.setCell ⟨B, 2, none⟩ (.slice o8 (i + 1) c8)) W0.heap.size (.slice o2 l.length c2) l) := own_putB (World.ownsRow.kept (World.ownsRow.alloc HOB4.out _) HG8.out (own_apart0 HOB4.out HOW4.out neBR)) HX8.out neP4 2 _
         have HS9 := hide ((stp_more HST4.out HG8.out (fun g e => HNB.out g e)).trans (stp_set w8 B 2 (.slice o8 (i + 1) c8)))
         have hs9 : wc.heap.size ≤ w8.heap.size := by have := HS9.out.size; simpa using this
         clear hR8
         go_wp2
         go_roundw
         case rel => exact ⟨i + 1, _, _, _, o8, c8, by omega, by go_num, HX9.out, HO9.out, HR9.out, HU9.out, HOB9.out, by simpa using hs9, HS9.out⟩
         case measure => simp [intOf]; omega
        exact AllReadyH.nil
       exact AllReadyH.nil
      exact AllReadyH.nil
     exact AllReadyH.nil
    exact AllReadyH.nil
   ·skip
    have e : i = n := by omega
    subst e
    have hrb := HST.out.box HRB.out (.inl (show w.heap.size + 1 < B by omega))
    have r0 : wr.cell? ⟨w.heap.size + 1, 0, none⟩ = some (.int .i64 0) := bx_cell hrb 0 _ rfl
    have fr0 := bx_frozen hrb 0
    have r1 : wr.cell? ⟨w.heap.size + 1, 1, none⟩ = some (.slice none 0 0) := bx_cell hrb 1 _ rfl
    have fr1 := bx_frozen hrb 1
    have r2 : wr.cell? ⟨w.heap.size + 1, 2, none⟩ = some (.slice none 0 0) := bx_cell hrb 2 _ rfl
    have fr2 := bx_frozen hrb 2
    have p0 : wr.cell? ⟨B, 0, none⟩ = some (.int .i64 key) := bx_cell HBX.out 0 _ rfl
    have p1 : wr.cell? ⟨B, 1, none⟩ = some (.slice o2 l.length c2) := bx_cell HBX.out 1 _ rfl
    have p2 : wr.cell? ⟨B, 2, none⟩ = some (.slice oQ i cQ) := bx_cell HBX.out 2 _ rfl
    have HIN : Hid (InPm W0.heap.size wr.heap.size wr (plv key (.slice o2 l.length c2) (.slice oQ i cQ)) ⟨key, l, fs.map ptLL⟩) := ⟨_, _, wc.heap.size, rfl, hwc, hsr, ⟨HOB.out, HLB.out⟩, ⟨hs, L, H, InRow.of (all_take HNN.out HRW.out HOW.out).1, (all_take HNN.out HRW.out HOW.out).2, out_len HNN.out HOUT.out⟩⟩
    have HBW := hide (HBC.out.trans (HST.out.below (show w.heap.size ≤ B by omega) (by omega)))
    clear hrb
    go_wp2
    refine bodyPost_ret (v := plv key (.slice o2 l.length c2) (.slice oQ i cQ)) (by simp [results, Tryz.results122, go_sem, r0, r1, r2]) rfl ⟨_, rfl, ?_, setQ_below HBW.out (Nat.le_succ _) _ _ _⟩
    rw [setQ_size]
    exact InPm.mono (HIN.out.step (stp_setQ wr (w.heap.size + 1) _ _ _) (.inl (by omega))) (by omega)

theorem plain_any (key : Int) (o : Option Addr) (cap : Nat) (l : List Bk) (oR : Option Addr) (cR : Nat) (fs : List Pt) (w : World) (hR : RdK w.heap.size w o l) (hn : o = none → cap = 0) (hlen : l.length ≤ 1048576) (hG : RdL layT w.heap.size w oR fs) (hf3 : fs.length ≤ 1048576) :
  Calls Tryz.prog 122 #[polv key (.slice o l.length cap) (.slice oR fs.length cR)] w fun e w' => ∃ v, e = .returned v ∧ InPm w.heap.size w'.heap.size w' v ⟨key, l, fs.map ptLL⟩ ∧ Below w.heap.size w w' := plain_go key o cap l oR cR fs fs.length rfl w hR hn hlen hG hf3

end Go.Proofs.YtmmhgkkcpjhiiaaGreat

namespace Go.Proofs.YtmmhgkkcpjhiiaaGreat
open Go.ChangeShapes Go.WideShapes Go.ChangeAt Go.RowKit Go.Joins
set_option linter.unusedVariables false
set_option linter.unusedSimpArgs false

theorem appII : AppOk layI 47 3 := ⟨Tryz.underlying47, ⟨_, _, infoInt, rfl, by decide⟩, by decide, fun a u hu => by
 have : u = .int .i64 a := by simpa [layI] using hu
 subst this; rfl⟩
theorem appHI : AppOk layH 51 47 := ⟨Tryz.underlying51, ⟨_, _, infoIntS, rfl, by decide⟩, by decide, fun a u hu => by
 have : u = .slice a.1 a.2.1 a.2.2 := by simpa [layH] using hu
 subst this; rfl⟩
def RcV {α : Type} (L : Lay α) (lo hi : Nat) (w : World) (v : Value) (l : List α) : Prop := RiV L lo hi w v l ∧ capV v
abbrev RcT := RiRows (RcV layI) []
abbrev RcR := RiRows RcT []
theorem RcI.mon : Monos (RcV layI) := ⟨fun h h1 h2 => ⟨RiV.mono h.1 h1 h2, h.2⟩⟩
theorem RcI.stp : Stps (RcV layI) := ⟨fun h s hd => ⟨RiV.step h.1 s hd, h.2⟩⟩
theorem RcT.mon : Monos RcT := RiRows.mono RcI.mon
theorem RcT.stp : Stps RcT := RiRows.step RcI.stp
theorem RcR.mon : Monos RcR := RiRows.mono RcT.mon
theorem RcR.stp : Stps RcR := RiRows.step RcT.stp
theorem RiRows.map {α : Type} {Q Q' : Nat → Nat → World → Value → α → Prop} {d : α} (hq : ∀ {lo hi : Nat} {w : World} {v : Value} {x : α}, Q lo hi w v x → Q' lo hi w v x) {lo hi : Nat} {w : World} {v : Value} {xs : List α} (h : RiRows Q d lo hi w v xs) : RiRows Q' d lo hi w v xs := by
 obtain ⟨hs, h0, h1, h2⟩ := h
 exact ⟨hs, h0, h1, fun i hi => hq (h2 i hi)⟩
theorem RiRows.at {α : Type} {Q : Nat → Nat → World → Value → α → Prop} {d : α} {a C : Nat} {w : World} {o : Option Addr} {n c : Nat} {xs : List α} (h : RiRows Q d a C w (.slice o n c) xs) (hC : C ≤ w.heap.size) (i : Nat) (hi : i < xs.length) : ∃ b off u, o = some ⟨b, off, none⟩ ∧ b < C ∧ w.cell? ⟨b, off + i, none⟩ = some u ∧ Q a C w u (xs.getD i d) := by
 obtain ⟨hs, h0, h1, h2⟩ := h
 obtain ⟨o1, c1, e, r⟩ := h1.open
 injection e with e1 e2 e3
 subst e1
 rcases r with r | ⟨b, off, ho, hb, r⟩
 ·subst r; simp at h0; omega
 ·exact ⟨b, off, hv hs i, ho, hb, RdL.head r i (by omega), h2 i hi⟩
theorem RcT.len {lo hi : Nat} {w : World} {v : Value} {ll : List (List Int)} (h : RcT lo hi w v ll) : ∃ o c, v = .slice o ll.length c := by
 obtain ⟨hs, h0, ⟨o, c, e, _⟩, _⟩ := h
 exact ⟨o, c, by rw [e, h0]⟩
theorem RcV.opn {lo hi : Nat} {w : World} {v : Value} {l : List Int} (h : RcV layI lo hi w v l) : ∃ o c, v = .slice o l.length c ∧ RdL layI hi w o l ∧ (o = none → c = 0) := by
 obtain ⟨o, c, e, r⟩ := RiV.open h.1
 exact ⟨o, c, e, r, fun h0 => h.2 l.length c (by rw [e, h0])⟩
theorem own_none3 {α : Type} {L : Lay α} (w : World) (O : Obj) (e : TypeId) : ownL L e ((w.alloc O).alloc (.cells #[] e)) (w.heap.size + 1) (.slice (some ⟨w.heap.size + 1, 0, none⟩) 0 0) ([] : List α) := by
 have h := own_none0 (L := L) (w.alloc O) e
 rw [World.size_alloc] at h
 exact h
def GTabs (w : World) (base : Nat) (hs : List Hd) (lll : List (List (List Int))) : Prop := hs.length = lll.length ∧ ∀ i, i < lll.length → ∃ o3 c3 hs8, hs.getD i (none, 0, 0) = (o3, (lll.getD i []).length, c3) ∧ ownL layH 47 w base (.slice o3 (lll.getD i []).length c3) hs8 ∧ Tab (fun q => (lll.getD i []).getD q []) (lll.getD i []).length w base hs8
theorem GTabs.nil (w : World) (base : Nat) : GTabs w base [] [] := ⟨rfl, fun i h => absurd h (Nat.not_lt_zero _)⟩
theorem GTabs.kept {w w' : World} {base : Nat} {hs : List Hd} {R : List (List (List Int))} (h : GTabs w base hs R) (hb : Below w.heap.size w w') : GTabs w' base hs R :=
 ⟨h.1, fun i hi => by obtain ⟨o3, c3, hs8, e, h1, h2⟩ := h.2 i hi; exact ⟨o3, c3, hs8, e, own_kept h1 hb, h2.kept hb⟩⟩
theorem GTabs.other {w w' : World} {base b2 n2 : Nat} {hs : List Hd} {R : List (List (List Int))} {v2 : Value} {x2 : List Value} (h : GTabs w base hs R) (h2 : w.ownsRow b2 51 1 v2 n2 x2) (hg : w.grownBy w' v2.ownBlock) : GTabs w' base hs R :=
 ⟨h.1, fun i hi => by obtain ⟨o3, c3, hs8, e, k1, k2⟩ := h.2 i hi; exact ⟨o3, c3, hs8, e, World.ownsRow.kept k1 hg (own_apart k1 h2 neT1), k2.other h2 neT2 hg⟩⟩
theorem GTabs.putB {w : World} {base : Nat} {hs : List Hd} {R : List (List (List Int))} {B : Nat} {c : Array Value} (h : GTabs w base hs R) (hB : w.heap[B]? = some (.cells c 29 (0, 0))) (j : Nat) (u : Value) : GTabs (w.setCell ⟨B, j, none⟩ u) base hs R :=
 ⟨h.1, fun i hi => by obtain ⟨o3, c3, hs8, e, h1, h2⟩ := h.2 i hi; exact ⟨o3, c3, hs8, e, own_putB h1 hB neP2 j u, h2.grown (grown_set w B j u) (fun q hq => own_box (h2.row q hq) hB neP3)⟩⟩
theorem GTabs.snoc {w : World} {base : Nat} {hs hs8 : List Hd} {R : List (List (List Int))} {ll : List (List Int)} {o3 : Option Addr} {c3 : Nat} (h : GTabs w base hs R) (h1 : ownL layH 47 w base (.slice o3 ll.length c3) hs8) (h2 : Tab (fun q => ll.getD q []) ll.length w base hs8) : GTabs w base (hs ++ [(o3, ll.length, c3)]) (R ++ [ll]) := by
 have hl := h.1
 refine ⟨by simp [hl], fun i hi => ?_⟩
 by_cases hi' : i < R.length
 ·have e1 : (R ++ [ll]).getD i [] = R.getD i [] := by rw [List.getD_eq_getElem?_getD, List.getElem?_append_left hi', ← List.getD_eq_getElem?_getD]
  have e2 : (hs ++ [(o3, ll.length, c3)]).getD i (none, 0, 0) = hs.getD i (none, 0, 0) := by rw [List.getD_eq_getElem?_getD, List.getElem?_append_left (by omega), ← List.getD_eq_getElem?_getD]
  rw [e1, e2]; exact h.2 i hi'
 ·have e0 : i = R.length := by simp at hi; omega
  subst e0
  have e1 : (R ++ [ll]).getD R.length [] = ll := by simp
  have e2 : (hs ++ [(o3, ll.length, c3)]).getD R.length (none, 0, 0) = (o3, ll.length, c3) := by rw [← hl]; simp
  rw [e1, e2]; exact ⟨o3, c3, hs8, rfl, h1, h2⟩
theorem GTabs.rc {w : World} {base : Nat} {hs : List Hd} {R : List (List (List Int))} {o : Option Addr} {n c : Nat} (h : GTabs w base hs R) (ho : ownL layH 51 w base (.slice o n c) hs) : RcR base w.heap.size w (.slice o n c) R := by
 refine ⟨hs, h.1, InRow.ri (InRow.of ho), fun i hi => ?_⟩
 obtain ⟨o3, c3, hs8, e, h1, h2⟩ := h.2 i hi
 have e' : hv hs i = .slice o3 (R.getD i []).length c3 := by unfold hv; rw [e]
 rw [e']
 exact ⟨hs8, h2.len, InRow.ri (InRow.of h1), fun j hj => ⟨InRow.ri (InRow.of (h2.row j hj)), InRow.cap (InRow.of (h2.row j hj))⟩⟩
theorem RcR.ri {lo hi : Nat} {w : World} {v : Value} {R : List (List (List Int))} (h : RcR lo hi w v R) : RiR lo hi w v R := RiRows.map (fun q => RiRows.map (fun r => r.1) q) h
theorem GTabs.ri {w : World} {base : Nat} {hs : List Hd} {R : List (List (List Int))} {o : Option Addr} {n c : Nat} (h : GTabs w base hs R) (ho : ownL layH 51 w base (.slice o n c) hs) : RiR base w.heap.size w (.slice o n c) R := RcR.ri (h.rc ho)
theorem GTabs.mono {w : World} {base b2 : Nat} {hs : List Hd} {R : List (List (List Int))} (h : GTabs w base hs R) (hb : b2 ≤ base) : GTabs w b2 hs R :=
 ⟨h.1, fun i hi => by obtain ⟨o3, c3, hs8, e, h1, h2⟩ := h.2 i hi; exact ⟨o3, c3, hs8, e, own_mono h1 hb, Tab.mono h2 hb⟩⟩
theorem take_rows (R : List (List (List Int))) (i : Nat) (h : i < R.length) : R.take (i + 1) = R.take i ++ [R.getD i []] := by
 rw [List.take_succ_eq_append_getElem h]
 simp [h]

set_option maxRecDepth 100000 in
set_option maxHeartbeats 16000000 in
theorem l4own_gt (key : Int) (o : Option Addr) (cap : Nat) (l : List Bk) (oR : Option Addr) (cR : Nat) (lll : List (List (List Int))) (n : Nat) (hnn : n = lll.length) (w : World) (hR : RdK w.heap.size w o l) (hn : o = none → cap = 0) (hlen : l.length ≤ 1048576) (hG : RcR 0 w.heap.size w (.slice oR n cR) lll) (hf : n ≤ 1048576) (hx : ∀ i, i < lll.length → (lll.getD i []).length ≤ 1048576) (hy : ∀ i, i < lll.length → ∀ j, j < (lll.getD i []).length → ((lll.getD i []).getD j []).length ≤ 1048576) :
  Calls Tryz.prog 250 #[plv key (.slice o l.length cap) (.slice oR n cR)] w fun e w' => ∃ o2 c2 oQ cQ hs, e = .returned (plv key (.slice o2 l.length c2) (.slice oQ n cQ)) ∧ ownK w' w.heap.size (.slice o2 l.length c2) l ∧ ownL layH 51 w' w.heap.size (.slice oQ n cQ) hs ∧ GTabs w' w.heap.size hs lll ∧ Below w.heap.size w w' := by
 have HNN := hide hnn
 clear hnn
 obtain ⟨W0, hW0⟩ : ∃ W, ((w.alloc (.cells #[.int .i64 key, .slice o l.length cap, .slice oR n cR] 29)).alloc (.cells #[.int .i64 0, .slice none 0 0, .slice none 0 0] 29)) = W := ⟨_, rfl⟩
 have hb_W0 : Below w.heap.size w W0 := by rw [← hW0]; exact (((Below.refl _ _).alloc (Nat.le_refl _) _).alloc (by simp <;> omega) _)
 have HB := hide hb_W0
 clear hb_W0
 have zz : w.heap.size < W0.heap.size := by rw [← hW0]; simp <;> omega
 have z0 : W0.cell? ⟨w.heap.size, 0, none⟩ = some (.int .i64 key) := by rw [← hW0]; simp [go_sem]
 have z1 : W0.cell? ⟨w.heap.size, 1, none⟩ = some (.slice o l.length cap) := by rw [← hW0]; simp [go_sem]
 have z2 : W0.cell? ⟨w.heap.size, 2, none⟩ = some (.slice oR n cR) := by rw [← hW0]; simp [go_sem]
 have zr : w.heap.size + 1 < W0.heap.size := by rw [← hW0]; simp
 have r0 : W0.cell? ⟨w.heap.size + 1, 0, none⟩ = some (.int .i64 0) := by rw [← hW0]; simp [go_sem]
 have r1 : W0.cell? ⟨w.heap.size + 1, 1, none⟩ = some (.slice none 0 0) := by rw [← hW0]; simp [go_sem]
 have r2 : W0.cell? ⟨w.heap.size + 1, 2, none⟩ = some (.slice none 0 0) := by rw [← hW0]; simp [go_sem]
 have fr0 : W0.frozen? ⟨w.heap.size + 1, 0, none⟩ = false := by rw [← hW0]; simp [go_sem]
 have fr1 : W0.frozen? ⟨w.heap.size + 1, 1, none⟩ = false := by rw [← hW0]; simp [go_sem]
 have fr2 : W0.frozen? ⟨w.heap.size + 1, 2, none⟩ = false := by rw [← hW0]; simp [go_sem]
 have HR0 := hide (show W0.heap[w.heap.size + 1]? = some (.cells #[.int .i64 0, .slice none 0 0, .slice none 0 0] 29 (0, 0)) by rw [← hW0]; exact box_new2 w _ _ _)
 have hzr := zr
 have hzz0 := zz
 have HRK := hide (fun W (hb : Below W0.heap.size W0 W) => (hR.kept (HB.out.trans (hb.mono HB.out.size)) (Nat.le_refl _)))
 have HG := hide hG
 have HX := hide hx
 have HY := hide hy
 clear hR hG hx hy
 have hw0 := HB.out.size
 go_enter Tryz.func250, Tryz.ntmps250
 go_upto_region 1 with fail
 go_cut [3] from 7 to 13 (fun s3 wx => ∃ B o2 c2, s3 = .pointer (some ⟨B, 0, none⟩) ∧ Hid (wx.heap[B]? = some (.cells #[.int .i64 key, .slice o2 l.length c2, .slice none 0 0] 29 (0, 0))) ∧ Hid (Below W0.heap.size W0 wx) ∧ W0.heap.size ≤ B ∧ B < wx.heap.size ∧ Hid (ownK wx W0.heap.size (.slice o2 l.length c2) l))
 case first =>
  go_region_held3 (fun w' => w'.cell? ⟨w.heap.size, 0, none⟩ = some (.int .i64 key) ∧ w'.cell? ⟨w.heap.size, 1, none⟩ = some (.slice o l.length cap)) (first | with_reducible exact ⟨k0_0, k0_1⟩ | with_reducible exact ⟨z0, z1⟩ | with_reducible exact ⟨setP_cell k0_0 (show w.heap.size < _ by omega), setP_cell k0_1 (show w.heap.size < _ by omega)⟩ | go_keep) (first | (have own_ : ownL layK 178 (W0.alloc (.cells #[] 178)).drew W0.heap.size (.slice (some ⟨W0.heap.size, 0, none⟩) 0 0) ([] : List Bk) := own_none0 W0 _; have hbv : Below W0.heap.size W0 (W0.alloc (.cells #[] 178)).drew := Below.drew ((Below.refl _ _).alloc (Nat.le_refl _) _); refine step_append_lay appK0 rfl _ _ rfl W0.heap.size (.slice (some ⟨W0.heap.size, 0, none⟩) 0 0) ([] : List Bk) rfl own_ o cap w.heap.size l l.length rfl rfl hn (HRK.out _ hbv) (by simp; omega) (by (try simp) <;> omega) ?_; intro v8 x0 ho8 hg8 _; have hp0 : Below W0.heap.size W0 x0 := hbv.grown hg8 (by (try simp) <;> omega) (fun k h => by simp [Value.ownBlock] at h; omega); have sp0 := hp0.size; obtain ⟨o2, c2, e2, _⟩ := ownL.open (L := layK) ho8; subst e2; have ow2 : ownK x0 W0.heap.size (.slice o2 l.length c2) l := ho8; have k0_0 := bC hp0 z0 zz; have k0_1 := bC hp0 z1 zz; clear ho8 hg8 hbv own_) | (have own_ : ownL layK 178 ((W0.alloc (.cells #[] 178)).alloc (.cells #[.int .i64 0, .slice none 0 0, .slice none 0 0] 29)).drew W0.heap.size (.slice (some ⟨W0.heap.size, 0, none⟩) 0 0) ([] : List Bk) := World.ownsRow.alloc (own_none0 W0 _) _; have hbv : Below W0.heap.size W0 ((W0.alloc (.cells #[] 178)).alloc (.cells #[.int .i64 0, .slice none 0 0, .slice none 0 0] 29)).drew := Below.drew (((Below.refl _ _).alloc (Nat.le_refl _) _).alloc (by simp) _); refine step_append_lay appK0 rfl _ _ rfl W0.heap.size (.slice (some ⟨W0.heap.size, 0, none⟩) 0 0) ([] : List Bk) rfl own_ o cap w.heap.size l l.length rfl rfl hn (HRK.out _ hbv) (by simp; omega) (by (try simp) <;> omega) ?_; intro v8 x0 ho8 hg8 _; have hp0 : Below W0.heap.size W0 x0 := hbv.grown hg8 (by (try simp) <;> omega) (fun k h => by simp [Value.ownBlock] at h; omega); have sp0 := hp0.size; obtain ⟨o2, c2, e2, _⟩ := ownL.open (L := layK) ho8; subst e2; have ow2 : ownK x0 W0.heap.size (.slice o2 l.length c2) l := ho8; have k0_0 := bC hp0 z0 zz; have k0_1 := bC hp0 z1 zz; have hZa : x0.heap[W0.heap.size + 1]? = some (.cells #[.int .i64 0, .slice none 0 0, .slice none 0 0] 29 (0, 0)) := (hg8.block _ (by (try simp) <;> omega) (by simp [Value.ownBlock])).trans (box_new2 W0 _ _ _); have hzc_0 := bx_cell hZa 0 _ rfl; have hzf_0 := bx_frozen hZa 0; have hzc_1 := bx_cell hZa 1 _ rfl; have hzf_1 := bx_frozen hZa 1; have hzc_2 := bx_cell hZa 2 _ rfl; have hzf_2 := bx_frozen hZa 2; clear ho8 hg8 hbv own_) | (have own_ : ownL layK 178 ((W0.alloc (.cells #[.int .i64 0, .slice none 0 0, .slice none 0 0] 29)).alloc (.cells #[] 178)).drew W0.heap.size (.slice (some ⟨W0.heap.size + 1, 0, none⟩) 0 0) ([] : List Bk) := own_mono (own_none3 W0 _ _) (Nat.le_succ _); have hbv : Below W0.heap.size W0 ((W0.alloc (.cells #[.int .i64 0, .slice none 0 0, .slice none 0 0] 29)).alloc (.cells #[] 178)).drew := Below.drew (((Below.refl _ _).alloc (Nat.le_refl _) _).alloc (by simp) _); refine step_append_lay appK0 rfl _ _ rfl W0.heap.size (.slice (some ⟨W0.heap.size + 1, 0, none⟩) 0 0) ([] : List Bk) rfl own_ o cap w.heap.size l l.length rfl rfl hn (HRK.out _ hbv) (by simp; omega) (by (try simp) <;> omega) ?_; intro v8 x0 ho8 hg8 _; have hp0 : Below W0.heap.size W0 x0 := hbv.grown hg8 (by (try simp) <;> omega) (fun k h => by simp [Value.ownBlock] at h; omega); have sp0 := hp0.size; obtain ⟨o2, c2, e2, _⟩ := ownL.open (L := layK) ho8; subst e2; have ow2 : ownK x0 W0.heap.size (.slice o2 l.length c2) l := ho8; have k0_0 := bC hp0 z0 zz; have k0_1 := bC hp0 z1 zz; have hZa : x0.heap[W0.heap.size]? = some (.cells #[.int .i64 0, .slice none 0 0, .slice none 0 0] 29 (0, 0)) := (hg8.block _ (by (try simp) <;> omega) (by simp [Value.ownBlock])).trans (box_old2 W0 _ _ _); have hzc_0 := bx_cell hZa 0 _ rfl; have hzf_0 := bx_frozen hZa 0; have hzc_1 := bx_cell hZa 1 _ rfl; have hzf_1 := bx_frozen hZa 1; have hzc_2 := bx_cell hZa 2 _ rfl; have hzf_2 := bx_frozen hZa 2; clear ho8 hg8 hbv own_))
  all_goals (go_wp2_with fail; go_meet)
  all_goals first
   | with_reducible exact finK hZa hp0 (by omega) ow2
   | with_reducible exact finKn hp0 ow2
 case rest =>
  obtain ⟨B, o2, c2, rfl, Hbx, Hbl, hB1, hB2, Hob⟩ := hcut
  have hb := Hbl.out
  have hwc := hb.size
  have HBLK := hide (hb.block _ hzr)
  clear Hbl
  replace z0 := bC hb z0 zz
  replace z1 := bC hb z1 zz
  replace z2 := bC hb z2 zz
  replace zz := Nat.lt_of_lt_of_le zz hb.size
  replace r0 := bC hb r0 zr
  replace r1 := bC hb r1 zr
  replace r2 := bC hb r2 zr
  replace fr0 := bF hb fr0 zr
  replace fr1 := bF hb fr1 zr
  replace fr2 := bF hb fr2 zr
  replace zr := Nat.lt_of_lt_of_le zr hb.size
  replace HB := hide (HB.out.trans (hb.mono HB.out.size))
  clear hb
  have HRB := hide ((HBLK.out).trans HR0.out)
  have HBC := HB
  have hz2c := z2
  have hzc : w.heap.size < W0.heap.size := hzz0
  clear z0 z1 r0 r1 r2 fr0 fr1 fr2 z2
  go_wp2
  go_loopw [4] (fun iv wr => ∃ (i : Nat) (hs : List Hd) (oQ : Option Addr) (cQ : Nat), i ≤ n ∧ iv = .int .i64 (i : Int) ∧ Hid (wr.heap[B]? = some (.cells #[.int .i64 key, .slice o2 l.length c2, .slice oQ i cQ] 29 (0, 0))) ∧ Hid (ownL layH 51 wr wc.heap.size (.slice oQ i cQ) hs) ∧ Hid (GTabs wr wc.heap.size hs (lll.take i)) ∧ Hid (ownK wr W0.heap.size (.slice o2 l.length c2) l) ∧ wc.heap.size ≤ wr.heap.size ∧ Hid (Stp B (B + 1) wc wr))
   (fun iv _ => n - (intOf iv).toNat)
  case atStart => exact ⟨0, [], none, 0, Nat.zero_le _, rfl, Hbx.out, World.ownsRow_nil _ _ _ _, by rw [List.take_zero]; exact GTabs.nil _ _, Hob.out, Nat.le_refl _, Stp.refl _⟩
  case round =>
   rename World => wo
   obtain ⟨i, hs, oQ, cQ, hi', rfl, HBX, HOW, HGT, HOB, hsr, HST⟩ := hrel
   have HBW := hide (HBC.out.trans (HST.out.below (show w.heap.size ≤ B by omega) (by omega)))
   have zq : wo.cell? ⟨w.heap.size, 2, none⟩ = some (.slice oR n cR) := HST.out.cellP hz2c (.inl (show w.heap.size < B by omega))
   have hzwr : w.heap.size < wo.heap.size := by omega
   by_cases hlt : i < n
   ·skip
    have hlt' : (i : Int) < (n : Int) := by omega
    have hif : i < lll.length := by rw [← HNN.out]; exact hlt
    obtain ⟨b, off, u, rfl, hbl, hcu0, hru0⟩ := HG.out.at (Nat.le_refl _) i hif
    obtain ⟨o3, c3, rfl⟩ := RcT.len hru0
    have hcu : wo.cell? ⟨b, off + i, none⟩ = some (.slice o3 (lll.getD i []).length c3) := bC HBW.out hcu0 hbl
    have HRU := hide hru0
    have HTK := hide (take_rows lll i hif)
    have HXI := hide (HX.out i hif)
    have HYI := hide (HY.out i hif)
    clear hcu0 hru0
    obtain ⟨ll, hll⟩ : ∃ ll, lll.getD i [] = ll := ⟨_, rfl⟩
    rw [hll] at hcu HRU HTK HXI HYI
    clear hll
    obtain ⟨m, hm⟩ : ∃ m, ll.length = m := ⟨_, rfl⟩
    rw [hm] at hcu
    have HM := hide hm
    have hm6 : m ≤ 1048576 := by rw [← hm]; exact HXI.out
    clear hm
    have hbw : b < wo.heap.size := by omega
    go_wp2
    go_loopw [5, 6] (fun tv kv wq => ∃ (k : Nat) (hs8 : List Hd), k ≤ m ∧ kv = .int .i64 (k : Int) ∧ Hid (ownL layH 47 wq wo.heap.size tv hs8) ∧ Hid (Tab (fun q => ll.getD q []) k wq wo.heap.size hs8) ∧ Hid (Below wo.heap.size wo wq))
     (fun _ kv _ => m - (intOf kv).toNat)
    case atStart => exact ⟨0, [], Nat.zero_le _, rfl, World.ownsRow_nil _ _ _ _, Tab.nil _ _ _, Below.refl _ _⟩
    case round =>
     rename World => wq
     rename_i tv _
     obtain ⟨k, hs8, hk', rfl, HO, HT, HBQ⟩ := hrel
     have hsq := HBQ.out.size
     have zq' := bC HBQ.out zq hzwr
     have hcq := bC HBQ.out hcu hbw
     have HBWQ := hide (HBW.out.trans (HBQ.out.mono (show w.heap.size ≤ wo.heap.size by omega)))
     by_cases hlk : k < m
     ·skip
      have hlk' : (k : Int) < (m : Int) := by omega
      obtain ⟨b2, off2, u2, e2, hbl2, hcu2, hrow⟩ := HRU.out.at (Nat.le_refl _) k (by rw [HM.out]; exact hlk)
      subst e2
      obtain ⟨o9, c9, rfl, hr9, hc9⟩ := RcV.opn hrow
      have hcr := bC HBWQ.out hcu2 hbl2
      have HR9 := hide (hr9.kept HBWQ.out (Nat.le_refl _))
      have hy9 := HYI.out k (by rw [HM.out]; exact hlk)
      clear hcu2 hrow hr9
      obtain ⟨row, hrw⟩ : ∃ row, ll.getD k [] = row := ⟨_, rfl⟩
      rw [hrw] at hcr HR9 hy9
      have HRW := hide hrw
      clear hrw
      obtain ⟨r9, hr9⟩ : ∃ r, row.length = r := ⟨_, rfl⟩
      rw [hr9] at hcr hy9
      have HL9 := hide hr9
      clear hr9
      obtain ⟨W1, hW1⟩ : ∃ W, wq.alloc (.cells #[] 3) = W := ⟨_, rfl⟩
      have hb1 : Below wq.heap.size wq W1 := by rw [← hW1]; exact (Below.refl _ _).alloc (Nat.le_refl _) _
      have HE1 := hide (show ownL layI 3 W1 wq.heap.size (.slice (some ⟨wq.heap.size, 0, none⟩) 0 0) ([] : List Int) by rw [← hW1]; exact own_none0 wq _)
      have hs1 := hb1.size
      have zq1 := bC hb1 zq' (by omega)
      have hcq1 := bC hb1 hcq (by omega)
      have hcr1 := bC hb1 hcr (by omega)
      have HR1 := hide (HR9.out.kept hb1 (by omega))
      have HB1 := hide hb1
      clear hb1
      go_wp2_with (first | (at_builtin; refine wpList_append_lay appII rfl (.tmp 32) (.tmp 40) rfl wq.heap.size _ ([] : List Int) rfl HE1.out o9 c9 w.heap.size row r9 HL9.out.symm rfl hc9 HR1.out (by rw [HL9.out]; simp; omega) hs1 ?_))
      intro v2 w2 ho2 hg2 _
      obtain ⟨o4, c4, e4, _⟩ := ownL.open (L := layI) ho2
      rw [HL9.out] at e4
      subst e4
      have hb2 : Below wq.heap.size wq w2 := HB1.out.grown hg2 hs1 (fun g e => by have e' : wq.heap.size = g := Option.some.inj e; omega)
      have HT2 := hide ((HT.out.kept hb2).snoc HT.out.lt hsq (show ownI w2 wq.heap.size (.slice o4 r9 c4) (ll.getD k []) by rw [HRW.out]; exact ho2))
      have HO2 := hide (own_kept HO.out hb2)
      have HB2 := hide (HBQ.out.trans (hb2.mono hsq))
      have hsz2 := hb2.size
      have hl8 : hs8.length ≤ 1048576 := by rw [HT.out.len]; omega
      clear ho2 hg2 hb2
      go_wp2_with (first | (at_builtin; refine wpList_append_lay appHI rfl (.tmp 31) (.tmp 42) rfl wo.heap.size _ hs8 rfl (World.ownsRow.alloc HO2.out (.cells #[.slice o4 r9 c4] 47)) (some ⟨w2.heap.size, 0, none⟩) 1 _ [(o4, r9, c4)] 1 rfl rfl (by simp) rd_oneH (by simp; omega) (by simp; omega) ?_))
      intro v5 w5 ho5 hg5 _
      have HA := hide (World.ownsRow.alloc HO2.out (.cells #[.slice o4 r9 c4] 47))
      have HT5 := hide (Tab.other (HT2.out.kept ((Below.refl _ _).alloc (Nat.le_refl _) _)) HA.out intNe hg5)
      have HB5 := hide ((HB2.out.alloc HB2.out.size _).grown hg5 (by simp; omega) (fun k h => (HA.out.lt k h).1))
      have HO5 := hide ho5
      clear hg5 ho5
      go_wp2
      go_roundw
      case rel => exact ⟨k + 1, _, by omega, by go_num, HO5.out, HT5.out, HB5.out⟩
      case measure => simp [intOf]; omega
     ·skip
      have e : k = m := by omega
      subst e
      obtain ⟨o4, c4, e4, _⟩ := ownL.open (L := layH) HO.out
      rw [HT.out.len] at e4
      subst e4
      have hx2 := (HBQ.out.block B (by omega)).trans HBX.out
      have p2 : wq.cell? ⟨B, 2, none⟩ = some (.slice oQ i cQ) := bx_cell hx2 2 _ rfl
      have HX2 := hide hx2
      have HHL := hide (show hs.length = i by have := HGT.out.1; rw [List.length_take] at this; omega)
      have HNB := hide (fun g (e : (Value.slice oQ i cQ).ownBlock = some g) => HOW.out.lt g e)
      have HOW2 := hide (own_kept HOW.out HBQ.out)
      have hl0 : hs.length ≤ 1048576 := by rw [HHL.out]; omega
      have HBB : Hid (∀ g, (Value.slice oQ i cQ).ownBlock = some g → g ≠ B) := fun g e => by have := HNB.out g e; omega
      clear hx2
      go_wp2_with (first | (at_builtin; refine wpList_append_lay appHT rfl (.tmp 45) (.tmp 47) rfl wc.heap.size (.slice oQ i cQ) hs rfl (World.ownsRow.alloc HOW2.out (.cells #[.slice o4 k c4] 51)) (some ⟨wq.heap.size, 0, none⟩) 1 _ [(o4, k, c4)] 1 rfl rfl (by simp) rd_oneH (by simp; omega) (by simp; omega) ?_))
      intro v8 w8 ho8 hg8 _
      obtain ⟨o8, c8, e8, _⟩ := ownL.open (L := layH) ho8
      have hl8 : (hs ++ [((o4, k, c4) : Hd)]).length = i + 1 := by rw [List.length_append, HHL.out]; rfl
      rw [hl8] at e8
      subst e8
      have hx8 := (hg8.block B (by simp; omega) (fun e => HBB.out B e.symm rfl)).trans ((Below.heap_alloc _ _ _ (by omega)).trans HX2.out)
      have p8 : w8.cell? ⟨B, 2, none⟩ = some (.slice oQ i cQ) := bx_cell hx8 2 _ rfl
      have f8 := bx_frozen hx8 2
      have HA8 := hide (World.ownsRow.alloc HOW2.out (.cells #[.slice o4 k c4] 51))
      have hG8 : GTabs w8 wc.heap.size (hs ++ [(o4, k, c4)]) (lll.take (i + 1)) := by
       rw [HTK.out]
       have h1 := (HGT.out.kept HBQ.out).snoc (ll := ll) (own_mono (by rw [HM.out]; exact HO.out) hsr) (Tab.mono (by rw [HM.out]; exact HT.out) hsr)
       rw [HM.out] at h1
       exact (h1.kept ((Below.refl wq.heap.size wq).alloc (Nat.le_refl _) _)).other HA8.out hg8
      have HX9 : Hid ((w8.setCell ⟨B, 2, none⟩ (.slice o8 (i + 1) c8)).heap[B]? = some (.cells #[.int .i64 key, .slice o2 l.length c2, .slice o8 (i + 1) c8] 29 (0, 0))) := box_put hx8 2 _
      have HO9 := hide (own_putB (B := B) ho8 hx8 neP1 2 (.slice o8 (i + 1) c8))
      have HG9 := hide (hG8.putB hx8 2 (.slice o8 (i + 1) c8))
      have HOB9 := hide (own_putB (World.ownsRow.kept (World.ownsRow.alloc (own_kept HOB.out HBQ.out) (.cells #[.slice o4 k c4] 51)) hg8 (own_apart0 (own_kept HOB.out HBQ.out) HOW2.out neBR)) hx8 neP4 2 (.slice o8 (i + 1) c8))
      have HS9 := hide ((stp_more (HST.out.trans (Stp.of HBQ.out)) hg8 (fun g e => (HNB.out g e).1)).trans (stp_set w8 B 2 (.slice o8 (i + 1) c8)))
      have hs9 : wc.heap.size ≤ w8.heap.size := by have := HS9.out.size; simpa using this
      clear ho8 hg8 hx8 hG8
      go_wp2
      go_roundw
      case rel => exact ⟨i + 1, _, o8, c8, by omega, by go_num, HX9.out, HO9.out, HG9.out, HOB9.out, by simpa using hs9, HS9.out⟩
      case measure => simp [intOf]; omega
   ·skip
    have e : i = n := by omega
    subst e
    have hrb := HST.out.box HRB.out (.inl (show w.heap.size + 1 < B by omega))
    have r0 : wo.cell? ⟨w.heap.size + 1, 0, none⟩ = some (.int .i64 0) := bx_cell hrb 0 _ rfl
    have fr0 := bx_frozen hrb 0
    have r1 : wo.cell? ⟨w.heap.size + 1, 1, none⟩ = some (.slice none 0 0) := bx_cell hrb 1 _ rfl
    have fr1 := bx_frozen hrb 1
    have r2 : wo.cell? ⟨w.heap.size + 1, 2, none⟩ = some (.slice none 0 0) := bx_cell hrb 2 _ rfl
    have fr2 := bx_frozen hrb 2
    have p0 : wo.cell? ⟨B, 0, none⟩ = some (.int .i64 key) := bx_cell HBX.out 0 _ rfl
    have p1 : wo.cell? ⟨B, 1, none⟩ = some (.slice o2 l.length c2) := bx_cell HBX.out 1 _ rfl
    have p2 : wo.cell? ⟨B, 2, none⟩ = some (.slice oQ i cQ) := bx_cell HBX.out 2 _ rfl
    have HFI : Hid (ownK (setP wo (w.heap.size + 1) (.int .i64 key) (.slice o2 l.length c2) (.slice oQ i cQ)) w.heap.size (.slice o2 l.length c2) l ∧ ownL layH 51 (setP wo (w.heap.size + 1) (.int .i64 key) (.slice o2 l.length c2) (.slice oQ i cQ)) w.heap.size (.slice oQ i cQ) hs ∧ GTabs (setP wo (w.heap.size + 1) (.int .i64 key) (.slice o2 l.length c2) (.slice oQ i cQ)) w.heap.size hs lll) := by
     have g1 := box_put hrb 0 (.int .i64 key)
     have g2 := box_put g1 1 (.slice o2 l.length c2)
     have hg : GTabs wo wc.heap.size hs lll := by have h := HGT.out; rw [HNN.out, List.take_length] at h; exact h
     exact ⟨own_mono (own_putB (own_putB (own_putB HOB.out hrb neP4 0 _) g1 neP4 1 _) g2 neP4 2 _) (by omega), own_mono (own_putB (own_putB (own_putB HOW.out hrb neP1 0 _) g1 neP1 1 _) g2 neP1 2 _) (by omega), GTabs.mono (((hg.putB hrb 0 _).putB g1 1 _).putB g2 2 _) (by omega)⟩
    clear hrb
    go_wp2
    refine bodyPost_ret (v := plv key (.slice o2 l.length c2) (.slice oQ i cQ)) (by simp [results, Tryz.results250, go_sem, r0, r1, r2]) rfl ⟨o2, c2, oQ, cQ, hs, rfl, HFI.out.1, HFI.out.2.1, HFI.out.2.2, setQ_below HBW.out (Nat.le_succ _) _ _ _⟩

theorem GTabs.pm {w : World} {lo base : Nat} {key : Int} {l : List Bk} {hs : List Hd} {lll : List (List (List Int))} {o2 oQ : Option Addr} {c2 n cQ : Nat} (h1 : ownK w base (.slice o2 l.length c2) l) (h2 : ownL layH 51 w base (.slice oQ n cQ) hs) (h3 : GTabs w base hs lll) : RiPm base w.heap.size w (plv key (.slice o2 l.length c2) (.slice oQ n cQ)) ⟨key, l, lll⟩ := ⟨_, _, rfl, InRow.ri (InRow.of h1), GTabs.ri h3 h2⟩
end Go.Proofs.YtmmhgkkcpjhiiaaGreat

namespace Go.Proofs.YtmmhgkkcpjhiiaaGreat
open Go.ChangeShapes Go.WideShapes Go.ChangeAt Go.RowKit Go.Joins
set_option linter.unusedVariables false
set_option linter.unusedSimpArgs false


set_option maxRecDepth 100000 in
set_option maxHeartbeats 4000000 in
theorem l4do_no (key : Int) (o : Option Addr) (cap : Nat) (l : List Bk) (oR : Option Addr) (nR cR : Nat) (k i g : Int) (w : World) (hl : backsOkB l = true) (hm : doL l k i g = none) (hlen : l.length ≤ 100) (hR : RdK w.heap.size w o l) :
  Calls Tryz.prog 213 #[plv key (.slice o l.length cap) (.slice oR nR cR), cmd k i g] w fun e w' => e = .returned (.tuple #[plv key (.slice o l.length cap) (.slice oR nR cR), .bool false]) ∧ Below w.heap.size w w' := by
 have hth : thereB l i = (k == 0) := by
  unfold doL at hm
  split at hm
  ·assumption
  ·cases hm
 obtain ⟨W0, hW0⟩ : ∃ W, (((w.alloc (.cells #[.int .i64 key, .slice o l.length cap, .slice oR nR cR] 29)).alloc (.cells #[.int .i64 k, .int .i64 i, .int .i64 g] 77)).alloc (.cells #[.int .i64 0, .slice none 0 0, .slice none 0 0] 29)) = W := ⟨_, rfl⟩
 have hb_W0 : Below w.heap.size w W0 := by rw [← hW0]; exact ((((Below.refl _ _).alloc (Nat.le_refl _) _).alloc (by simp <;> omega) _).alloc (by simp <;> omega) _)
 have HB := hide hb_W0
 clear hb_W0
 have zz : w.heap.size < W0.heap.size := by rw [← hW0]; simp <;> omega
 have z0 : W0.cell? ⟨w.heap.size, 0, none⟩ = some (.int .i64 key) := by rw [← hW0]; simp [go_sem]
 have z1 : W0.cell? ⟨w.heap.size, 1, none⟩ = some (.slice o l.length cap) := by rw [← hW0]; simp [go_sem]
 have z2 : W0.cell? ⟨w.heap.size, 2, none⟩ = some (.slice oR nR cR) := by rw [← hW0]; simp [go_sem]
 have zu : w.heap.size + 1 < W0.heap.size := by rw [← hW0]; simp <;> omega
 have u0 : W0.cell? ⟨w.heap.size + 1, 0, none⟩ = some (.int .i64 k) := by rw [← hW0]; simp [go_sem]
 have u1 : W0.cell? ⟨w.heap.size + 1, 1, none⟩ = some (.int .i64 i) := by rw [← hW0]; simp [go_sem]
 have u2 : W0.cell? ⟨w.heap.size + 1, 2, none⟩ = some (.int .i64 g) := by rw [← hW0]; simp [go_sem]
 have zr : w.heap.size + 1 + 1 < W0.heap.size := by rw [← hW0]; simp
 have r0 : W0.cell? ⟨w.heap.size + 1 + 1, 0, none⟩ = some (.int .i64 0) := by rw [← hW0]; simp [go_sem]
 have r1 : W0.cell? ⟨w.heap.size + 1 + 1, 1, none⟩ = some (.slice none 0 0) := by rw [← hW0]; simp [go_sem]
 have r2 : W0.cell? ⟨w.heap.size + 1 + 1, 2, none⟩ = some (.slice none 0 0) := by rw [← hW0]; simp [go_sem]
 have fr0 : W0.frozen? ⟨w.heap.size + 1 + 1, 0, none⟩ = false := by rw [← hW0]; simp [go_sem]
 have fr1 : W0.frozen? ⟨w.heap.size + 1 + 1, 1, none⟩ = false := by rw [← hW0]; simp [go_sem]
 have fr2 : W0.frozen? ⟨w.heap.size + 1 + 1, 2, none⟩ = false := by rw [← hW0]; simp [go_sem]
 have HF := hide (l4find_any o cap l i W0 ((hR.kept HB.out (Nat.le_refl _)).le HB.out.size) (by omega) hl)
 clear hR hm
 by_cases h0 : k = 0
 ·subst h0
  have h1 : thereB l i = true := hth
  rw [find_yes h1] at HF
  have hge : (0 : Int) ≤ (placeN l i : Int) := by omega
  clear hth h1
  generalize placeN l i = pl at *
  go_enter Tryz.func213, Tryz.ntmps213
  go_wp2_with fail
  refine HF.out.mono ?_
  rintro e w9 ⟨rfl, rfl⟩
  go_wp2
  refine bodyPost_ret (v := .tuple #[plv key (.slice o l.length cap) (.slice oR nR cR), .bool false]) (by simp [results, Tryz.results213, go_sem, r0, r1, r2]) rfl ⟨rfl, ?_⟩
  exact ((HB.out.setCell (p := ⟨w.heap.size + 1 + 1, 0, none⟩) (by (try simp) <;> omega) _).setCell (p := ⟨w.heap.size + 1 + 1, 1, none⟩) (by (try simp) <;> omega) _).setCell (p := ⟨w.heap.size + 1 + 1, 2, none⟩) (by (try simp) <;> omega) _
 ·have h0' : (k == 0) = false := beq_eq_false_iff_ne.2 h0
  rw [h0'] at hth
  rw [find_no hth] at HF
  clear hth
  go_enter Tryz.func213, Tryz.ntmps213
  go_wp2_with fail
  refine HF.out.mono ?_
  rintro e w9 ⟨rfl, rfl⟩
  go_wp2
  refine bodyPost_ret (v := .tuple #[plv key (.slice o l.length cap) (.slice oR nR cR), .bool false]) (by simp [results, Tryz.results213, go_sem, r0, r1, r2]) rfl ⟨rfl, ?_⟩
  exact ((HB.out.setCell (p := ⟨w.heap.size + 1 + 1, 0, none⟩) (by (try simp) <;> omega) _).setCell (p := ⟨w.heap.size + 1 + 1, 1, none⟩) (by (try simp) <;> omega) _).setCell (p := ⟨w.heap.size + 1 + 1, 2, none⟩) (by (try simp) <;> omega) _

theorem l4do_yes (key : Int) (o : Option Addr) (cap : Nat) (l : List Bk) (oR : Option Addr) (cR : Nat) (hsR : List Hd) (k i g : Int) (m : List Bk) (w : World) (hk : keyB key = true) (hl : backsOkB l = true) (hc : cmdOkB k i g = true) (hm : doL l k i g = some m) (hlen : l.length ≤ 100) (hR : RdK w.heap.size w o l) (hG : RdL layH w.heap.size w oR hsR) (hnR : oR = none → cR = 0) (hR3 : hsR.length ≤ 3) :
  Calls Tryz.prog 213 #[plv key (.slice o l.length cap) (.slice oR hsR.length cR), cmd k i g] w fun e w' => ∃ o2 c2 oR2 n2 cR2 o3 c3 hs3, e = .returned (.tuple #[plv key (.slice o2 m.length c2) (.slice oR2 n2 cR2), .bool true]) ∧ n2 = (((o3, 8, c3) :: hsR).take 3).length ∧ ownK w' w.heap.size (.slice o2 m.length c2) m ∧ ownL layH 51 w' w.heap.size (.slice oR2 n2 cR2) (((o3, 8, c3) :: hsR).take 3) ∧ ownL layH 47 w' w.heap.size (.slice o3 8 c3) hs3 ∧ Tab (fun b => pairI key b m) 8 w' w.heap.size hs3 ∧ Below w.heap.size w w' := by
 by_cases h0 : k = 0
 ·subst h0
  exact (l4do_add key o cap l oR cR hsR i g m w hk hl hc hm hlen hR hG hnR hR3).mono (fun _ _ h => h)
 ·exact (l4do_else key o cap l oR cR hsR k i g (placeN l i) m w hk hl hc hm hlen hR hG hnR hR3 h0 (beq_eq_false_iff_ne.2 h0) rfl).mono (fun _ _ h => h)

set_option maxRecDepth 100000 in
set_option maxHeartbeats 2000000 in
theorem l4new_any (key : Int) (w : World) (hk : keyB key = true) :
  Calls Tryz.prog 212 #[.int .i64 key] w fun e w' => ∃ g, e = .returned (plv key (.slice none 0 0) (.slice (some ⟨g, 0, none⟩) 1 1)) ∧ RingO w' w.heap.size (.slice (some ⟨g, 0, none⟩) 1 1) (fun b => pairI key b []) [] ∧ Below w.heap.size w w' := by
 obtain ⟨W0, hW0⟩ : ∃ W, (w.alloc (.cells #[.int .i64 0, .slice none 0 0, .slice none 0 0] 29)) = W := ⟨_, rfl⟩
 have hb_W0 : Below w.heap.size w W0 := by rw [← hW0]; exact ((Below.refl _ _).alloc (Nat.le_refl _) _)
 have HB := hide hb_W0
 clear hb_W0
 have zr : w.heap.size < W0.heap.size := by rw [← hW0]; simp
 have r0 : W0.cell? ⟨w.heap.size, 0, none⟩ = some (.int .i64 0) := by rw [← hW0]; simp [go_sem]
 have r1 : W0.cell? ⟨w.heap.size, 1, none⟩ = some (.slice none 0 0) := by rw [← hW0]; simp [go_sem]
 have r2 : W0.cell? ⟨w.heap.size, 2, none⟩ = some (.slice none 0 0) := by rw [← hW0]; simp [go_sem]
 have fr0 : W0.frozen? ⟨w.heap.size, 0, none⟩ = false := by rw [← hW0]; simp [go_sem]
 have fr1 : W0.frozen? ⟨w.heap.size, 1, none⟩ = false := by rw [← hW0]; simp [go_sem]
 have fr2 : W0.frozen? ⟨w.heap.size, 2, none⟩ = false := by rw [← hW0]; simp [go_sem]
 have hz00 := zr
 have HT := hide (l3tableO_any key none 0 [] W0 (.inl rfl) (by simp) hk rfl)
 go_enter Tryz.func212, Tryz.ntmps212
 go_wp2_with fail
 refine (HT.out).mono ?_
 rintro e v1 ⟨o3, c3, hs3, rfl, ow3, tb3, hb⟩
 have hs1 := hb.size
 have HX := hide (And.intro ow3 tb3)
 clear ow3 tb3
 replace r0 := bC hb r0 zr
 replace r1 := bC hb r1 zr
 replace r2 := bC hb r2 zr
 replace fr0 := bF hb fr0 zr
 replace fr1 := bF hb fr1 zr
 replace fr2 := bF hb fr2 zr
 replace zr := Nat.lt_of_lt_of_le zr hb.size
 replace HB := hide (HB.out.trans (hb.mono HB.out.size))
 clear hb
 have hbx : v1.heap.size + 1 = (v1.alloc (.cells #[.slice o3 8 c3] 51)).heap.size := by simp
 have hne : v1.heap.size ≠ w.heap.size := by omega
 have hne' : w.heap.size ≠ v1.heap.size := by omega
 obtain ⟨W2, hW2⟩ : ∃ W, v1.alloc (.cells #[.slice o3 8 c3] 51) = W := ⟨_, rfl⟩
 have hb2 : Below v1.heap.size v1 W2 := by rw [← hW2]; exact (Below.refl _ _).alloc (Nat.le_refl _) _
 have HRI : Hid (RingO W2 (w.heap.size + 1) (.slice (some ⟨v1.heap.size, 0, none⟩) 1 1) (fun b => pairI key b []) []) := ⟨o3, c3, hs3, by rw [← hW2]; exact own_mono (one_own v1 o3 8 c3 _) (by omega), own_mono (own_kept HX.out.1 hb2) (by omega), Tab.mono (HX.out.2.kept hb2) (by omega)⟩
 have hs2 := hb2.size
 replace r0 := bC hb2 r0 zr
 replace r1 := bC hb2 r1 zr
 replace r2 := bC hb2 r2 zr
 replace fr0 := bF hb2 fr0 zr
 replace fr1 := bF hb2 fr1 zr
 replace fr2 := bF hb2 fr2 zr
 have HB2 : Hid (Below w.heap.size w W2) := HB.out.trans (hb2.mono HB.out.size)
 go_wp2
 refine bodyPost_ret (v := plv key (.slice none 0 0) (.slice (some ⟨v1.heap.size, 0, none⟩) 1 1)) (by simp [results, Tryz.results212, go_sem, r0, r1, r2]) rfl ⟨v1.heap.size, rfl, ?_, ?_⟩
 ·exact RingO.mono (((HRI.out.low (Nat.lt_succ_self _) 0 _).low (Nat.lt_succ_self _) 1 _).low (Nat.lt_succ_self _) 2 _) (Nat.le_succ _)
 ·exact ((HB2.out.setCell (p := ⟨w.heap.size, 0, none⟩) (by (try simp) <;> omega) _).setCell (p := ⟨w.heap.size, 1, none⟩) (by (try simp) <;> omega) _).setCell (p := ⟨w.heap.size, 2, none⟩) (by (try simp) <;> omega) _

end Go.Proofs.YtmmhgkkcpjhiiaaGreat

namespace Go.Proofs.YtmmhgkkcpjhiiaaGreat
open Go.ChangeShapes Go.WideShapes Go.ChangeAt Go.RowKit Go.Joins
set_option linter.unusedVariables false
set_option linter.unusedSimpArgs false

def pm0 : Pm := ⟨0, [], []⟩
def newT (key : Int) (l : List Bk) : List (List Int) := rowsOf (fun b => pairI key b l) 8
theorem newT_len (key : Int) (l : List Bk) : (newT key l).length = 8 := rowsOf_length _ _
theorem newT_row (key : Int) (l : List Bk) (j : Nat) : ((newT key l).getD j []).length ≤ 2 := by
 by_cases h : j < 8
 ·unfold newT; rw [rowsOf_get _ _ _ h]; exact pairI_len key j l
 ·rw [List.getD_eq_getElem?_getD, List.getElem?_eq_none (by rw [newT_len]; omega)]; simp
theorem newT_sz (key : Int) (l : List Bk) : szT (newT key l) ≤ 16 := by
 have h := sumN_bd (lenT (newT key l)) 2 (fun i => newT_row key l i) (newT key l).length
 unfold szT
 rw [newT_len] at h ⊢
 omega
theorem Tab.congr {R R' : Nat → List Int} {k : Nat} {w : World} {base : Nat} {hs : List Hd} (h : Tab R k w base hs) (e : ∀ i, i < k → R i = R' i) : Tab R' k w base hs := ⟨h.len, fun i hi => by rw [← e i hi]; exact h.row i hi, h.apart⟩
theorem tab_new {key : Int} {l : List Bk} {w : World} {base : Nat} {hs : List Hd} (h : Tab (fun b => pairI key b l) 8 w base hs) : Tab (fun q => (newT key l).getD q []) (newT key l).length w base hs := by
 rw [newT_len]
 exact h.congr (fun i hi => by unfold newT; rw [rowsOf_get _ _ _ hi])
def ringT (key : Int) (R : List (List Bk)) : List (List (List Int)) := R.map (newT key)
theorem ringT_get (key : Int) (R : List (List Bk)) (i : Nat) (h : i < R.length) : (ringT key R).getD i [] = newT key (R.getD i []) := by simp [ringT, h]
theorem ringT_fit (key : Int) (l : List Bk) (R : List (List Bk)) (hl : l.length ≤ 1048576) (hR : R.length ≤ 3) : fitPm ⟨key, l, ringT key R⟩ := by
 have hlen : (ringT key R).length = R.length := by simp [ringT]
 have hz : ∀ i, lenR (ringT key R) i ≤ 16 := fun i => by
  by_cases h : i < R.length
  ·unfold lenR; rw [ringT_get _ _ _ h]; exact newT_sz key _
  ·unfold lenR; rw [List.getD_eq_getElem?_getD, List.getElem?_eq_none (by rw [hlen]; omega)]; exact Nat.zero_le _
 refine ⟨hl, by show (ringT key R).length ≤ _; omega, ?_, fun i hi => ?_, fun i hi j hj => ?_⟩
 ·have h := sumN_bd (lenR (ringT key R)) 16 hz (ringT key R).length
  show sumN (lenR (ringT key R)) (ringT key R).length ≤ 1048576
  rw [hlen] at h ⊢
  omega
 ·have hi' : i < R.length := by rw [← hlen]; exact hi
  show ((ringT key R).getD i []).length ≤ _
  rw [ringT_get _ _ _ hi', newT_len]; omega
 ·have hi' : i < R.length := by rw [← hlen]; exact hi
  show (((ringT key R).getD i []).getD j []).length ≤ _
  rw [ringT_get _ _ _ hi']
  have := newT_row key (R.getD i []) j; omega
def pnewM (key : Int) : Pm := if keyB key = true then ⟨key, [], ringT key [[]]⟩ else pm0
theorem pnew_fit (key : Int) : fitPm (pnewM key) := by
 unfold pnewM
 split
 ·exact ringT_fit key [] [[]] (by simp) (by simp)
 ·exact ⟨by simp [pm0], by simp [pm0], by simp [pm0, szR, sumN], fun i hi => absurd hi (Nat.not_lt_zero _), fun i hi => absurd hi (Nat.not_lt_zero _)⟩
theorem pm0_in (lo hi : Nat) (w : World) (h : lo ≤ hi) : InPm lo hi w (plv 0 (.slice none 0 0) (.slice none 0 0)) pm0 := ⟨_, _, lo, rfl, Nat.le_refl _, h, ⟨World.ownsRow_nil _ _ _ _, fun b e => by cases e⟩, ⟨[], fun _ => 0, fun _ => 0, ⟨World.ownsRow_nil _ _ _ _, fun b e => by cases e⟩, Rw.nil _ _ _ _ _ _ _, fun i h => absurd h (Nat.not_lt_zero _)⟩⟩
end Go.Proofs.YtmmhgkkcpjhiiaaGreat

namespace Go.Proofs.YtmmhgkkcpjhiiaaGreat
open Go.ChangeShapes Go.WideShapes Go.ChangeAt Go.RowKit Go.Joins
set_option linter.unusedVariables false
set_option linter.unusedSimpArgs false


abbrev setB (W : World) (R : Nat) (x0 x1 x2 x3 x4 x5 x6 : Value) : World := ((((((W.setCell ⟨R, 0, none⟩ x0).setCell ⟨R, 1, none⟩ x1).setCell ⟨R, 2, none⟩ x2).setCell ⟨R, 3, none⟩ x3).setCell ⟨R, 4, none⟩ x4).setCell ⟨R, 5, none⟩ x5).setCell ⟨R, 6, none⟩ x6
theorem stp_setB (W : World) (R : Nat) (x0 x1 x2 x3 x4 x5 x6 : Value) : Stp R (R + 1) W (setB W R x0 x1 x2 x3 x4 x5 x6) := ((((((stp_set W R 0 x0).trans (stp_set _ R 1 x1)).trans (stp_set _ R 2 x2)).trans (stp_set _ R 3 x3)).trans (stp_set _ R 4 x4)).trans (stp_set _ R 5 x5)).trans (stp_set _ R 6 x6)
theorem setB_size (W : World) (R : Nat) (x0 x1 x2 x3 x4 x5 x6 : Value) : (setB W R x0 x1 x2 x3 x4 x5 x6).heap.size = W.heap.size := by simp [World.setCell]
theorem setB_below {C : Nat} {w W : World} {R : Nat} (h : Below C w W) (hB : C ≤ R) (x0 x1 x2 x3 x4 x5 x6 : Value) : Below C w (setB W R x0 x1 x2 x3 x4 x5 x6) := ((((((h.setCell (p := ⟨R, 0, none⟩) hB _).setCell (p := ⟨R, 1, none⟩) hB _).setCell (p := ⟨R, 2, none⟩) hB _).setCell (p := ⟨R, 3, none⟩) hB _).setCell (p := ⟨R, 4, none⟩) hB _).setCell (p := ⟨R, 5, none⟩) hB _).setCell (p := ⟨R, 6, none⟩) hB _
theorem inPm_wide {a b a' b' : Nat} {w : World} {v : Value} {m : Pm} (h : InPm a b w v m) (h1 : a' ≤ a) (h2 : b ≤ b') : InPm a' b' w v m := by
 obtain ⟨vb, vr, mid, e, k1, k2, i1, i2⟩ := h
 exact ⟨vb, vr, mid, e, by omega, by omega, InRow.mono i1 h1 (Nat.le_refl _), InRows.mono.go i2 (Nat.le_refl _) h2⟩
end Go.Proofs.YtmmhgkkcpjhiiaaGreat

namespace Go.Proofs.YtmmhgkkcpjhiiaaGreat
open Go.ChangeShapes Go.WideShapes Go.ChangeAt Go.RowKit Go.Joins
set_option linter.unusedVariables false
set_option linter.unusedSimpArgs false

structure PBox (w : World) (base B : Nat) (key : Int) (l : List Bk) (hs : List Hd) (o : Option Addr) (c : Nat) (oR : Option Addr) (cR : Nat) : Prop where
 box : w.heap[B]? = some (.cells #[.int .i64 key, .slice o l.length c, .slice oR hs.length cR] 29 (0, 0))
 backs : ownK w base (.slice o l.length c) l
 ring : ownL layH 51 w base (.slice oR hs.length cR) hs
theorem PBox.kept {w w' : World} {base B : Nat} {key : Int} {l : List Bk} {hs : List Hd} {o oR : Option Addr} {c cR : Nat} (h : PBox w base B key l hs o c oR cR) (hb : Below w.heap.size w w') : PBox w' base B key l hs o c oR cR :=
 ⟨(hb.block B (Array.getElem?_eq_some_iff.1 h.box).1).trans h.box, own_kept h.backs hb, own_kept h.ring hb⟩
theorem PBox.set {w : World} {base B : Nat} {key : Int} {l : List Bk} {hs : List Hd} {o oR : Option Addr} {c n cR : Nat} {z : Array Value} (hB : w.heap[B]? = some (.cells z 29 (0, 0))) (hz : z.size = 3) (h1 : ownK w base (.slice o l.length c) l) (h2 : ownL layH 51 w base (.slice oR n cR) hs) (hn : n = hs.length) : PBox (setP w B (.int .i64 key) (.slice o l.length c) (.slice oR n cR)) base B key l hs o c oR cR := by
 subst hn
 have b1 := box_put hB 0 (.int .i64 key)
 have b2 := box_put b1 1 (.slice o l.length c)
 have b3 := box_put b2 2 (.slice oR hs.length cR)
 refine ⟨?_, own_putB (own_putB (own_putB h1 hB neP4 0 _) b1 neP4 1 _) b2 neP4 2 _, own_putB (own_putB (own_putB h2 hB neP1 0 _) b1 neP1 1 _) b2 neP1 2 _⟩
 rw [b3]
 match z, hz with
 | ⟨[x, y, u]⟩, _ => rfl
theorem capH {w : World} {base : Nat} {o : Option Addr} {n c : Nat} {hs : List Hd} (h : ownL layH 51 w base (.slice o n c) hs) : o = none → c = 0 := fun e => (InRow.cap (InRow.of h)) n c (by rw [e])
theorem setP_below {C : Nat} {w W : World} {B : Nat} (h : Below C w W) (hB : C ≤ B) (x y z : Value) : Below C w (setP W B x y z) := ((h.setCell (p := ⟨B, 0, none⟩) hB _).setCell (p := ⟨B, 1, none⟩) hB _).setCell (p := ⟨B, 2, none⟩) hB _

theorem finJ {cur W : World} {base B : Nat} {key : Int} {m : List Bk} {hs2 : List Hd} {o2 oR2 : Option Addr} {c2 n2 cR2 : Nat} {z0 z1 z2 : Value} (hZ : W.heap[B]? = some (.cells #[z0, z1, z2] 29 (0, 0))) (hx : Below cur.heap.size cur W) (hB : cur.heap.size ≤ B) (h1 : ownK W base (.slice o2 m.length c2) m) (h2 : ownL layH 51 W base (.slice oR2 n2 cR2) hs2) (hn : n2 = hs2.length) (h3 : hs2.length ≤ 3) :
  ∃ B' hs' o' c' oR' cR', Value.pointer (some ⟨B, 0, none⟩) = .pointer (some ⟨B', 0, none⟩) ∧ Value.bool true = .bool true ∧ Hid (PBox (setP W B (.int .i64 key) (.slice o2 m.length c2) (.slice oR2 n2 cR2)) base B' key m hs' o' c' oR' cR') ∧ Hid (Below cur.heap.size cur (setP W B (.int .i64 key) (.slice o2 m.length c2) (.slice oR2 n2 cR2))) ∧ cur.heap.size ≤ B' ∧ Hid (hs'.length ≤ 3) :=
 ⟨B, hs2, o2, c2, oR2, cR2, rfl, rfl, PBox.set hZ rfl h1 h2 hn, setP_below hx hB _ _ _, hB, h3⟩
theorem finJn {cur W : World} {base : Nat} {key : Int} {m : List Bk} {hs2 : List Hd} {o2 oR2 : Option Addr} {c2 n2 cR2 : Nat} (hx : Below cur.heap.size cur W) (h1 : ownK W base (.slice o2 m.length c2) m) (h2 : ownL layH 51 W base (.slice oR2 n2 cR2) hs2) (hn : n2 = hs2.length) (h3 : hs2.length ≤ 3) :
  ∃ B' hs' o' c' oR' cR', Value.pointer (some ⟨W.heap.size, 0, none⟩) = .pointer (some ⟨B', 0, none⟩) ∧ Value.bool true = .bool true ∧ Hid (PBox (W.alloc (.cells #[.int .i64 key, .slice o2 m.length c2, .slice oR2 n2 cR2] 29)) base B' key m hs' o' c' oR' cR') ∧ Hid (Below cur.heap.size cur (W.alloc (.cells #[.int .i64 key, .slice o2 m.length c2, .slice oR2 n2 cR2] 29))) ∧ cur.heap.size ≤ B' ∧ Hid (hs'.length ≤ 3) := by
 subst hn
 exact ⟨W.heap.size, hs2, o2, c2, oR2, cR2, rfl, rfl, ⟨World.alloc_heap_new W _, World.ownsRow.alloc h1 _, World.ownsRow.alloc h2 _⟩, hx.alloc hx.size _, hx.size, h3⟩

set_option maxRecDepth 100000 in
set_option maxHeartbeats 16000000 in
theorem specJ_loop (key safe : Int) (b off cap : Nat) (cs : List Cd) (w : World) (hbl : cs.length ≠ 0 → b < w.heap.size) (hcell : ∀ i, i < cs.length → ∀ j, j < layC.k → w.cell? ⟨b, off + i * layC.k + j, none⟩ = (layC.cs (cs.getD i layC.d))[j]?) (hk : keyB key = true) (hl : cs.length ≤ 100) (h0 : 0 ≤ safe) (h1 : safe ≤ (cs.length : Int)) (ob : Option Addr) (hob : cs.length ≠ 0 → ob = some ⟨b, off, none⟩) :
  Calls Tryz.prog 93 #[jrn key (.slice ob cs.length cap) safe] w fun e w' => e = .returned (.bool (runTo cs cs.length).isSome) ∧ Below w.heap.size w w' := by
 have hik := l3key_any key
 rw [hk] at hik
 have HC := hide hcell
 have HOB := hide hob
 have HBL := hide hbl
 have q1 : decide (100 < (cs.length : Int)) = false := decide_eq_false (by omega)
 have q2 : decide (safe < 0) = false := decide_eq_false (by omega)
 have q3 : decide ((cs.length : Int) < safe) = false := decide_eq_false (by omega)
 have HN := hide hl
 clear hcell hob hbl h0 h1
 obtain ⟨W0, hW0⟩ : ∃ W, (w.alloc (.cells #[.int .i64 key, .slice ob cs.length cap, .int .i64 safe] 25)) = W := ⟨_, rfl⟩
 have hb_W0 : Below w.heap.size w W0 := by rw [← hW0]; exact ((Below.refl _ _).alloc (Nat.le_refl _) _)
 have HB := hide hb_W0
 clear hb_W0
 have zz : w.heap.size < W0.heap.size := by rw [← hW0]; simp
 have z0 : W0.cell? ⟨w.heap.size, 0, none⟩ = some (.int .i64 key) := by rw [← hW0]; simp [go_sem]
 have z1 : W0.cell? ⟨w.heap.size, 1, none⟩ = some (.slice ob cs.length cap) := by rw [← hW0]; simp [go_sem]
 have z2 : W0.cell? ⟨w.heap.size, 2, none⟩ = some (.int .i64 safe) := by rw [← hW0]; simp [go_sem]
 have HL := hide (l4new_any key W0 hk)
 have hz0 := zz
 go_enter Tryz.func93, Tryz.ntmps93
 go_wp2_with (go_at_call 101; refine (hik _).mono ?_; rintro e w9 ⟨rfl, rfl⟩)
 refine (HL.out).mono ?_
 rintro e v1 ⟨gR, rfl, hring, hb⟩
 have HRG := hide hring
 have hs1 := hb.size
 clear hring
 replace z0 := bC hb z0 zz
 replace z1 := bC hb z1 zz
 replace z2 := bC hb z2 zz
 replace zz := Nat.lt_of_lt_of_le zz hb.size
 replace HB := hide (HB.out.trans (hb.mono HB.out.size))
 clear hb
 have z1v := z1
 have zzv := zz
 have HB1W := HB
 obtain ⟨W1, hW1⟩ : ∃ W, (v1.alloc (.cells #[.int .i64 key, .slice none 0 0, .slice (some ⟨gR, 0, none⟩) 1 1] 29)) = W := ⟨_, rfl⟩
 have hb_W1 : Below v1.heap.size v1 W1 := by rw [← hW1]; exact ((Below.refl _ _).alloc (Nat.le_refl _) _)
 replace z0 := bC hb_W1 z0 zz
 replace z1 := bC hb_W1 z1 zz
 replace z2 := bC hb_W1 z2 zz
 replace zz := Nat.lt_of_lt_of_le zz hb_W1.size
 replace HB := hide (HB.out.trans (hb_W1.mono HB.out.size))
 clear hb_W1
 have zp : v1.heap.size < W1.heap.size := by rw [← hW1]; simp
 have p0 : W1.cell? ⟨v1.heap.size, 0, none⟩ = some (.int .i64 key) := by rw [← hW1]; simp [go_sem]
 have p1 : W1.cell? ⟨v1.heap.size, 1, none⟩ = some (.slice none 0 0) := by rw [← hW1]; simp [go_sem]
 have p2 : W1.cell? ⟨v1.heap.size, 2, none⟩ = some (.slice (some ⟨gR, 0, none⟩) 1 1) := by rw [← hW1]; simp [go_sem]
 obtain ⟨o3, c3, hs3, rg1, _, _⟩ := HRG.out
 have hb1 : Below v1.heap.size v1 W1 := by rw [← hW1]; exact (Below.refl _ _).alloc (Nat.le_refl _) _
 have HP : Hid (PBox W1 w.heap.size v1.heap.size key [] [(o3, 8, c3)] none 0 (some ⟨gR, 0, none⟩) 1) := ⟨by rw [← hW1]; exact World.alloc_heap_new v1 _, World.ownsRow_nil _ _ _ _, own_mono (own_kept rg1 hb1) (by omega)⟩
 clear rg1 HRG hb1
 go_wp2
 go_loopw [4] (fun iv wr => ∃ (t : Nat) (l : List Bk) (hs : List Hd) (o : Option Addr) (c : Nat) (oR : Option Addr) (cR : Nat), t ≤ cs.length ∧ iv = .int .i64 (t : Int) ∧ Hid (PBox wr w.heap.size v1.heap.size key l hs o c oR cR) ∧ Hid (runTo cs t = some l) ∧ Hid (hs.length ≤ 3) ∧ Hid (Below v1.heap.size v1 wr))
  (fun iv _ => cs.length - (intOf iv).toNat)
 case atStart => exact ⟨0, [], _, _, _, _, _, Nat.zero_le _, rfl, HP.out, rfl, (Nat.le_of_ble_eq_true rfl), by rw [← hW1]; exact (Below.refl _ _).alloc (Nat.le_refl _) _⟩
 case round =>
  obtain ⟨t, l, hs, o, c, oR, cR, htl, rfl, HPB, HRUN, HS3, HBR⟩ := hrel
  have hv1 := HBR.out.size
  have HBB : Hid (Below w.heap.size w wr) := (HB1W.out).trans (HBR.out.mono HB1W.out.size)
  have y1 := bC HBR.out z1v zzv
  by_cases hlt : t < cs.length
  ·skip
   clear z0 z1 z2 zz p0 p1 p2 zp hW0 hW1 HP hik HB
   have hlt' : (t : Int) < (cs.length : Int) := by omega
   have ht0 : (0 : Int) ≤ (t : Int) := by omega
   have hob := HOB.out (by omega)
   have hbl := HBL.out (by omega)
   subst hob
   obtain ⟨hbo, hll⟩ := runTo_ok t l (by omega) HRUN.out
   obtain ⟨c0, c1, c2⟩ := RdL.cmd (C := w.heap.size) HC.out t hlt
   replace c0 := (HBB.out.cell (p := ⟨b, off + t * 3, none⟩) hbl).trans c0
   replace c1 := (HBB.out.cell (p := ⟨b, off + t * 3 + 1, none⟩) hbl).trans c1
   replace c2 := (HBB.out.cell (p := ⟨b, off + t * 3 + 2, none⟩) hbl).trans c2
   have HNX := hide (runTo_succ hlt)
   obtain ⟨x, y, u, hxyu⟩ : ∃ x y u, cs.getD t (0, 0, 0) = (x, y, u) := ⟨_, _, _, rfl⟩
   rw [hxyu] at c0 c1 c2 HNX
   have HST := hide (fun h => run_stop hlt (hxyu ▸ h) : stepO (runTo cs t) (x, y, u) = none → (runTo cs cs.length).isSome = false)
   rw [HRUN.out] at HNX HST
   simp only [stepO, Option.bind_some] at c0 c1 c2 HNX HST
   clear hxyu HRUN
   have HPC := hide (specPoolCmdOk_any x y u)
   cases hc : cmdOkB x y u with
   | false =>
    rw [hc] at HST HPC
    have HEND := hide (HST.out (by simp))
    clear HST HNX
    have HB := HBB
    go_wp2_with fail
    refine (HPC.out _).mono ?_
    rintro e w2 ⟨rfl, hb⟩
    replace HB := hide (HB.out.trans (hb.mono HB.out.size))
    clear hb
    go_wp2
    go_ret
    exact ⟨by rw [HEND.out]; rfl, HB.out⟩
   | true =>
    rw [hc] at HST HNX HPC
    simp only [if_true] at HST HNX
    go_wp2_with fail
    refine (HPC.out _).mono ?_
    rintro e w2 ⟨rfl, hb⟩
    have hs2 := hb.size
    have HPB2 := hide (HPB.out.kept hb)
    have HBR2 := hide (HBR.out.trans (hb.mono hv1))
    have HBB2 := hide (HBB.out.trans (hb.mono HBB.out.size))
    replace y1 := bC hb y1 (show w.heap.size < wr.heap.size by have := HB1W.out.size; omega)
    replace c0 := bC hb c0 (show b < wr.heap.size by have := HBB.out.size; omega)
    replace c1 := bC hb c1 (show b < wr.heap.size by have := HBB.out.size; omega)
    replace c2 := bC hb c2 (show b < wr.heap.size by have := HBB.out.size; omega)
    clear hb HPB HBR HBB HPC
    have p0 : w2.cell? ⟨v1.heap.size, 0, none⟩ = some (.int .i64 key) := bx_cell HPB2.out.box 0 _ rfl
    have p1 : w2.cell? ⟨v1.heap.size, 1, none⟩ = some (.slice o l.length c) := bx_cell HPB2.out.box 1 _ rfl
    have p2 : w2.cell? ⟨v1.heap.size, 2, none⟩ = some (.slice oR hs.length cR) := bx_cell HPB2.out.box 2 _ rfl
    have hpz : v1.heap.size < w2.heap.size := (Array.getElem?_eq_some_iff.1 HPB2.out.box).1
    have hyz : w.heap.size < w2.heap.size := by have := HB1W.out.size; omega
    have hbz : b < w2.heap.size := by omega
    have hzv : v1.heap.size ≤ w2.heap.size := by omega
    have HRB := hide (ownL.rds (L := layK) HPB2.out.backs)
    have HRR := hide (ownL.rds (L := layH) HPB2.out.ring)
    have hcb := own_capK HPB2.out.backs
    have hcr := capH HPB2.out.ring
    cases hdo : doL l x y u with
    | none =>
     rw [hdo] at HST
     have HEND := hide (HST.out rfl)
     have HY := hide (fun W (hb : Below w2.heap.size w2 W) => l4do_no key o c l oR hs.length cR x y u W hbo hdo (by have := HN.out; omega) ((HRB.out.kept hb (Nat.le_refl _)).le hb.size))
     clear HST HNX hdo HRR hcb hcr
     go_upto_region 9 with fail
     go_cut [5, 6] from 47 to 56 (fun s5 s6 wx => s6 = .bool false ∧ Hid (Below w2.heap.size w2 wx))
     case first =>
      go_region_held3 (fun w' => w'.cell? ⟨v1.heap.size, 0, none⟩ = some (.int .i64 key) ∧ w'.cell? ⟨v1.heap.size, 1, none⟩ = some (.slice o l.length c) ∧ w'.cell? ⟨v1.heap.size, 2, none⟩ = some (.slice oR hs.length cR) ∧ w'.cell? ⟨w.heap.size, 1, none⟩ = some (.slice (some ⟨b, off, none⟩) cs.length cap) ∧ w'.cell? ⟨b, off + t * 3, none⟩ = some (.int .i64 x) ∧ w'.cell? ⟨b, off + t * 3 + 1, none⟩ = some (.int .i64 y) ∧ w'.cell? ⟨b, off + t * 3 + 2, none⟩ = some (.int .i64 u)) (first | with_reducible exact ⟨k0_0, k0_1, k0_2, k0_3, k0_4, k0_5, k0_6⟩ | with_reducible exact ⟨p0, p1, p2, y1, c0, c1, c2⟩ | with_reducible exact ⟨s0_0, s0_1, s0_2, s0_3, s0_4, s0_5, s0_6⟩ | go_keep) (first | (go_at_call 213; have hc_ := HY.out w2.drew (Below.drew (Below.refl _ _)); with_reducible refine hc_.mono ?_; clear hc_; rintro e x0 ⟨rfl, hb⟩; have hp0 : Below w2.heap.size w2 x0 := Below.trans (show Below w2.heap.size w2 w2.drew from (Below.drew (Below.refl _ _))) (hb.mono (by simp)); have sp0 := hp0.size; have k0_0 := bC hp0 p0 hpz; have k0_1 := bC hp0 p1 hpz; have k0_2 := bC hp0 p2 hpz; have k0_3 := bC hp0 y1 hyz; have k0_4 := bC hp0 c0 hbz; have k0_5 := bC hp0 c1 hbz; have k0_6 := bC hp0 c2 hbz; clear hb) | (go_at_call 213; have hc_ := HY.out (w2.alloc (.cells #[.int .i64 0, .slice none 0 0, .slice none 0 0] 29)).drew (Below.drew ((Below.refl _ _).alloc (Nat.le_refl _) _)); with_reducible refine hc_.mono ?_; clear hc_; rintro e x0 ⟨rfl, hb⟩; have hp0 : Below w2.heap.size w2 x0 := Below.trans (show Below w2.heap.size w2 (w2.alloc (.cells #[.int .i64 0, .slice none 0 0, .slice none 0 0] 29)).drew from (Below.drew ((Below.refl _ _).alloc (Nat.le_refl _) _))) (hb.mono (by simp)); have sp0 := hp0.size; have k0_0 := bC hp0 p0 hpz; have k0_1 := bC hp0 p1 hpz; have k0_2 := bC hp0 p2 hpz; have k0_3 := bC hp0 y1 hyz; have k0_4 := bC hp0 c0 hbz; have k0_5 := bC hp0 c1 hbz; have k0_6 := bC hp0 c2 hbz; have hZ0 := box_newA hb; have hzl0 := (Array.getElem?_eq_some_iff.1 hZ0).1; have hzc_0 := bx_cell hZ0 0 _ rfl; have hzf_0 := bx_frozen hZ0 0; have hzc_1 := bx_cell hZ0 1 _ rfl; have hzf_1 := bx_frozen hZ0 1; have hzc_2 := bx_cell hZ0 2 _ rfl; have hzf_2 := bx_frozen hZ0 2; have s0_0 : (((x0.setCell ⟨w2.heap.size, 0, none⟩ (.int .i64 key)).setCell ⟨w2.heap.size, 1, none⟩ (.slice o l.length c)).setCell ⟨w2.heap.size, 2, none⟩ (.slice oR hs.length cR)).cell? ⟨v1.heap.size, 0, none⟩ = some (.int .i64 key) := setP_cell k0_0 hpz; have s0_1 : (((x0.setCell ⟨w2.heap.size, 0, none⟩ (.int .i64 key)).setCell ⟨w2.heap.size, 1, none⟩ (.slice o l.length c)).setCell ⟨w2.heap.size, 2, none⟩ (.slice oR hs.length cR)).cell? ⟨v1.heap.size, 1, none⟩ = some (.slice o l.length c) := setP_cell k0_1 hpz; have s0_2 : (((x0.setCell ⟨w2.heap.size, 0, none⟩ (.int .i64 key)).setCell ⟨w2.heap.size, 1, none⟩ (.slice o l.length c)).setCell ⟨w2.heap.size, 2, none⟩ (.slice oR hs.length cR)).cell? ⟨v1.heap.size, 2, none⟩ = some (.slice oR hs.length cR) := setP_cell k0_2 hpz; have s0_3 : (((x0.setCell ⟨w2.heap.size, 0, none⟩ (.int .i64 key)).setCell ⟨w2.heap.size, 1, none⟩ (.slice o l.length c)).setCell ⟨w2.heap.size, 2, none⟩ (.slice oR hs.length cR)).cell? ⟨w.heap.size, 1, none⟩ = some (.slice (some ⟨b, off, none⟩) cs.length cap) := setP_cell k0_3 hyz; have s0_4 : (((x0.setCell ⟨w2.heap.size, 0, none⟩ (.int .i64 key)).setCell ⟨w2.heap.size, 1, none⟩ (.slice o l.length c)).setCell ⟨w2.heap.size, 2, none⟩ (.slice oR hs.length cR)).cell? ⟨b, off + t * 3, none⟩ = some (.int .i64 x) := setP_cell k0_4 hbz; have s0_5 : (((x0.setCell ⟨w2.heap.size, 0, none⟩ (.int .i64 key)).setCell ⟨w2.heap.size, 1, none⟩ (.slice o l.length c)).setCell ⟨w2.heap.size, 2, none⟩ (.slice oR hs.length cR)).cell? ⟨b, off + t * 3 + 1, none⟩ = some (.int .i64 y) := setP_cell k0_5 hbz; have s0_6 : (((x0.setCell ⟨w2.heap.size, 0, none⟩ (.int .i64 key)).setCell ⟨w2.heap.size, 1, none⟩ (.slice o l.length c)).setCell ⟨w2.heap.size, 2, none⟩ (.slice oR hs.length cR)).cell? ⟨b, off + t * 3 + 2, none⟩ = some (.int .i64 u) := setP_cell k0_6 hbz; clear hb))
      all_goals (go_wp2_with fail; go_meet)
      all_goals first
       | with_reducible exact ⟨rfl, hide (setP_below hp0 (Nat.le_refl _) _ _ _)⟩
       | with_reducible exact ⟨rfl, hide (hp0.alloc hp0.size _)⟩
     case rest =>
     obtain ⟨rfl, Hbl⟩ := hcut
     have HBw := hide (HBB2.out.trans (Hbl.out.mono HBB2.out.size))
     go_wp2
     go_ret
     exact ⟨by rw [HEND.out]; rfl, HBw.out⟩
    | some m =>
     rw [hdo] at HNX
     have hs3 := HS3.out
     have HY := hide (fun W (hb : Below w2.heap.size w2 W) => l4do_yes key o c l oR cR hs x y u m W hk hbo hc hdo (by have := HN.out; omega) ((HRB.out.kept hb (Nat.le_refl _)).le hb.size) ((HRR.out.kept hb (Nat.le_refl _)).le hb.size) hcr hs3)
     clear HST hdo hc HRB HRR hcb
     go_upto_region 9 with fail
     go_cut [5, 6] from 47 to 56 (fun s5 s6 wx => ∃ B hs' o' c' oR' cR', s5 = .pointer (some ⟨B, 0, none⟩) ∧ s6 = .bool true ∧ Hid (PBox wx w.heap.size B key m hs' o' c' oR' cR') ∧ Hid (Below w2.heap.size w2 wx) ∧ w2.heap.size ≤ B ∧ Hid (hs'.length ≤ 3))
     case first =>
      go_region_held3 (fun w' => w'.cell? ⟨v1.heap.size, 0, none⟩ = some (.int .i64 key) ∧ w'.cell? ⟨v1.heap.size, 1, none⟩ = some (.slice o l.length c) ∧ w'.cell? ⟨v1.heap.size, 2, none⟩ = some (.slice oR hs.length cR) ∧ w'.cell? ⟨w.heap.size, 1, none⟩ = some (.slice (some ⟨b, off, none⟩) cs.length cap) ∧ w'.cell? ⟨b, off + t * 3, none⟩ = some (.int .i64 x) ∧ w'.cell? ⟨b, off + t * 3 + 1, none⟩ = some (.int .i64 y) ∧ w'.cell? ⟨b, off + t * 3 + 2, none⟩ = some (.int .i64 u)) (first | with_reducible exact ⟨k0_0, k0_1, k0_2, k0_3, k0_4, k0_5, k0_6⟩ | with_reducible exact ⟨p0, p1, p2, y1, c0, c1, c2⟩ | with_reducible exact ⟨s0_0, s0_1, s0_2, s0_3, s0_4, s0_5, s0_6⟩ | go_keep) (first | (go_at_call 213; have hc_ := HY.out w2.drew (Below.drew (Below.refl _ _)); with_reducible refine hc_.mono ?_; clear hc_; rintro e x0 ⟨o2, d2, oR2, n2, dR2, o3, d3, hs3, rfl, hn2, ow2, owR, _, _, hb⟩; have hp0 : Below w2.heap.size w2 x0 := Below.trans (show Below w2.heap.size w2 w2.drew from (Below.drew (Below.refl _ _))) (hb.mono (by simp)); have sp0 := hp0.size; have ow2 := own_mono ow2 (show w.heap.size ≤ _ by (try simp) <;> omega); have owR := own_mono owR (show w.heap.size ≤ _ by (try simp) <;> omega); have hl3 := List.length_take_le 3 ((o3, 8, d3) :: hs); generalize List.take 3 ((o3, 8, d3) :: hs) = hs2 at hn2 owR hl3; subst hn2; have k0_0 := bC hp0 p0 hpz; have k0_1 := bC hp0 p1 hpz; have k0_2 := bC hp0 p2 hpz; have k0_3 := bC hp0 y1 hyz; have k0_4 := bC hp0 c0 hbz; have k0_5 := bC hp0 c1 hbz; have k0_6 := bC hp0 c2 hbz; clear hb) | (go_at_call 213; have hc_ := HY.out (w2.alloc (.cells #[.int .i64 0, .slice none 0 0, .slice none 0 0] 29)).drew (Below.drew ((Below.refl _ _).alloc (Nat.le_refl _) _)); with_reducible refine hc_.mono ?_; clear hc_; rintro e x0 ⟨o2, d2, oR2, n2, dR2, o3, d3, hs3, rfl, hn2, ow2, owR, _, _, hb⟩; have hp0 : Below w2.heap.size w2 x0 := Below.trans (show Below w2.heap.size w2 (w2.alloc (.cells #[.int .i64 0, .slice none 0 0, .slice none 0 0] 29)).drew from (Below.drew ((Below.refl _ _).alloc (Nat.le_refl _) _))) (hb.mono (by simp)); have sp0 := hp0.size; have ow2 := own_mono ow2 (show w.heap.size ≤ _ by (try simp) <;> omega); have owR := own_mono owR (show w.heap.size ≤ _ by (try simp) <;> omega); have hl3 := List.length_take_le 3 ((o3, 8, d3) :: hs); generalize List.take 3 ((o3, 8, d3) :: hs) = hs2 at hn2 owR hl3; subst hn2; have k0_0 := bC hp0 p0 hpz; have k0_1 := bC hp0 p1 hpz; have k0_2 := bC hp0 p2 hpz; have k0_3 := bC hp0 y1 hyz; have k0_4 := bC hp0 c0 hbz; have k0_5 := bC hp0 c1 hbz; have k0_6 := bC hp0 c2 hbz; have hZ0 := box_newA hb; have hzl0 := (Array.getElem?_eq_some_iff.1 hZ0).1; have hzc_0 := bx_cell hZ0 0 _ rfl; have hzf_0 := bx_frozen hZ0 0; have hzc_1 := bx_cell hZ0 1 _ rfl; have hzf_1 := bx_frozen hZ0 1; have hzc_2 := bx_cell hZ0 2 _ rfl; have hzf_2 := bx_frozen hZ0 2; have s0_0 : (((x0.setCell ⟨w2.heap.size, 0, none⟩ (.int .i64 key)).setCell ⟨w2.heap.size, 1, none⟩ (.slice o2 m.length d2)).setCell ⟨w2.heap.size, 2, none⟩ (.slice oR2 hs2.length dR2)).cell? ⟨v1.heap.size, 0, none⟩ = some (.int .i64 key) := setP_cell k0_0 hpz; have s0_1 : (((x0.setCell ⟨w2.heap.size, 0, none⟩ (.int .i64 key)).setCell ⟨w2.heap.size, 1, none⟩ (.slice o2 m.length d2)).setCell ⟨w2.heap.size, 2, none⟩ (.slice oR2 hs2.length dR2)).cell? ⟨v1.heap.size, 1, none⟩ = some (.slice o l.length c) := setP_cell k0_1 hpz; have s0_2 : (((x0.setCell ⟨w2.heap.size, 0, none⟩ (.int .i64 key)).setCell ⟨w2.heap.size, 1, none⟩ (.slice o2 m.length d2)).setCell ⟨w2.heap.size, 2, none⟩ (.slice oR2 hs2.length dR2)).cell? ⟨v1.heap.size, 2, none⟩ = some (.slice oR hs.length cR) := setP_cell k0_2 hpz; have s0_3 : (((x0.setCell ⟨w2.heap.size, 0, none⟩ (.int .i64 key)).setCell ⟨w2.heap.size, 1, none⟩ (.slice o2 m.length d2)).setCell ⟨w2.heap.size, 2, none⟩ (.slice oR2 hs2.length dR2)).cell? ⟨w.heap.size, 1, none⟩ = some (.slice (some ⟨b, off, none⟩) cs.length cap) := setP_cell k0_3 hyz; have s0_4 : (((x0.setCell ⟨w2.heap.size, 0, none⟩ (.int .i64 key)).setCell ⟨w2.heap.size, 1, none⟩ (.slice o2 m.length d2)).setCell ⟨w2.heap.size, 2, none⟩ (.slice oR2 hs2.length dR2)).cell? ⟨b, off + t * 3, none⟩ = some (.int .i64 x) := setP_cell k0_4 hbz; have s0_5 : (((x0.setCell ⟨w2.heap.size, 0, none⟩ (.int .i64 key)).setCell ⟨w2.heap.size, 1, none⟩ (.slice o2 m.length d2)).setCell ⟨w2.heap.size, 2, none⟩ (.slice oR2 hs2.length dR2)).cell? ⟨b, off + t * 3 + 1, none⟩ = some (.int .i64 y) := setP_cell k0_5 hbz; have s0_6 : (((x0.setCell ⟨w2.heap.size, 0, none⟩ (.int .i64 key)).setCell ⟨w2.heap.size, 1, none⟩ (.slice o2 m.length d2)).setCell ⟨w2.heap.size, 2, none⟩ (.slice oR2 hs2.length dR2)).cell? ⟨b, off + t * 3 + 2, none⟩ = some (.int .i64 u) := setP_cell k0_6 hbz; clear hb))
      all_goals (go_wp2_with fail; go_meet)
      all_goals first
       | with_reducible exact finJ hZ0 hp0 (Nat.le_refl _) ow2 owR rfl hl3
       | with_reducible exact finJn hp0 ow2 owR rfl hl3
     case rest =>
     obtain ⟨B, hs', o', c', oR', cR', rfl, rfl, HPX, Hbl, hB1, HS3'⟩ := hcut
     have HBw := hide (HBB2.out.trans (Hbl.out.mono HBB2.out.size))
     have hbp := (Hbl.out.block v1.heap.size hpz).trans HPB2.out.box
     have x0 := bx_cell HPX.out.box 0 _ rfl
     have x1 := bx_cell HPX.out.box 1 _ rfl
     have x2 := bx_cell HPX.out.box 2 _ rfl
     have d0 := bx_cell hbp 0 _ rfl
     have d1 := bx_cell hbp 1 _ rfl
     have d2 := bx_cell hbp 2 _ rfl
     have f0 := bx_frozen hbp 0
     have f1 := bx_frozen hbp 1
     have f2 := bx_frozen hbp 2
     have HPN := hide (PBox.set (key := key) hbp rfl HPX.out.backs HPX.out.ring rfl)
     have HBN := hide (setP_below (HBR2.out.trans (Hbl.out.mono hzv)) (Nat.le_refl _) (.int .i64 key) (.slice o' m.length c') (.slice oR' hs'.length cR'))
     clear p0 p1 p2 y1 c0 c1 c2 hbp
     go_wp2
     go_roundw
     case rel => exact ⟨t + 1, m, hs', o', c', oR', cR', by omega, by go_num, HPN.out, HNX.out, HS3'.out, HBN.out⟩
     case measure => simp [intOf]; omega
  ·have e : t = cs.length := by omega
   subst e
   have HRS := hide (show (runTo cs cs.length).isSome = true by rw [HRUN.out]; rfl)
   clear z0 z1 z2 zz p0 p1 p2 zp hW0 hW1 HP hik HB HRUN
   have hlz : ¬ ((cs.length : Int) < (cs.length : Int)) := by omega
   go_wp2
   go_ret
   exact ⟨by rw [HRS.out]; rfl, HBB.out⟩

set_option maxRecDepth 100000 in
set_option maxHeartbeats 4000000 in
theorem specJournalOk_any (key safe : Int) (o : Option Addr) (cap : Nat) (cs : List Cd) (w : World) (hR : RdC w.heap.size w o cs) (hl : cs.length ≤ 1048576) :
  Calls Tryz.prog 93 #[jrn key (.slice o cs.length cap) safe] w fun e w' => e = .returned (.bool (journalB key cs safe)) ∧ Below w.heap.size w w' := by
 by_cases hall : keyB key = true ∧ cs.length ≤ 100 ∧ 0 ≤ safe ∧ safe ≤ (cs.length : Int)
 ·obtain ⟨h1, h2, h3, h4⟩ := hall
  have e : journalB key cs safe = (runTo cs cs.length).isSome := by unfold journalB; simp [h1, h2, h3, h4]
  rw [e]
  rcases hR with hR | ⟨b, off, rfl, hbl, hcell⟩
  ·subst hR
   exact specJ_loop key safe 0 0 cap [] w (fun h => absurd rfl h) (fun i hi => absurd hi (Nat.not_lt_zero _)) h1 h2 h3 h4 o (fun h => absurd rfl h)
  ·exact specJ_loop key safe b off cap cs w (fun _ => hbl) hcell h1 h2 h3 h4 _ (fun _ => rfl)
 have HE := hide (show journalB key cs safe = false by
  rw [Bool.eq_false_iff]; intro h; unfold journalB at h; simp only [Bool.and_eq_true, decide_eq_true_eq] at h; exact hall ⟨h.1.1.1.1, h.1.1.1.2, h.1.1.2, h.1.2⟩)
 have hik := l3key_any key
 obtain ⟨W0, hW0⟩ : ∃ W, (w.alloc (.cells #[.int .i64 key, .slice o cs.length cap, .int .i64 safe] 25)) = W := ⟨_, rfl⟩
 have hb_W0 : Below w.heap.size w W0 := by rw [← hW0]; exact ((Below.refl _ _).alloc (Nat.le_refl _) _)
 have HB := hide hb_W0
 clear hb_W0
 have zz : w.heap.size < W0.heap.size := by rw [← hW0]; simp
 have z0 : W0.cell? ⟨w.heap.size, 0, none⟩ = some (.int .i64 key) := by rw [← hW0]; simp [go_sem]
 have z1 : W0.cell? ⟨w.heap.size, 1, none⟩ = some (.slice o cs.length cap) := by rw [← hW0]; simp [go_sem]
 have z2 : W0.cell? ⟨w.heap.size, 2, none⟩ = some (.int .i64 safe) := by rw [← hW0]; simp [go_sem]
 clear hR
 cases hk : keyB key with
 | false =>
  rw [hk] at hik
  clear hall
  go_enter Tryz.func93, Tryz.ntmps93
  go_wp2_with (go_at_call 101; refine (hik _).mono ?_; rintro e w9 ⟨rfl, rfl⟩)
  go_ret
  exact ⟨by rw [HE.out]; rfl, HB.out⟩
 | true =>
  by_cases h2 : cs.length ≤ 100
  ·by_cases h3 : 0 ≤ safe
   ·by_cases h4 : safe ≤ (cs.length : Int)
    ·exact absurd ⟨hk, h2, h3, h4⟩ hall
    ·skip
     rw [hk] at hik
     have q1 : decide (100 < (cs.length : Int)) = false := decide_eq_false (by omega)
     have q2 : decide (safe < 0) = false := decide_eq_false (by omega)
     have q3 : decide ((cs.length : Int) < safe) = true := decide_eq_true (by omega)
     clear hall
     go_enter Tryz.func93, Tryz.ntmps93
     go_wp2_with (go_at_call 101; refine (hik _).mono ?_; rintro e w9 ⟨rfl, rfl⟩)
     go_ret
     exact ⟨by rw [HE.out]; rfl, HB.out⟩
   ·skip
    rw [hk] at hik
    have q1 : decide (100 < (cs.length : Int)) = false := decide_eq_false (by omega)
    have q2 : decide (safe < 0) = true := decide_eq_true (by omega)
    clear hall
    go_enter Tryz.func93, Tryz.ntmps93
    go_wp2_with (go_at_call 101; refine (hik _).mono ?_; rintro e w9 ⟨rfl, rfl⟩)
    go_ret
    exact ⟨by rw [HE.out]; rfl, HB.out⟩
  ·skip
   rw [hk] at hik
   have q1 : decide (100 < (cs.length : Int)) = true := decide_eq_true (by omega)
   clear hall
   go_enter Tryz.func93, Tryz.ntmps93
   go_wp2_with (go_at_call 101; refine (hik _).mono ?_; rintro e w9 ⟨rfl, rfl⟩)
   go_ret
   exact ⟨by rw [HE.out]; rfl, HB.out⟩

end Go.Proofs.YtmmhgkkcpjhiiaaGreat

namespace Go.Proofs.YtmmhgkkcpjhiiaaGreat
open Go.ChangeShapes Go.WideShapes Go.ChangeAt Go.RowKit Go.Joins
set_option linter.unusedVariables false
set_option linter.unusedSimpArgs false

def PTabs (w : World) (base : Nat) (key : Int) (hs : List Hd) (R : List (List Bk)) : Prop := hs.length = R.length ∧ ∀ i, i < R.length → ∃ o3 c3 hs8, hs.getD i (none, 0, 0) = (o3, 8, c3) ∧ ownL layH 47 w base (.slice o3 8 c3) hs8 ∧ Tab (fun b => pairI key b (R.getD i [])) 8 w base hs8
theorem PTabs.kept {w w' : World} {base : Nat} {key : Int} {hs : List Hd} {R : List (List Bk)} (h : PTabs w base key hs R) (hb : Below w.heap.size w w') : PTabs w' base key hs R :=
 ⟨h.1, fun i hi => by obtain ⟨o3, c3, hs8, e, h1, h2⟩ := h.2 i hi; exact ⟨o3, c3, hs8, e, own_kept h1 hb, h2.kept hb⟩⟩
theorem PTabs.putB {w : World} {base : Nat} {key : Int} {hs : List Hd} {R : List (List Bk)} {B : Nat} {c : Array Value} (h : PTabs w base key hs R) (hB : w.heap[B]? = some (.cells c 29 (0, 0))) (j : Nat) (u : Value) : PTabs (w.setCell ⟨B, j, none⟩ u) base key hs R :=
 ⟨h.1, fun i hi => by obtain ⟨o3, c3, hs8, e, h1, h2⟩ := h.2 i hi; exact ⟨o3, c3, hs8, e, own_putB h1 hB neP2 j u, h2.grown (grown_set w B j u) (fun q hq => own_box (h2.row q hq) hB neP3)⟩⟩
theorem PTabs.setP {w : World} {base : Nat} {key : Int} {hs : List Hd} {R : List (List Bk)} {B : Nat} {c : Array Value} (h : PTabs w base key hs R) (hB : w.heap[B]? = some (.cells c 29 (0, 0))) (x y z : Value) : PTabs (Go.Proofs.YtmmhgkkcpjhiiaaGreat.setP w B x y z) base key hs R :=
 ((h.putB hB 0 x).putB (box_put hB 0 x) 1 y).putB (box_put (box_put hB 0 x) 1 y) 2 z
theorem PTabs.low {w : World} {base : Nat} {key : Int} {hs : List Hd} {R : List (List Bk)} {B : Nat} (h : PTabs w base key hs R) (hB : B < base) (j : Nat) (u : Value) : PTabs (w.setCell ⟨B, j, none⟩ u) base key hs R :=
 ⟨h.1, fun i hi => by
  obtain ⟨o3, c3, hs8, e, h1, h2⟩ := h.2 i hi
  refine ⟨o3, c3, hs8, e, own_low h1 hB j u, h2.grown (grown_set w B j u) (fun q hq => ?_)⟩
  cases hob : (hv hs8 q).ownBlock with
  | none => exact .inl rfl
  | some b => exact .inr (fun e => by have := ((h2.row q hq).lt b hob).1; injection e with e; omega)⟩
theorem PTabs.mono {w : World} {base b2 : Nat} {key : Int} {hs : List Hd} {R : List (List Bk)} (h : PTabs w base key hs R) (hb : b2 ≤ base) : PTabs w b2 key hs R :=
 ⟨h.1, fun i hi => by obtain ⟨o3, c3, hs8, e, h1, h2⟩ := h.2 i hi; exact ⟨o3, c3, hs8, e, own_mono h1 hb, Tab.mono h2 hb⟩⟩
theorem PTabs.cons {w : World} {base : Nat} {key : Int} {hs hs8 : List Hd} {R : List (List Bk)} {m : List Bk} {o3 : Option Addr} {c3 : Nat} (h : PTabs w base key hs R) (h1 : ownL layH 47 w base (.slice o3 8 c3) hs8) (h2 : Tab (fun b => pairI key b m) 8 w base hs8) : PTabs w base key ((o3, 8, c3) :: hs) (m :: R) :=
 ⟨by simp [h.1], fun i hi => by
  cases i with
  | zero => exact ⟨o3, c3, hs8, rfl, h1, h2⟩
  | succ i => simpa using h.2 i (by simpa using hi)⟩
theorem PTabs.take {w : World} {base : Nat} {key : Int} {hs : List Hd} {R : List (List Bk)} (n : Nat) (h : PTabs w base key hs R) : PTabs w base key (hs.take n) (R.take n) :=
 ⟨by simp [h.1], fun i hi => by
  have h1 : i < n := by simp at hi; omega
  have h2 : i < R.length := by simp at hi; omega
  have e1 : (hs.take n).getD i (none, 0, 0) = hs.getD i (none, 0, 0) := by simp [List.getD_eq_getElem?_getD, List.getElem?_take, h1]
  have e2 : (R.take n).getD i [] = R.getD i [] := by simp [List.getD_eq_getElem?_getD, List.getElem?_take, h1]
  rw [e1, e2]; exact h.2 i h2⟩
theorem ptabs_next {w x : World} {base b2 : Nat} {key : Int} {hs hs8 : List Hd} {R : List (List Bk)} {m : List Bk} {o3 : Option Addr} {c3 : Nat} (h : PTabs w base key hs R) (hb : Below w.heap.size w x) (h1 : ownL layH 47 x b2 (.slice o3 8 c3) hs8) (h2 : Tab (fun b => pairI key b m) 8 x b2 hs8) (hle : base ≤ b2) : PTabs x base key (((o3, 8, c3) :: hs).take 3) ((m :: R).take 3) :=
 ((h.kept hb).cons (own_mono h1 hle) (Tab.mono h2 hle)).take 3
def ringR (cs : List Cd) : Nat → List (List Bk)
 | 0 => [[]]
 | t + 1 => (servedOf cs (t + 1) :: ringR cs t).take 3
theorem runTo_back {cs : List Cd} {t : Nat} (h : (runTo cs cs.length).isSome = true) (ht : t ≤ cs.length) : ∃ l, runTo cs t = some l := by
 cases hr : runTo cs t with
 | some l => exact ⟨l, rfl⟩
 | none => rw [runTo_none hr ht] at h; cases h
theorem runTo_step {cs : List Cd} {t : Nat} {l : List Bk} (h : (runTo cs cs.length).isSome = true) (ht : t < cs.length) (hl : runTo cs t = some l) : ∃ m, cmdOkB (cs.getD t (0, 0, 0)).1 (cs.getD t (0, 0, 0)).2.1 (cs.getD t (0, 0, 0)).2.2 = true ∧ doL l (cs.getD t (0, 0, 0)).1 (cs.getD t (0, 0, 0)).2.1 (cs.getD t (0, 0, 0)).2.2 = some m ∧ runTo cs (t + 1) = some m := by
 obtain ⟨m, hm⟩ := runTo_back h (show t + 1 ≤ cs.length by omega)
 have hs := runTo_succ ht
 rw [hm, hl] at hs
 simp only [stepO, Option.bind_some] at hs
 split at hs
 ·next hc => exact ⟨m, hc, hs.symm, hm⟩
 ·cases hs

set_option maxRecDepth 100000 in
set_option maxHeartbeats 16000000 in
theorem l4replay_go (key : Int) (b off cap : Nat) (cs : List Cd) (w : World) (hbl : cs.length ≠ 0 → b < w.heap.size) (hcell : ∀ i, i < cs.length → ∀ j, j < layC.k → w.cell? ⟨b, off + i * layC.k + j, none⟩ = (layC.cs (cs.getD i layC.d))[j]?) (hk : keyB key = true) (hl : cs.length ≤ 100) (hrun : (runTo cs cs.length).isSome = true) (ob : Option Addr) (hob : cs.length ≠ 0 → ob = some ⟨b, off, none⟩) :
  Calls Tryz.prog 96 #[.int .i64 key, .slice ob cs.length cap] w fun e w' => ∃ o c oR cR hs, e = .returned (plv key (.slice o (servedOf cs cs.length).length c) (.slice oR hs.length cR)) ∧ ownK w' w.heap.size (.slice o (servedOf cs cs.length).length c) (servedOf cs cs.length) ∧ ownL layH 51 w' w.heap.size (.slice oR hs.length cR) hs ∧ PTabs w' w.heap.size key hs (ringR cs cs.length) ∧ hs.length ≤ 3 ∧ Below w.heap.size w w' := by
 have HC := hide hcell
 have HOB := hide hob
 have HBL := hide hbl
 have HN := hide hl
 have HRUN := hide hrun
 clear hcell hob hbl hrun
 obtain ⟨W0, hW0⟩ : ∃ W, (w.alloc (.cells #[.int .i64 0, .slice none 0 0, .slice none 0 0] 29)) = W := ⟨_, rfl⟩
 have hb_W0 : Below w.heap.size w W0 := by rw [← hW0]; exact ((Below.refl _ _).alloc (Nat.le_refl _) _)
 have HB := hide hb_W0
 clear hb_W0
 have zr : w.heap.size < W0.heap.size := by rw [← hW0]; simp
 have r0 : W0.cell? ⟨w.heap.size, 0, none⟩ = some (.int .i64 0) := by rw [← hW0]; simp [go_sem]
 have r1 : W0.cell? ⟨w.heap.size, 1, none⟩ = some (.slice none 0 0) := by rw [← hW0]; simp [go_sem]
 have r2 : W0.cell? ⟨w.heap.size, 2, none⟩ = some (.slice none 0 0) := by rw [← hW0]; simp [go_sem]
 have fr0 : W0.frozen? ⟨w.heap.size, 0, none⟩ = false := by rw [← hW0]; simp [go_sem]
 have fr1 : W0.frozen? ⟨w.heap.size, 1, none⟩ = false := by rw [← hW0]; simp [go_sem]
 have fr2 : W0.frozen? ⟨w.heap.size, 2, none⟩ = false := by rw [← hW0]; simp [go_sem]
 have hz0 := zr
 have HL := hide (l4new_any key W0 hk)
 go_enter Tryz.func96, Tryz.ntmps96
 go_wp2_with fail
 refine (HL.out).mono ?_
 rintro e v1 ⟨gR, rfl, hring, hb⟩
 have HRG := hide hring
 have hs1 := hb.size
 clear hring
 replace r0 := bC hb r0 zr
 replace r1 := bC hb r1 zr
 replace r2 := bC hb r2 zr
 replace fr0 := bF hb fr0 zr
 replace fr1 := bF hb fr1 zr
 replace fr2 := bF hb fr2 zr
 replace zr := Nat.lt_of_lt_of_le zr hb.size
 replace HB := hide (HB.out.trans (hb.mono HB.out.size))
 clear hb
 have r0v := r0
 have r1v := r1
 have r2v := r2
 have f0v := fr0
 have f1v := fr1
 have f2v := fr2
 have zrv := zr
 have HB1 := HB
 obtain ⟨W1, hW1⟩ : ∃ W, (v1.alloc (.cells #[.int .i64 key, .slice none 0 0, .slice (some ⟨gR, 0, none⟩) 1 1] 29)) = W := ⟨_, rfl⟩
 have hb_W1 : Below v1.heap.size v1 W1 := by rw [← hW1]; exact ((Below.refl _ _).alloc (Nat.le_refl _) _)
 replace r0 := bC hb_W1 r0 zr
 replace r1 := bC hb_W1 r1 zr
 replace r2 := bC hb_W1 r2 zr
 replace fr0 := bF hb_W1 fr0 zr
 replace fr1 := bF hb_W1 fr1 zr
 replace fr2 := bF hb_W1 fr2 zr
 replace zr := Nat.lt_of_lt_of_le zr hb_W1.size
 replace HB := hide (HB.out.trans (hb_W1.mono HB.out.size))
 clear hb_W1
 have zp : v1.heap.size < W1.heap.size := by rw [← hW1]; simp
 have p0 : W1.cell? ⟨v1.heap.size, 0, none⟩ = some (.int .i64 key) := by rw [← hW1]; simp [go_sem]
 have p1 : W1.cell? ⟨v1.heap.size, 1, none⟩ = some (.slice none 0 0) := by rw [← hW1]; simp [go_sem]
 have p2 : W1.cell? ⟨v1.heap.size, 2, none⟩ = some (.slice (some ⟨gR, 0, none⟩) 1 1) := by rw [← hW1]; simp [go_sem]
 obtain ⟨o3, c3, hs3, rg1, rg2, rg3⟩ := HRG.out
 have hb1 : Below v1.heap.size v1 W1 := by rw [← hW1]; exact (Below.refl _ _).alloc (Nat.le_refl _) _
 have HP : Hid (PBox W1 W0.heap.size v1.heap.size key [] [(o3, 8, c3)] none 0 (some ⟨gR, 0, none⟩) 1) := ⟨by rw [← hW1]; exact World.alloc_heap_new v1 _, World.ownsRow_nil _ _ _ _, own_kept rg1 hb1⟩
 have HPT : Hid (PTabs W1 W0.heap.size key [(o3, 8, c3)] (ringR cs 0)) := (PTabs.cons (R := []) (hs := []) ⟨rfl, fun i hi => absurd hi (Nat.not_lt_zero _)⟩ rg2 rg3).kept hb1
 clear rg1 rg2 rg3 HRG hb1
 go_wp2
 go_loopw [6] (fun iv wr => ∃ (t : Nat) (l : List Bk) (hs : List Hd) (o : Option Addr) (c : Nat) (oR : Option Addr) (cR : Nat), t ≤ cs.length ∧ iv = .int .i64 (t : Int) ∧ Hid (PBox wr W0.heap.size v1.heap.size key l hs o c oR cR) ∧ Hid (PTabs wr W0.heap.size key hs (ringR cs t)) ∧ Hid (runTo cs t = some l) ∧ Hid (hs.length ≤ 3) ∧ Hid (Below v1.heap.size v1 wr))
  (fun iv _ => cs.length - (intOf iv).toNat)
 case atStart => exact ⟨0, [], _, _, _, _, _, Nat.zero_le _, rfl, HP.out, HPT.out, rfl, (Nat.le_of_ble_eq_true rfl), by rw [← hW1]; exact (Below.refl _ _).alloc (Nat.le_refl _) _⟩
 case round =>
  obtain ⟨t, l, hs, o, c, oR, cR, htl, rfl, HPB, HPTB, HRT, HS3, HBR⟩ := hrel
  have hv1 := HBR.out.size
  clear r0 r1 r2 fr0 fr1 fr2 zr p0 p1 p2 zp hW0 hW1 HP HPT HB
  have HBB : Hid (Below w.heap.size w wr) := HB1.out.trans (HBR.out.mono HB1.out.size)
  have hpz : v1.heap.size < wr.heap.size := (Array.getElem?_eq_some_iff.1 HPB.out.box).1
  by_cases hlt : t < cs.length
  ·skip
   have hlt' : (t : Int) < (cs.length : Int) := by omega
   have ht0 : (0 : Int) ≤ (t : Int) := by omega
   have hob := HOB.out (by omega)
   have hbl := HBL.out (by omega)
   subst hob
   obtain ⟨hbo, hll⟩ := runTo_ok t l (by omega) HRT.out
   obtain ⟨m, hc, hdo, hnx⟩ := runTo_step HRUN.out hlt HRT.out
   obtain ⟨c0, c1, c2⟩ := RdL.cmd (C := w.heap.size) HC.out t hlt
   replace c0 := (HBB.out.cell (p := ⟨b, off + t * 3, none⟩) hbl).trans c0
   replace c1 := (HBB.out.cell (p := ⟨b, off + t * 3 + 1, none⟩) hbl).trans c1
   replace c2 := (HBB.out.cell (p := ⟨b, off + t * 3 + 2, none⟩) hbl).trans c2
   obtain ⟨x, y, u, hxyu⟩ : ∃ x y u, cs.getD t (0, 0, 0) = (x, y, u) := ⟨_, _, _, rfl⟩
   rw [hxyu] at c0 c1 c2 hc hdo
   dsimp only at c0 c1 c2 hc hdo
   clear hxyu
   have HNX := hide hnx
   have HRN := hide (show ringR cs (t + 1) = (m :: ringR cs t).take 3 by rw [ringR]; unfold servedOf; rw [hnx]; rfl)
   clear hnx
   have hs3 := HS3.out
   have hbz : b < wr.heap.size := by have := HBB.out.size; omega
   have hbp : b < v1.heap.size := by have := HB1.out.size; omega
   have HRB := hide (ownL.rds (L := layK) HPB.out.backs)
   have HRR := hide (ownL.rds (L := layH) HPB.out.ring)
   have hcr := capH HPB.out.ring
   have HY := hide (fun W (hb : Below wr.heap.size wr W) => l4do_yes key o c l oR cR hs x y u m W hk hbo hc hdo (by have := HN.out; omega) ((HRB.out.kept hb (Nat.le_refl _)).le hb.size) ((HRR.out.kept hb (Nat.le_refl _)).le hb.size) hcr hs3)
   clear hc hdo hcr HRB HRR
   have p0 : wr.cell? ⟨v1.heap.size, 0, none⟩ = some (.int .i64 key) := bx_cell HPB.out.box 0 _ rfl
   have p1 : wr.cell? ⟨v1.heap.size, 1, none⟩ = some (.slice o l.length c) := bx_cell HPB.out.box 1 _ rfl
   have p2 : wr.cell? ⟨v1.heap.size, 2, none⟩ = some (.slice oR hs.length cR) := bx_cell HPB.out.box 2 _ rfl
   have hW0v : W0.heap.size ≤ wr.heap.size := by omega
   go_wp2
   go_region_with (first | (go_at_call 213; have hc_ := HY.out wr.drew (Below.drew (Below.refl _ _)); with_reducible refine hc_.mono ?_; clear hc_; rintro e x0 ⟨o2, d2, oR2, n2, dR2, o3, d3, hs3', rfl, hn2, ow2, owR, ow3, tb3, hb⟩; have hp0 : Below wr.heap.size wr x0 := Below.trans (show Below wr.heap.size wr wr.drew from Below.drew (Below.refl _ _)) (hb.mono (by simp)); have sp0 := hp0.size; have ow2 := own_mono ow2 (show W0.heap.size ≤ _ by (try simp) <;> omega); have owR := own_mono owR (show W0.heap.size ≤ _ by (try simp) <;> omega); have pt := ptabs_next HPTB.out hp0 ow3 tb3 (show W0.heap.size ≤ _ by (try simp) <;> omega); rw [← HRN.out] at pt; have hl3 := List.length_take_le 3 ((o3, 8, d3) :: hs); generalize List.take 3 ((o3, 8, d3) :: hs) = hs2 at hn2 owR hl3 pt; subst hn2; have k0 := bC hp0 c0 hbz; have k1 := bC hp0 c1 hbz; have k2 := bC hp0 c2 hbz; have hbx := (hp0.block v1.heap.size hpz).trans HPB.out.box; have pc0 : x0.cell? ⟨v1.heap.size, 0, none⟩ = some (.int .i64 key) := bx_cell hbx 0 _ rfl; have pf0 := bx_frozen hbx 0; have pc1 : x0.cell? ⟨v1.heap.size, 1, none⟩ = some (.slice o l.length c) := bx_cell hbx 1 _ rfl; have pf1 := bx_frozen hbx 1; have pc2 : x0.cell? ⟨v1.heap.size, 2, none⟩ = some (.slice oR hs.length cR) := bx_cell hbx 2 _ rfl; have pf2 := bx_frozen hbx 2; have s0 : (((x0.setCell ⟨v1.heap.size, 0, none⟩ (.int .i64 key)).setCell ⟨v1.heap.size, 1, none⟩ (.slice o2 m.length d2)).setCell ⟨v1.heap.size, 2, none⟩ (.slice oR2 hs2.length dR2)).cell? ⟨b, off + t * 3, none⟩ = some (.int .i64 x) := setP_cell k0 hbp; have s1 : (((x0.setCell ⟨v1.heap.size, 0, none⟩ (.int .i64 key)).setCell ⟨v1.heap.size, 1, none⟩ (.slice o2 m.length d2)).setCell ⟨v1.heap.size, 2, none⟩ (.slice oR2 hs2.length dR2)).cell? ⟨b, off + t * 3 + 1, none⟩ = some (.int .i64 y) := setP_cell k1 hbp; have s2 : (((x0.setCell ⟨v1.heap.size, 0, none⟩ (.int .i64 key)).setCell ⟨v1.heap.size, 1, none⟩ (.slice o2 m.length d2)).setCell ⟨v1.heap.size, 2, none⟩ (.slice oR2 hs2.length dR2)).cell? ⟨b, off + t * 3 + 2, none⟩ = some (.int .i64 u) := setP_cell k2 hbp; have HPN := hide (PBox.set (key := key) hbx rfl ow2 owR rfl); have HPTN := hide (PTabs.setP pt hbx (.int .i64 key) (.slice o2 m.length d2) (.slice oR2 hs2.length dR2)); have HL3 := hide hl3; have HP0 := hide hp0; clear hb ow2 owR ow3 tb3 pt hl3 hp0 hbx))
   all_goals (have HBN := hide (setP_below (HBR.out.trans (HP0.out.mono hv1)) (Nat.le_refl _) (.int .i64 key) (.slice o2 m.length d2) (.slice oR2 hs2.length dR2)); go_wp2; go_roundw; (case rel => exact ⟨t + 1, m, hs2, o2, d2, oR2, dR2, by omega, by go_num, HPN.out, HPTN.out, HNX.out, HL3.out, HBN.out⟩); (case measure => (simp [intOf]; omega)))
  ·have e : t = cs.length := by omega
   subst e
   have hlz : ¬ ((cs.length : Int) < (cs.length : Int)) := by omega
   have hsv : servedOf cs cs.length = l := by unfold servedOf; rw [HRT.out]; rfl
   have HSV := hide hsv
   clear hsv
   have p0 : wr.cell? ⟨v1.heap.size, 0, none⟩ = some (.int .i64 key) := bx_cell HPB.out.box 0 _ rfl
   have p1 : wr.cell? ⟨v1.heap.size, 1, none⟩ = some (.slice o l.length c) := bx_cell HPB.out.box 1 _ rfl
   have p2 : wr.cell? ⟨v1.heap.size, 2, none⟩ = some (.slice oR hs.length cR) := bx_cell HPB.out.box 2 _ rfl
   have q0 := bC HBR.out r0v zrv
   have fq0 := bF HBR.out f0v zrv
   have q1 := bC HBR.out r1v zrv
   have fq1 := bF HBR.out f1v zrv
   have q2 := bC HBR.out r2v zrv
   have fq2 := bF HBR.out f2v zrv
   go_wp2
   refine bodyPost_ret (v := plv key (.slice o l.length c) (.slice oR hs.length cR)) (by simp [results, Tryz.results96, go_sem, q0, q1, q2]) rfl ⟨o, c, oR, cR, hs, by rw [HSV.out], ?_, ?_, ?_, HS3.out, setP_below HBB.out (Nat.le_refl _) _ _ _⟩
   ·rw [HSV.out]; exact own_mono (own_low (own_low (own_low HPB.out.backs hz0 0 _) hz0 1 _) hz0 2 _) (by omega)
   ·exact own_mono (own_low (own_low (own_low HPB.out.ring hz0 0 _) hz0 1 _) hz0 2 _) (by omega)
   ·exact PTabs.mono (((HPTB.out.low hz0 0 _).low hz0 1 _).low hz0 2 _) (by omega)

end Go.Proofs.YtmmhgkkcpjhiiaaGreat

namespace Go.Proofs.YtmmhgkkcpjhiiaaGreat
open Go.ChangeShapes Go.WideShapes Go.ChangeAt Go.RowKit Go.Joins
set_option linter.unusedVariables false
set_option linter.unusedSimpArgs false

theorem own_none2 {α : Type} {L : Lay α} (w : World) (e : TypeId) : ownL L e (w.alloc (.cells #[] e)) w.heap.size (.slice (some ⟨w.heap.size, 0, none⟩) 0 0) ([] : List α) := own_none0 w e
def jm0 : Jm := ⟨0, [], 0⟩
theorem journal_facts {key : Int} {cs : List Cd} {safe : Int} (h : journalB key cs safe = true) : keyB key = true ∧ cs.length ≤ 100 ∧ 0 ≤ safe ∧ safe ≤ (cs.length : Int) := by
 unfold journalB at h
 simp only [Bool.and_eq_true, decide_eq_true_eq] at h
 exact ⟨h.1.1.1.1, h.1.1.1.2, h.1.1.2, h.1.2⟩
set_option maxRecDepth 100000 in
set_option maxHeartbeats 4000000 in
theorem l4ownJ_any (key safe : Int) (o : Option Addr) (cap : Nat) (l : List Cd) (n : Nat) (hnl : n = l.length) (w : World) (hR : RdC w.heap.size w o l) (hn : o = none → cap = 0) (hl : l.length ≤ 1048576) :
  Calls Tryz.prog 249 #[jrn key (.slice o n cap) safe] w fun e w' => ∃ o2 c2, e = .returned (jrn key (.slice o2 n c2) safe) ∧ ownC w' w.heap.size (.slice o2 n c2) l ∧ Below w.heap.size w w' := by
 obtain ⟨W0, hW0⟩ : ∃ W, ((w.alloc (.cells #[.int .i64 key, .slice o n cap, .int .i64 safe] 25)).alloc (.cells #[.int .i64 0, .slice none 0 0, .int .i64 0] 25)) = W := ⟨_, rfl⟩
 have hb_W0 : Below w.heap.size w W0 := by rw [← hW0]; exact (((Below.refl _ _).alloc (Nat.le_refl _) _).alloc (by simp <;> omega) _)
 have HB := hide hb_W0
 clear hb_W0
 have zz : w.heap.size < W0.heap.size := by rw [← hW0]; simp <;> omega
 have z0 : W0.cell? ⟨w.heap.size, 0, none⟩ = some (.int .i64 key) := by rw [← hW0]; simp [go_sem]
 have z1 : W0.cell? ⟨w.heap.size, 1, none⟩ = some (.slice o n cap) := by rw [← hW0]; simp [go_sem]
 have z2 : W0.cell? ⟨w.heap.size, 2, none⟩ = some (.int .i64 safe) := by rw [← hW0]; simp [go_sem]
 have zr : w.heap.size + 1 < W0.heap.size := by rw [← hW0]; simp
 have r0 : W0.cell? ⟨w.heap.size + 1, 0, none⟩ = some (.int .i64 0) := by rw [← hW0]; simp [go_sem]
 have r1 : W0.cell? ⟨w.heap.size + 1, 1, none⟩ = some (.slice none 0 0) := by rw [← hW0]; simp [go_sem]
 have r2 : W0.cell? ⟨w.heap.size + 1, 2, none⟩ = some (.int .i64 0) := by rw [← hW0]; simp [go_sem]
 have fr0 : W0.frozen? ⟨w.heap.size + 1, 0, none⟩ = false := by rw [← hW0]; simp [go_sem]
 have fr1 : W0.frozen? ⟨w.heap.size + 1, 1, none⟩ = false := by rw [← hW0]; simp [go_sem]
 have fr2 : W0.frozen? ⟨w.heap.size + 1, 2, none⟩ = false := by rw [← hW0]; simp [go_sem]
 have HR := hide (hR.kept HB.out (Nat.le_refl _))
 have HNL := hide hnl
 have hzr := zr
 clear hR hnl
 go_enter Tryz.func249, Tryz.ntmps249
 go_wp2
 go_region_held3 (fun w' => w'.cell? ⟨w.heap.size, 0, none⟩ = some (.int .i64 key) ∧ w'.cell? ⟨w.heap.size, 1, none⟩ = some (.slice o n cap) ∧ w'.cell? ⟨w.heap.size, 2, none⟩ = some (.int .i64 safe)) (first | with_reducible exact ⟨k0, k1, k2⟩ | with_reducible exact ⟨z0, z1, z2⟩ | with_reducible exact ⟨setP_cell k0 (Nat.lt_succ_self _), setP_cell k1 (Nat.lt_succ_self _), setP_cell k2 (Nat.lt_succ_self _)⟩ | go_keep) (first | (have own_ : ownL layC 77 (W0.alloc (.cells #[] 77)).drew W0.heap.size (.slice (some ⟨W0.heap.size, 0, none⟩) 0 0) ([] : List Cd) := own_none2 W0 _; have hbv : Below W0.heap.size W0 (W0.alloc (.cells #[] 77)).drew := Below.drew ((Below.refl _ _).alloc (Nat.le_refl _) _); refine step_append_lay appC0 rfl _ _ rfl W0.heap.size (.slice (some ⟨W0.heap.size, 0, none⟩) 0 0) ([] : List Cd) rfl own_ o cap w.heap.size l n HNL.out rfl hn (HR.out.kept hbv (by omega)) (by simp; omega) (by (try simp) <;> omega) ?_; intro v8 w8 ho8 hg8 hn8; have hp8 : Below W0.heap.size W0 w8 := hbv.grown hg8 (by (try simp) <;> omega) (fun k h => by simp [Value.ownBlock] at h; omega); have sp8 := hp8.size; obtain ⟨o8, c8, e8, _⟩ := ownL.open (L := layC) ho8; subst e8; have HO8 : Hid (ownC w8 W0.heap.size (.slice o8 l.length c8) l) := ho8; have k0 := bC hp8 z0 zz; have k1 := bC hp8 z1 zz; have k2 := bC hp8 z2 zz; have rr0 := bC hp8 r0 zr; have rr1 := bC hp8 r1 zr; have rr2 := bC hp8 r2 zr; have frr0 := bF hp8 fr0 zr; have frr1 := bF hp8 fr1 zr; have frr2 := bF hp8 fr2 zr; have HP8 := hide hp8; clear ho8 hg8 hn8 own_ hbv hp8))
 go_wp2
 have hnn := HNL.out
 skip
 refine bodyPost_ret (v := jrn key (.slice o8 l.length c8) safe) (by simp [results, Tryz.results249, go_sem, rr0, rr1, rr2]) rfl ⟨o8, c8, by rw [hnn], ?_, setP_below (HB.out.trans (HP8.out.mono HB.out.size)) (Nat.le_succ _) _ _ _⟩
 rw [hnn]
 exact own_mono (own_low (own_low (own_low HO8.out hzr 0 _) hzr 1 _) hzr 2 _) (by omega)

def roomJm (v : Value) : Prop := ∃ k o n c s, v = jrn k (.slice o n c) s ∧ n ≤ c ∧ (o = none → c = 0)
theorem InJm.room {lo hi : Nat} {w : World} {v : Value} {m : Jm} (h : InJm lo hi w v m) : roomJm v := by
 obtain ⟨vl, e, h1⟩ := h
 rcases h1.1.2 with ⟨e1, e2⟩ | ⟨g, cap, cur, e1, hb, hc, h4, h5, h6, h7⟩
 ·exact ⟨_, none, 0, 0, _, by rw [e, e1], Nat.le_refl _, fun _ => rfl⟩
 ·exact ⟨_, some ⟨g, 0, none⟩, m.l.length, cap, _, by rw [e, e1], h4, fun h => by cases h⟩
theorem roomJm.two {k s : Int} {o : Option Addr} {n c : Nat} (h : roomJm (jrn k (.slice o n c) s)) : n ≤ c ∧ (o = none → c = 0) := by
 obtain ⟨k', o', n', c', s', e, h1, h2⟩ := h
 injection e with e
 simp at e
 obtain ⟨_, ⟨e2, e3, e4⟩, _⟩ := e
 subst e2 e3 e4
 exact ⟨h1, h2⟩
theorem cloneN_any (o : Option Addr) (cap : Nat) (l : List Cd) (n : Nat) (hnl : n = l.length) (w : World) (hR : RdC w.heap.size w o l) (hn : o = none → cap = 0) (hl : l.length ≤ 1048576) :
  Calls Tryz.prog 124 #[.slice o n cap] w fun e w' => ∃ o2 c2, e = .returned (.slice o2 n c2) ∧ ownC w' w.heap.size (.slice o2 n c2) l ∧ Below w.heap.size w w' := by
 subst hnl
 refine (cloneCmds_any o cap l w hR hn hl).mono ?_
 rintro e w' ⟨v, rfl, h1, h2⟩
 obtain ⟨o2, c2, e2, _⟩ := ownL.open (L := layC) h1
 subst e2
 exact ⟨o2, c2, rfl, h1, h2⟩

end Go.Proofs.YtmmhgkkcpjhiiaaGreat

namespace Go.Proofs.YtmmhgkkcpjhiiaaGreat
open Go.ChangeShapes Go.WideShapes Go.ChangeAt Go.RowKit Go.Joins
set_option linter.unusedVariables false
set_option linter.unusedSimpArgs false

theorem journal_run {key : Int} {cs : List Cd} {safe : Int} (h : journalB key cs safe = true) : (runTo cs cs.length).isSome = true := by
 unfold journalB at h
 simp only [Bool.and_eq_true] at h
 exact h.2
theorem served_facts {key : Int} {cs : List Cd} {safe : Int} (h : journalB key cs safe = true) : backsOkB (servedOf cs cs.length) = true ∧ (servedOf cs cs.length).length ≤ 100 := by
 obtain ⟨l, hl⟩ := runTo_back (journal_run h) (Nat.le_refl _)
 have h1 := runTo_ok cs.length l (Nat.le_refl _) hl
 have h2 := (journal_facts h).2.1
 unfold servedOf
 rw [hl]
 exact ⟨h1.1, by simp only [Option.getD_some]; omega⟩
theorem l4replay_any (key : Int) (o : Option Addr) (cap : Nat) (cs : List Cd) (w : World) (hR : RdC w.heap.size w o cs) (hk : keyB key = true) (hl : cs.length ≤ 100) (hrun : (runTo cs cs.length).isSome = true) :
  Calls Tryz.prog 96 #[.int .i64 key, .slice o cs.length cap] w fun e w' => ∃ o c oR cR hs, e = .returned (plv key (.slice o (servedOf cs cs.length).length c) (.slice oR hs.length cR)) ∧ ownK w' w.heap.size (.slice o (servedOf cs cs.length).length c) (servedOf cs cs.length) ∧ ownL layH 51 w' w.heap.size (.slice oR hs.length cR) hs ∧ PTabs w' w.heap.size key hs (ringR cs cs.length) ∧ hs.length ≤ 3 ∧ Below w.heap.size w w' := by
 rcases hR with hR | ⟨b, off, rfl, hbl, hcell⟩
 ·subst hR
  exact l4replay_go key 0 0 cap [] w (fun h => absurd rfl h) (fun i hi => absurd hi (Nat.not_lt_zero _)) hk hl hrun o (fun h => absurd rfl h)
 ·exact l4replay_go key b off cap cs w (fun _ => hbl) hcell hk hl hrun _ (fun _ => rfl)

set_option maxRecDepth 100000 in
set_option maxHeartbeats 4000000 in
theorem cloneJournal_any (key safe : Int) (o : Option Addr) (cap : Nat) (l : List Cd) (w : World) (hR : RdC w.heap.size w o l) (hn : o = none → cap = 0) (hl : l.length ≤ 1048576) :
  Calls Tryz.prog 206 #[jrn key (.slice o l.length cap) safe] w fun e w' => ∃ o2 c2, e = .returned (jrn key (.slice o2 l.length c2) safe) ∧ ownC w' w.heap.size (.slice o2 l.length c2) l ∧ Below w.heap.size w w' := by
 obtain ⟨W0, hW0⟩ : ∃ W, ((w.alloc (.cells #[.int .i64 key, .slice o l.length cap, .int .i64 safe] 25)).alloc (.cells #[.int .i64 0, .slice none 0 0, .int .i64 0] 25)) = W := ⟨_, rfl⟩
 have hb_W0 : Below w.heap.size w W0 := by rw [← hW0]; exact (((Below.refl _ _).alloc (Nat.le_refl _) _).alloc (by simp <;> omega) _)
 have HB := hide hb_W0
 clear hb_W0
 have zz : w.heap.size < W0.heap.size := by rw [← hW0]; simp <;> omega
 have z0 : W0.cell? ⟨w.heap.size, 0, none⟩ = some (.int .i64 key) := by rw [← hW0]; simp [go_sem]
 have z1 : W0.cell? ⟨w.heap.size, 1, none⟩ = some (.slice o l.length cap) := by rw [← hW0]; simp [go_sem]
 have z2 : W0.cell? ⟨w.heap.size, 2, none⟩ = some (.int .i64 safe) := by rw [← hW0]; simp [go_sem]
 have fz0 : W0.frozen? ⟨w.heap.size, 0, none⟩ = false := by rw [← hW0]; simp [go_sem]
 have fz1 : W0.frozen? ⟨w.heap.size, 1, none⟩ = false := by rw [← hW0]; simp [go_sem]
 have fz2 : W0.frozen? ⟨w.heap.size, 2, none⟩ = false := by rw [← hW0]; simp [go_sem]
 have zr : w.heap.size + 1 < W0.heap.size := by rw [← hW0]; simp
 have r0 : W0.cell? ⟨w.heap.size + 1, 0, none⟩ = some (.int .i64 0) := by rw [← hW0]; simp [go_sem]
 have r1 : W0.cell? ⟨w.heap.size + 1, 1, none⟩ = some (.slice none 0 0) := by rw [← hW0]; simp [go_sem]
 have r2 : W0.cell? ⟨w.heap.size + 1, 2, none⟩ = some (.int .i64 0) := by rw [← hW0]; simp [go_sem]
 have fr0 : W0.frozen? ⟨w.heap.size + 1, 0, none⟩ = false := by rw [← hW0]; simp [go_sem]
 have fr1 : W0.frozen? ⟨w.heap.size + 1, 1, none⟩ = false := by rw [← hW0]; simp [go_sem]
 have fr2 : W0.frozen? ⟨w.heap.size + 1, 2, none⟩ = false := by rw [← hW0]; simp [go_sem]
 have hzr := zr
 have HCL := hide (cloneN_any o cap l l.length rfl W0 ((hR.kept HB.out (Nat.le_refl _)).le HB.out.size) hn hl)
 clear hR
 go_enter Tryz.func206, Tryz.ntmps206
 go_wp2_with fail
 refine (HCL.out).mono ?_
 rintro e v1 ⟨o2, c2, rfl, ow2, hb⟩
 have HO := hide ow2
 have hs1 := hb.size
 clear ow2
 replace z0 := bC hb z0 zz
 replace z1 := bC hb z1 zz
 replace z2 := bC hb z2 zz
 replace fz0 := bF hb fz0 zz
 replace fz1 := bF hb fz1 zz
 replace fz2 := bF hb fz2 zz
 replace zz := Nat.lt_of_lt_of_le zz hb.size
 replace r0 := bC hb r0 zr
 replace r1 := bC hb r1 zr
 replace r2 := bC hb r2 zr
 replace fr0 := bF hb fr0 zr
 replace fr1 := bF hb fr1 zr
 replace fr2 := bF hb fr2 zr
 replace zr := Nat.lt_of_lt_of_le zr hb.size
 replace HB := hide (HB.out.trans (hb.mono HB.out.size))
 clear hb
 have hzz : w.heap.size < W0.heap.size := by omega
 go_wp2
 refine bodyPost_ret (v := jrn key (.slice o2 l.length c2) safe) (by simp [results, Tryz.results206, go_sem, r0, r1, r2]) rfl ⟨o2, c2, rfl, own_mono (own_low (own_low (own_low (own_low HO.out hzz 1 _) hzr 0 _) hzr 1 _) hzr 2 _) (by omega), setP_below (HB.out.setCell (p := ⟨w.heap.size, 1, none⟩) (Nat.le_refl _) _) (Nat.le_succ _) _ _ _⟩

end Go.Proofs.YtmmhgkkcpjhiiaaGreat

namespace Go.Proofs.YtmmhgkkcpjhiiaaGreat
open Go.ChangeShapes Go.WideShapes Go.ChangeAt Go.RowKit Go.Joins
set_option linter.unusedVariables false
set_option linter.unusedSimpArgs false

def replayM (m : Jm) : Pm := if journalB m.key m.l m.safe = true then ⟨m.key, servedOf m.l m.l.length, ringT m.key (ringR m.l m.l.length)⟩ else pm0
theorem ringR_len (cs : List Cd) : ∀ n, (ringR cs n).length ≤ 3
 | 0 => by simp [ringR]
 | n + 1 => by rw [ringR, List.length_take]; omega
theorem replay_fit (m : Jm) : fitPm (replayM m) := by
 unfold replayM
 split
 ·next h => exact ringT_fit m.key _ _ (by have := (served_facts h).2; omega) (ringR_len _ _)
 ·exact ⟨by simp [pm0], by simp [pm0], by simp [pm0, szR, sumN], fun i hi => absurd hi (Nat.not_lt_zero _), fun i hi => absurd hi (Nat.not_lt_zero _)⟩
theorem ptabs_g {w : World} {base : Nat} {key : Int} {hs : List Hd} {R : List (List Bk)} (h : PTabs w base key hs R) : GTabs w base hs (ringT key R) := by
 refine ⟨by rw [h.1]; simp [ringT], fun i hi => ?_⟩
 have hi' : i < R.length := by simpa [ringT] using hi
 obtain ⟨o3, c3, hs8, e, h1, h2⟩ := h.2 i hi'
 rw [ringT_get _ _ _ hi']
 exact ⟨o3, c3, hs8, by rw [newT_len]; exact e, by rw [newT_len]; exact h1, tab_new h2⟩
def lastS (cs : List Cd) (a : Nat) : Nat → List (List Bk)
 | 0 => []
 | j + 1 => servedOf cs (a + j) :: lastS cs a j
theorem lastS_len (cs : List Cd) (a : Nat) : ∀ j, (lastS cs a j).length = j
 | 0 => rfl
 | j + 1 => by simp [lastS, lastS_len cs a j]
theorem lastS_step (cs : List Cd) (a j : Nat) (key : Int) (hj : j ≤ 2) : newF key (servedOf cs (a + j)) :: ((lastS cs a j).map (newF key)).take 2 = (lastS cs a (j + 1)).map (newF key) := by
 rw [List.take_of_length_le (by rw [List.length_map, lastS_len]; exact hj)]
 rfl
theorem ringR_three (cs : List Cd) : ∀ n, ringR cs (n + 2) = [servedOf cs (n + 2), servedOf cs (n + 1), servedOf cs n]
 | 0 => rfl
 | n + 1 => by rw [ringR, ringR_three cs n]; rfl
theorem ringR_last (cs : List Cd) (n : Nat) : ringR cs n = lastS cs (n + 1 - 3) (n + 1 - (n + 1 - 3)) := by
 match n with
 | 0 => rfl
 | 1 => rfl
 | n + 2 =>
  rw [ringR_three, show n + 2 + 1 - 3 = n by omega, show n + 2 + 1 - n = 3 by omega]
  simp [lastS]
theorem lastS_ok {cs : List Cd} {a : Nat} (h : ∀ q, q < cs.length + 1 → backsOkB (servedOf cs q) = true) : ∀ j, a + j ≤ cs.length + 1 → ∀ l ∈ lastS cs a j, backsOkB l = true
 | 0, _ => fun l hl => by simp [lastS] at hl
 | j + 1, hj => fun l hl => by
  rcases List.mem_cons.1 hl with rfl | hl
  ·exact h _ (by omega)
  ·exact lastS_ok h j (by omega) l hl
theorem last_tabs {key : Int} {L : List (List Bk)} (h : ∀ l ∈ L, backsOkB l = true) : (L.map (newF key)).map ptLL = ringT key L := by
 rw [List.map_map]
 exact List.map_congr_left (fun l hl => ptLL_new key (h l hl))
theorem served_each {key safe : Int} {cs : List Cd} (h : journalB key cs safe = true) : ∀ q, q < cs.length + 1 → backsOkB (servedOf cs q) = true ∧ (servedOf cs q).length ≤ 100 := fun q hq => by
 obtain ⟨l, hl⟩ := runTo_back (journal_run h) (show q ≤ cs.length by omega)
 have h1 := runTo_ok q l (by omega) hl
 have h2 := (journal_facts h).2.1
 unfold servedOf
 rw [hl]
 exact ⟨h1.1, by simp only [Option.getD_some]; omega⟩

end Go.Proofs.YtmmhgkkcpjhiiaaGreat

namespace Go.Proofs.YtmmhgkkcpjhiiaaGreat
open Go.ChangeShapes Go.WideShapes Go.ChangeAt Go.RowKit Go.Joins
set_option linter.unusedVariables false
set_option linter.unusedSimpArgs false

def bvS (hs : List Hd) (a : Nat) : Nat → Value
 | 0 => .slice none 0 0
 | j + 1 => hv hs (a + j)
theorem bvS_last (hs : List Hd) (a : Nat) : ∀ (j n : Nat), 1 ≤ j → a + (j - 1) = n → bvS hs a j = hv hs n
 | 0, n, h, _ => absurd h (by omega)
 | j + 1, n, _, h => by
  rw [← h]
  rfl
theorem own_roomT {α : Type} {L : Lay α} {T : TypeId} {w : World} {base : Nat} {o : Option Addr} {n c : Nat} {fs : List α} (h : ownL L T w base (.slice o n c) fs) : fs.length ≤ c ∧ (o = none → c = 0) := by
 rcases h.2 with ⟨e, h0⟩ | ⟨g, cap, cur, e, _, _, h1, _⟩
 ·injection e with e1 e2 e3
  exact ⟨by omega, fun _ => e3⟩
 ·injection e with e1 e2 e3
  exact ⟨by omega, fun h => by rw [h] at e1; cases e1⟩

set_option maxRecDepth 100000 in
set_option maxHeartbeats 8000000 in
theorem implReplay_sh (v : Value) (m : Jm) (w : World) (hR : RdJm w.heap.size w v m) (hcp : capJm v) (hf : fitJm m) :
  Calls Tryz.prog 40 #[v] w fun e w' => ∃ v', e = .returned (.tuple #[v', .bool (journalB m.key m.l m.safe)]) ∧ InPm w.heap.size w'.heap.size w' v' (replayM m) ∧ Below w.heap.size w w' := by
 have hR0 := hR
 obtain ⟨vl, rfl, ⟨o, c, rfl, r⟩⟩ := hR0
 clear hcp hR
 obtain ⟨key, l, safe⟩ := m
 dsimp only at *
 have HPM := hide (show replayM ⟨key, l, safe⟩ = if journalB key l safe = true then ⟨key, servedOf l l.length, ringT key (ringR l l.length)⟩ else pm0 from rfl)
 have HFA := hide (fun h : journalB key l safe = true => And.intro (journal_facts h) (And.intro (journal_run h) (And.intro (served_each h) (replay_fit ⟨key, l, safe⟩))))
 unfold fitJm at hf
 dsimp only at hf
 obtain ⟨W0, hW0⟩ : ∃ W, ((w.alloc (.cells #[.int .i64 key, .slice o l.length c, .int .i64 safe] 25)).alloc (.cells #[.int .i64 0, .slice none 0 0, .slice none 0 0] 29)) = W := ⟨_, rfl⟩
 have hb_W0 : Below w.heap.size w W0 := by rw [← hW0]; exact (((Below.refl _ _).alloc (Nat.le_refl _) _).alloc (by simp <;> omega) _)
 have HB := hide hb_W0
 clear hb_W0
 have zz : w.heap.size < W0.heap.size := by rw [← hW0]; simp <;> omega
 have z0 : W0.cell? ⟨w.heap.size, 0, none⟩ = some (.int .i64 key) := by rw [← hW0]; simp [go_sem]
 have z1 : W0.cell? ⟨w.heap.size, 1, none⟩ = some (.slice o l.length c) := by rw [← hW0]; simp [go_sem]
 have z2 : W0.cell? ⟨w.heap.size, 2, none⟩ = some (.int .i64 safe) := by rw [← hW0]; simp [go_sem]
 have zr : w.heap.size + 1 < W0.heap.size := by rw [← hW0]; simp
 have r0 : W0.cell? ⟨w.heap.size + 1, 0, none⟩ = some (.int .i64 0) := by rw [← hW0]; simp [go_sem]
 have r1 : W0.cell? ⟨w.heap.size + 1, 1, none⟩ = some (.slice none 0 0) := by rw [← hW0]; simp [go_sem]
 have r2 : W0.cell? ⟨w.heap.size + 1, 2, none⟩ = some (.slice none 0 0) := by rw [← hW0]; simp [go_sem]
 have fr0 : W0.frozen? ⟨w.heap.size + 1, 0, none⟩ = false := by rw [← hW0]; simp [go_sem]
 have fr1 : W0.frozen? ⟨w.heap.size + 1, 1, none⟩ = false := by rw [← hW0]; simp [go_sem]
 have fr2 : W0.frozen? ⟨w.heap.size + 1, 2, none⟩ = false := by rw [← hW0]; simp [go_sem]
 have HR0 := hide (show W0.heap[w.heap.size + 1]? = some (.cells #[.int .i64 0, .slice none 0 0, .slice none 0 0] 29 (0, 0)) by rw [← hW0]; exact box_new2 w _ _ _)
 have hzr := zr
 have HTU := hide (turns_any key safe o c l W0 ((r.kept HB.out (Nat.le_refl _)).le HB.out.size) hf)
 clear r
 cases hj : journalB key l safe with
 | false =>
  rw [hj] at HTU HPM
  clear HFA hj
  go_enter Tryz.func40, Tryz.ntmps40
  go_wp2_with fail
  refine (HTU.out).mono ?_
  rintro e v1 ⟨v9, rfl, _, hb⟩
  replace z0 := bC hb z0 zz
  replace z1 := bC hb z1 zz
  replace z2 := bC hb z2 zz
  replace zz := Nat.lt_of_lt_of_le zz hb.size
  replace r0 := bC hb r0 zr
  replace r1 := bC hb r1 zr
  replace r2 := bC hb r2 zr
  replace fr0 := bF hb fr0 zr
  replace fr1 := bF hb fr1 zr
  replace fr2 := bF hb fr2 zr
  replace zr := Nat.lt_of_lt_of_le zr hb.size
  replace HB := hide (HB.out.trans (hb.mono HB.out.size))
  clear hb
  go_wp2
  refine bodyPost_ret (v := .tuple #[plv 0 (.slice none 0 0) (.slice none 0 0), .bool false]) (by simp [results, Tryz.results40, go_sem, r0, r1, r2]) rfl ⟨_, rfl, ?_, setQ_below HB.out (Nat.le_succ _) _ _ _⟩
  rw [HPM.out, if_neg (by simp)]
  exact pm0_in _ _ _ (setQ_below HB.out (Nat.le_succ _) _ _ _).size
 | true =>
  obtain ⟨⟨hk, hl, h0, h1⟩, hrun, hse, hfi⟩ := HFA.out hj
  have HSE := hide hse
  have HK := hide hk
  rw [hj] at HTU HPM
  clear HFA hj hse hk hfi hrun
  go_enter Tryz.func40, Tryz.ntmps40
  go_wp2_with fail
  refine (HTU.out).mono ?_
  rintro e v1 ⟨v9, rfl, hown9, hb⟩
  obtain ⟨hs, ho9, hs9⟩ := hown9 (by simp)
  have HO9 := hide ho9
  have HS9 := hide hs9
  have hs1 := hb.size
  have HBLK := hide ((hb.block _ hzr).trans HR0.out)
  clear hown9 ho9 hs9
  replace z0 := bC hb z0 zz
  replace z1 := bC hb z1 zz
  replace z2 := bC hb z2 zz
  replace zz := Nat.lt_of_lt_of_le zz hb.size
  replace r0 := bC hb r0 zr
  replace r1 := bC hb r1 zr
  replace r2 := bC hb r2 zr
  replace fr0 := bF hb fr0 zr
  replace fr1 := bF hb fr1 zr
  replace fr2 := bF hb fr2 zr
  replace zr := Nat.lt_of_lt_of_le zr hb.size
  replace HB := hide (HB.out.trans (hb.mono HB.out.size))
  clear hb
  have HLN := hide HS9.out.len
  obtain ⟨g9, c9, e9⟩ := own_someH HO9.out (by rw [HLN.out]; omega)
  subst e9
  have hc9 : hs.length ≤ c9 := (own_roomT HO9.out).1
  have hgl : g9 < v1.heap.size := (HO9.out.lt g9 rfl).2
  have hgb : W0.heap.size ≤ g9 := (HO9.out.lt g9 rfl).1
  obtain ⟨N, hN⟩ : ∃ N, hs.length = N := ⟨_, rfl⟩
  have HN := hide (show N = l.length + 1 by rw [← hN]; exact HLN.out)
  have HNS := hide hN
  rw [hN] at hc9 ⊢
  have hN1 : 1 ≤ N := by have := HN.out; omega
  clear hN
  obtain ⟨a, ha⟩ : ∃ a, N - 3 = a := ⟨_, rfl⟩
  have haN : a < N := by omega
  have haN' : (a : Int) < (N : Int) := by omega
  have hac : ¬ (c9 = a) := by omega
  have hac' : (a : Int) ≤ (c9 : Int) := by omega
  have haN2 : (a : Int) ≤ (N : Int) := by omega
  have hmx : max (0 : Int) ((N : Int) - 3) = (a : Int) := by omega
  have HA := hide ha
  have hN101 : N ≤ 101 := by have := HN.out; omega
  clear ha
  go_wp2
  obtain ⟨W1, hW1⟩ : ∃ W, v1.alloc (.cells #[.int .i64 key, .slice none 0 0, .slice none 0 0] 186) = W := ⟨_, rfl⟩
  rw [hW1]
  have hx1 : W1.heap[v1.heap.size]? = some (.cells #[.int .i64 key, .slice none 0 0, .slice none 0 0] 186 (0, 0)) := by rw [← hW1]; exact World.alloc_heap_new v1 _
  have hb1 : Below v1.heap.size v1 W1 := by rw [← hW1]; exact (Below.refl _ _).alloc (Nat.le_refl _) _
  have HX1 := hide hx1
  have hs2 : v1.heap.size < W1.heap.size := (Array.getElem?_eq_some_iff.1 HX1.out).1
  have HB1 := hide hb1
  clear hx1 hb1 hW1 z0 z1 z2 r0 r1 r2 fr0 fr1 fr2
  obtain ⟨M, hM⟩ : ∃ M, N - a = M := ⟨_, rfl⟩
  rw [hM]
  have HM := hide hM
  have hM3 : M ≤ 3 := by have := HA.out; omega
  have hM1 : 1 ≤ M := by omega
  have haM : a + M = N := by omega
  clear hM hmx
  go_loopw [27] (fun iv wr => ∃ (j : Nat) (oR : Option Addr) (cR : Nat) (ob : Option Addr) (nb cb : Nat), j ≤ M ∧ iv = .int .i64 (j : Int) ∧ Hid (wr.heap[v1.heap.size]? = some (.cells #[.int .i64 key, .slice ob nb cb, .slice oR j cR] 186 (0, 0))) ∧ Hid (bvS hs a j = .slice ob nb cb) ∧ Hid (ownL layT 310 wr W1.heap.size (.slice oR j cR) ((lastS l a j).map (newF key))) ∧ Hid (Stp v1.heap.size (v1.heap.size + 1) W1 wr) ∧ W1.heap.size ≤ wr.heap.size)
   (fun iv _ => M - (intOf iv).toNat)
  case atStart => exact ⟨0, none, 0, none, 0, 0, Nat.zero_le _, rfl, HX1.out, rfl, World.ownsRow_nil _ _ _ _, Stp.refl _, Nat.le_refl _⟩
  case round =>
   obtain ⟨j, oR, cR, ob, nb, cb, hj, rfl, HBX, HBV, HOW, HST, hsr⟩ := hrel
   have HBV1 := hide (HB1.out.trans (HST.out.below (Nat.le_refl _) (Nat.le_of_lt hs2)))
   have p0 : wr.cell? ⟨v1.heap.size, 0, none⟩ = some (.int .i64 key) := bx_cell HBX.out 0 _ rfl
   have p1 : wr.cell? ⟨v1.heap.size, 1, none⟩ = some (.slice ob nb cb) := bx_cell HBX.out 1 _ rfl
   have p2 : wr.cell? ⟨v1.heap.size, 2, none⟩ = some (.slice oR j cR) := bx_cell HBX.out 2 _ rfl
   have hroom := own_roomT HOW.out
   rw [List.length_map, lastS_len] at hroom
   by_cases hlt : j < M
   ·skip
    have hlt' : (j : Int) < (M : Int) := by omega
    have haj : a + j < l.length + 1 := by have := HN.out; omega
    have hrow := HS9.out.row (a + j) haj
    obtain ⟨oK, cK, eK, rK⟩ := ownL.open (L := layK) hrow
    have hcap := own_capK (eK ▸ hrow)
    have hcl := bC HBV1.out (head_cell HO9.out (a + j) (by rw [HLN.out]; exact haj)) hgl
    rw [eK] at hcl
    have HEK := hide eK
    have hsv := HSE.out (a + j) haj
    have hw := with_any key ob nb cb oR cR oK cK (servedOf l (a + j)) wr ((lastS l a j).map (newF key)) (by rw [List.length_map, lastS_len]; omega) (ownL.rds (L := layT) HOW.out) (by rw [List.length_map, lastS_len]; exact hroom.1) hroom.2 ((rK.kept HBV1.out (Nat.le_refl _)).le (Nat.le_trans (Nat.le_of_lt hs2) hsr)) (by omega) HK.out hsv.1
    rw [lastS_step l a j key (by omega)] at hw
    simp only [List.length_map, lastS_len] at hw
    have HW := hide hw
    clear hw hsv rK hrow eK
    obtain ⟨nk, hnk⟩ : ∃ n, (servedOf l (a + j)).length = n := ⟨_, rfl⟩
    rw [hnk] at hcl HW HEK
    clear hnk
    go_wp2_with fail
    refine HW.out.mono ?_
    rintro e v2 ⟨o2, c2, rfl, ow2, hb2⟩
    have hsz2 := hb2.size
    have hx2 := (hb2.block _ (show v1.heap.size < wr.heap.size by omega)).trans HBX.out
    have a0 : v2.cell? ⟨v1.heap.size, 0, none⟩ = some (.int .i64 key) := bx_cell hx2 0 _ rfl
    have f0 := bx_frozen hx2 0
    have a1 : v2.cell? ⟨v1.heap.size, 1, none⟩ = some (.slice ob nb cb) := bx_cell hx2 1 _ rfl
    have f1 := bx_frozen hx2 1
    have a2 : v2.cell? ⟨v1.heap.size, 2, none⟩ = some (.slice oR j cR) := bx_cell hx2 2 _ rfl
    have f2 := bx_frozen hx2 2
    have HX9 : Hid ((setP v2 v1.heap.size (.int .i64 key) (.slice oK nk cK) (.slice o2 (j + 1) c2)).heap[v1.heap.size]? = some (.cells #[.int .i64 key, .slice oK nk cK, .slice o2 (j + 1) c2] 186 (0, 0))) := box_put (box_put (box_put hx2 0 _) 1 _) 2 _
    have HO9' := hide (own_low (own_low (own_low (own_mono ow2 hsr) hs2 0 (.int .i64 key)) hs2 1 (.slice oK nk cK)) hs2 2 (.slice o2 (j + 1) c2))
    have HS9' := hide ((HST.out.trans (Stp.of hb2)).trans (stp_setQ v2 v1.heap.size (.int .i64 key) (.slice oK nk cK) (.slice o2 (j + 1) c2)))
    have hs9 : W1.heap.size ≤ v2.heap.size := by omega
    clear ow2 hb2 hx2 p0 p1 p2
    go_wp2
    go_roundw
    case rel => exact ⟨j + 1, o2, c2, oK, nk, cK, by omega, by go_num, HX9.out, HEK.out, HO9'.out, HS9'.out, by simpa using hs9⟩
    case measure => simp [intOf]; omega
   ·skip
    have e : j = M := by omega
    subst e
    have hln : a + (j - 1) = l.length := by have := HN.out; omega
    have hrow := HS9.out.row l.length (by omega)
    obtain ⟨oK, cK, eK, rK⟩ := ownL.open (L := layK) hrow
    have hcap := own_capK (eK ▸ hrow)
    have hbv := bvS_last hs a j l.length hM1 hln
    rw [HBV.out, eK] at hbv
    injection hbv with e1 e2 e3
    subst e1 e2 e3
    have hsv := HSE.out l.length (by omega)
    have hp := plain_any key ob cb (servedOf l l.length) oR cR ((lastS l a j).map (newF key)) wr ((rK.kept HBV1.out (Nat.le_refl _)).le (Nat.le_trans (Nat.le_of_lt hs2) hsr)) hcap (by omega) (ownL.rds (L := layT) HOW.out) (by rw [List.length_map, lastS_len]; omega)
    rw [last_tabs (lastS_ok (fun q hq => (HSE.out q hq).1) j (by have := HN.out; omega))] at hp
    simp only [List.length_map, lastS_len] at hp
    have hring : lastS l a j = ringR l l.length := by rw [ringR_last, ← HN.out, HA.out, HM.out]
    rw [hring] at hp
    have HP := hide hp
    clear hp hring hrow eK rK hsv
    obtain ⟨sv, hsv⟩ : ∃ s, servedOf l l.length = s := ⟨_, rfl⟩
    rw [hsv] at HP HPM p1
    obtain ⟨rg, hrg⟩ : ∃ s, ringT key (ringR l l.length) = s := ⟨_, rfl⟩
    rw [hrg] at HP HPM
    clear hsv hrg
    go_wp2_with fail
    refine HP.out.mono ?_
    rintro e v3 ⟨v9, rfl, hin, hb3⟩
    have HIN := hide hin
    have hs4 := hb3.size
    clear hin
    obtain ⟨o9, c9', oR9, cR9, e9⟩ : ∃ (o9 : Option Addr) (c9 : Nat) (oR9 : Option Addr) (cR9 : Nat), v9 = plv key (.slice o9 sv.length c9) (.slice oR9 rg.length cR9) := HIN.out.opn
    subst e9
    have hrb := (hb3.block _ (show w.heap.size + 1 < wr.heap.size by omega)).trans ((HBV1.out.block _ (show w.heap.size + 1 < v1.heap.size by omega)).trans HBLK.out)
    have r0 : v3.cell? ⟨w.heap.size + 1, 0, none⟩ = some (.int .i64 0) := bx_cell hrb 0 _ rfl
    have fr0 := bx_frozen hrb 0
    have r1 : v3.cell? ⟨w.heap.size + 1, 1, none⟩ = some (.slice none 0 0) := bx_cell hrb 1 _ rfl
    have fr1 := bx_frozen hrb 1
    have r2 : v3.cell? ⟨w.heap.size + 1, 2, none⟩ = some (.slice none 0 0) := bx_cell hrb 2 _ rfl
    have fr2 := bx_frozen hrb 2
    have HBF := hide ((HB.out.trans (HBV1.out.mono HB.out.size)).trans (hb3.mono (by omega)))
    clear hb3 hrb
    go_wp2
    refine bodyPost_ret (v := .tuple #[plv key (.slice o9 sv.length c9') (.slice oR9 rg.length cR9), .bool true]) (by simp [results, Tryz.results40, go_sem, r0, r1, r2]) rfl ⟨_, rfl, ?_, setQ_below HBF.out (Nat.le_succ _) _ _ _⟩
    rw [HPM.out, if_pos trivial, setQ_size]
    exact InPm.mono (HIN.out.step (stp_setQ v3 (w.heap.size + 1) _ _ _) (.inl (by omega))) (by omega)

end Go.Proofs.YtmmhgkkcpjhiiaaGreat

namespace Go.Proofs.YtmmhgkkcpjhiiaaGreat
open Go.ChangeShapes Go.WideShapes Go.ChangeAt Go.RowKit Go.Joins
set_option linter.unusedVariables false
set_option linter.unusedSimpArgs false


theorem setB_cell {W : World} {R b j : Nat} {u : Value} (h : W.cell? ⟨b, j, none⟩ = some u) (hb : b ≠ R) (x0 x1 x2 x3 x4 x5 x6 : Value) : (setB W R x0 x1 x2 x3 x4 x5 x6).cell? ⟨b, j, none⟩ = some u := (stp_setB W R x0 x1 x2 x3 x4 x5 x6).cellP h (Nat.lt_or_gt_of_ne hb)
def balB (m : Bm) : Bool := journalB m.j.key m.j.l m.j.safe && (hintB m.t && samePB (replayM m.j) m.p)
abbrev balr (vt : Value) (kj : Int) (vl : Value) (sj kp : Int) (vb vr : Value) : Value := .agg #[vt, .int .i64 kj, vl, .int .i64 sj, .int .i64 kp, vb, vr]
def InBl (lo hi : Nat) (w : World) (v : Value) (j : Jm) (p : Pm) (t : List Sl) : Prop := ∃ vt vl vb vr a b, v = balr vt j.key vl j.safe p.key vb vr ∧ lo ≤ a ∧ a ≤ b ∧ b ≤ hi ∧ InPm lo a w (plv p.key vb vr) p ∧ InL layS CellT a b w vt t ∧ InJm b hi w (jrn j.key vl j.safe) j

set_option maxRecDepth 100000 in
set_option maxHeartbeats 8000000 in
theorem balFrom_any (kj : Int) (o : Option Addr) (nj c : Nat) (sj kp : Int) (ob : Option Addr) (np cb : Nat) (oR : Option Addr) (nr cR : Nat) (ot : Option Addr) (nt ct : Nat) (lj : List Cd) (lb : List Bk) (lr : List (List (List Int))) (lt : List Sl) (w : World)
  (hnj : nj = lj.length) (hnt : nt = lt.length) (h1 : RdC w.heap.size w o lj) (h1c : o = none → c = 0) (h2 : RdPm w.heap.size w (plv kp (.slice ob np cb) (.slice oR nr cR)) ⟨kp, lb, lr⟩) (h4 : RdS w.heap.size w ot lt) (hf : fitB0 ⟨⟨kj, lj, sj⟩, ⟨kp, lb, lr⟩, lt⟩) :
  Calls Tryz.prog 90 #[balv kj (.slice o nj c) sj kp (.slice ob np cb) (.slice oR nr cR) (.slice ot nt ct)] w fun e w' => ∃ (xo : Option Addr) (xn xc : Nat) (kq : Int) (yo : Option Addr) (yn yc : Nat) (sq kr : Int) (uo : Option Addr) (un uc : Nat) (vo : Option Addr) (vn vc : Nat), e = .returned (.tuple #[balr (.slice xo xn xc) kq (.slice yo yn yc) sq kr (.slice uo un uc) (.slice vo vn vc), .bool (balB ⟨⟨kj, lj, sj⟩, ⟨kp, lb, lr⟩, lt⟩)]) ∧ (balB ⟨⟨kj, lj, sj⟩, ⟨kp, lb, lr⟩, lt⟩ = true → InBl w.heap.size w'.heap.size w' (balr (.slice xo xn xc) kq (.slice yo yn yc) sq kr (.slice uo un uc) (.slice vo vn vc)) ⟨kj, lj, sj⟩ (replayM ⟨kj, lj, sj⟩) lt) ∧ Below w.heap.size w w' := by
 obtain ⟨f1, f2, f7⟩ := hf
 dsimp only at f1 f2 f7
 have hfj : lj.length ≤ 1048576 := by omega
 have HRP := hide (fun W (hb : Below w.heap.size w W) => implReplay_sh (jrn kj (.slice o nj c) sj) ⟨kj, lj, sj⟩ W ⟨_, rfl, o, c, (by rw [hnj]), (h1.kept hb (Nat.le_refl _)).le hb.size⟩ ⟨_, _, _, rfl, fun n9 c9 e9 => by injection e9 with e1 e2 e3; rw [← e3]; exact h1c e1⟩ hfj)
 have HHF := hide (fun W (hb : Below w.heap.size w W) => hintsFrom_any ot nt ct lt W hnt ((h4.kept hb (Nat.le_refl _)).le hb.size) f7)
 have HCJ := hide (fun W (hb : Below w.heap.size w W) => cloneJournal_any kj sj o c lj W ((h1.kept hb (Nat.le_refl _)).le hb.size) h1c hfj)
 rw [← hnj] at HCJ
 have HSP := hide (fun W (hb : Below w.heap.size w W) v (h : RdPm W.heap.size W v (replayM ⟨kj, lj, sj⟩)) => implSamePool_any v (plv kp (.slice ob np cb) (.slice oR nr cR)) (replayM ⟨kj, lj, sj⟩) ⟨kp, lb, lr⟩ W h ((h2.kept hb (Nat.le_refl _)).le hb.size) (replay_fit _) f2)
 have HBB := hide (show balB ⟨⟨kj, lj, sj⟩, ⟨kp, lb, lr⟩, lt⟩ = (journalB kj lj sj && (hintB lt && samePB (replayM ⟨kj, lj, sj⟩) ⟨kp, lb, lr⟩)) from rfl)
 have HHB := hide (show hintB lt = true → tableOkB lt = true from fun h => by unfold hintB at h; cases ht : tableOkB lt <;> simp_all)
 have HNJ := hide hnj
 have HNT := hide hnt
 clear h1 h2 h4 f2 hnj hnt
 obtain ⟨W0, hW0⟩ : ∃ W, ((w.alloc (.cells #[.int .i64 kj, .slice o nj c, .int .i64 sj, .int .i64 kp, .slice ob np cb, .slice oR nr cR, .slice ot nt ct] 34)).alloc (.cells #[.slice none 0 0, .int .i64 0, .slice none 0 0, .int .i64 0, .int .i64 0, .slice none 0 0, .slice none 0 0] 152)) = W := ⟨_, rfl⟩
 have hb_W0 : Below w.heap.size w W0 := by rw [← hW0]; exact (((Below.refl _ _).alloc (Nat.le_refl _) _).alloc (by simp <;> omega) _)
 have HB := hide hb_W0
 clear hb_W0
 have zz : w.heap.size < W0.heap.size := by rw [← hW0]; simp <;> omega
 have z0 : W0.cell? ⟨w.heap.size, 0, none⟩ = some (.int .i64 kj) := by rw [← hW0]; simp [go_sem]
 have z1 : W0.cell? ⟨w.heap.size, 1, none⟩ = some (.slice o nj c) := by rw [← hW0]; simp [go_sem]
 have z2 : W0.cell? ⟨w.heap.size, 2, none⟩ = some (.int .i64 sj) := by rw [← hW0]; simp [go_sem]
 have z3 : W0.cell? ⟨w.heap.size, 3, none⟩ = some (.int .i64 kp) := by rw [← hW0]; simp [go_sem]
 have z4 : W0.cell? ⟨w.heap.size, 4, none⟩ = some (.slice ob np cb) := by rw [← hW0]; simp [go_sem]
 have z5 : W0.cell? ⟨w.heap.size, 5, none⟩ = some (.slice oR nr cR) := by rw [← hW0]; simp [go_sem]
 have z6 : W0.cell? ⟨w.heap.size, 6, none⟩ = some (.slice ot nt ct) := by rw [← hW0]; simp [go_sem]
 have zr : w.heap.size + 1 < W0.heap.size := by rw [← hW0]; simp
 have r0 : W0.cell? ⟨w.heap.size + 1, 0, none⟩ = some (.slice none 0 0) := by rw [← hW0]; simp [go_sem]
 have r1 : W0.cell? ⟨w.heap.size + 1, 1, none⟩ = some (.int .i64 0) := by rw [← hW0]; simp [go_sem]
 have r2 : W0.cell? ⟨w.heap.size + 1, 2, none⟩ = some (.slice none 0 0) := by rw [← hW0]; simp [go_sem]
 have r3 : W0.cell? ⟨w.heap.size + 1, 3, none⟩ = some (.int .i64 0) := by rw [← hW0]; simp [go_sem]
 have r4 : W0.cell? ⟨w.heap.size + 1, 4, none⟩ = some (.int .i64 0) := by rw [← hW0]; simp [go_sem]
 have r5 : W0.cell? ⟨w.heap.size + 1, 5, none⟩ = some (.slice none 0 0) := by rw [← hW0]; simp [go_sem]
 have r6 : W0.cell? ⟨w.heap.size + 1, 6, none⟩ = some (.slice none 0 0) := by rw [← hW0]; simp [go_sem]
 have fr0 : W0.frozen? ⟨w.heap.size + 1, 0, none⟩ = false := by rw [← hW0]; simp [go_sem]
 have fr1 : W0.frozen? ⟨w.heap.size + 1, 1, none⟩ = false := by rw [← hW0]; simp [go_sem]
 have fr2 : W0.frozen? ⟨w.heap.size + 1, 2, none⟩ = false := by rw [← hW0]; simp [go_sem]
 have fr3 : W0.frozen? ⟨w.heap.size + 1, 3, none⟩ = false := by rw [← hW0]; simp [go_sem]
 have fr4 : W0.frozen? ⟨w.heap.size + 1, 4, none⟩ = false := by rw [← hW0]; simp [go_sem]
 have fr5 : W0.frozen? ⟨w.heap.size + 1, 5, none⟩ = false := by rw [← hW0]; simp [go_sem]
 have fr6 : W0.frozen? ⟨w.heap.size + 1, 6, none⟩ = false := by rw [← hW0]; simp [go_sem]
 have hzr := zr
 have hsw : w.heap.size ≤ W0.heap.size := HB.out.size
 go_enter Tryz.func90, Tryz.ntmps90
 go_wp2_with fail
 refine (HRP.out W0 HB.out).mono ?_
 rintro e v1 ⟨vp, rfl, inp, hb⟩
 have HIP := hide inp
 clear inp
 replace z0 := bC hb z0 zz
 replace z1 := bC hb z1 zz
 replace z2 := bC hb z2 zz
 replace z3 := bC hb z3 zz
 replace z4 := bC hb z4 zz
 replace z5 := bC hb z5 zz
 replace z6 := bC hb z6 zz
 replace zz := Nat.lt_of_lt_of_le zz hb.size
 replace r0 := bC hb r0 zr
 replace r1 := bC hb r1 zr
 replace r2 := bC hb r2 zr
 replace r3 := bC hb r3 zr
 replace r4 := bC hb r4 zr
 replace r5 := bC hb r5 zr
 replace r6 := bC hb r6 zr
 replace fr0 := bF hb fr0 zr
 replace fr1 := bF hb fr1 zr
 replace fr2 := bF hb fr2 zr
 replace fr3 := bF hb fr3 zr
 replace fr4 := bF hb fr4 zr
 replace fr5 := bF hb fr5 zr
 replace fr6 := bF hb fr6 zr
 replace zr := Nat.lt_of_lt_of_le zr hb.size
 replace HB := hide (HB.out.trans (hb.mono HB.out.size))
 clear hb
 dsimp only at HIP ⊢
 obtain ⟨pm, hpm⟩ : ∃ p, replayM ⟨kj, lj, sj⟩ = p := ⟨_, rfl⟩
 rw [hpm] at HIP HSP HBB
 have HPM := hide hpm
 clear hpm HRP
 obtain ⟨po, pc, qo, qc, hve⟩ := HIP.out.opn
 obtain ⟨pk, hpk⟩ : ∃ x, pm.key = x := ⟨_, rfl⟩
 obtain ⟨pn, hpn⟩ : ∃ x, pm.l.length = x := ⟨_, rfl⟩
 obtain ⟨qn, hqn⟩ : ∃ x, pm.ring.length = x := ⟨_, rfl⟩
 rw [hpk, hpn, hqn] at hve
 subst hve
 have HPK := hide hpk
 clear hpk hpn hqn
 have hs1 : W0.heap.size ≤ v1.heap.size := by have := HIP.out; obtain ⟨_, _, mid, _, k1, k2, _⟩ := this; omega
 obtain ⟨W2, hW2⟩ : ∃ W, (v1.alloc (.cells #[.int .i64 pk, .slice po pn pc, .slice qo qn qc] 29)) = W := ⟨_, rfl⟩
 have hb_W2 : Below v1.heap.size v1 W2 := by rw [← hW2]; exact ((Below.refl _ _).alloc (Nat.le_refl _) _)
 replace z0 := bC hb_W2 z0 zz
 replace z1 := bC hb_W2 z1 zz
 replace z2 := bC hb_W2 z2 zz
 replace z3 := bC hb_W2 z3 zz
 replace z4 := bC hb_W2 z4 zz
 replace z5 := bC hb_W2 z5 zz
 replace z6 := bC hb_W2 z6 zz
 replace zz := Nat.lt_of_lt_of_le zz hb_W2.size
 replace r0 := bC hb_W2 r0 zr
 replace r1 := bC hb_W2 r1 zr
 replace r2 := bC hb_W2 r2 zr
 replace r3 := bC hb_W2 r3 zr
 replace r4 := bC hb_W2 r4 zr
 replace r5 := bC hb_W2 r5 zr
 replace r6 := bC hb_W2 r6 zr
 replace fr0 := bF hb_W2 fr0 zr
 replace fr1 := bF hb_W2 fr1 zr
 replace fr2 := bF hb_W2 fr2 zr
 replace fr3 := bF hb_W2 fr3 zr
 replace fr4 := bF hb_W2 fr4 zr
 replace fr5 := bF hb_W2 fr5 zr
 replace fr6 := bF hb_W2 fr6 zr
 replace zr := Nat.lt_of_lt_of_le zr hb_W2.size
 replace HB := hide (HB.out.trans (hb_W2.mono HB.out.size))
 clear hb_W2
 have zp : v1.heap.size < W2.heap.size := by rw [← hW2]; simp
 have p0 : W2.cell? ⟨v1.heap.size, 0, none⟩ = some (.int .i64 pk) := by rw [← hW2]; simp [go_sem]
 have p1 : W2.cell? ⟨v1.heap.size, 1, none⟩ = some (.slice po pn pc) := by rw [← hW2]; simp [go_sem]
 have p2 : W2.cell? ⟨v1.heap.size, 2, none⟩ = some (.slice qo qn qc) := by rw [← hW2]; simp [go_sem]
 replace HIP := hide (HIP.out.step (Stp.of (lo := 0) (hi := 0) (show Below v1.heap.size v1 W2 by rw [← hW2]; exact (Below.refl _ _).alloc (Nat.le_refl _) _)) (.inl (Nat.zero_le _)))
 have hs2 : v1.heap.size ≤ W2.heap.size := by rw [← hW2]; simp
 go_wp2_with fail
 refine (HHF.out W2 HB.out).mono ?_
 rintro e v2 ⟨ho, hn, hc, rfl, hown, hb⟩
 have HOH := hide hown
 clear hown HHF
 replace HIP := hide (HIP.out.step (Stp.of (lo := 0) (hi := 0) hb) (.inl (Nat.zero_le _)))
 have hs3 : W2.heap.size ≤ v2.heap.size := hb.size
 replace z0 := bC hb z0 zz
 replace z1 := bC hb z1 zz
 replace z2 := bC hb z2 zz
 replace z3 := bC hb z3 zz
 replace z4 := bC hb z4 zz
 replace z5 := bC hb z5 zz
 replace z6 := bC hb z6 zz
 replace zz := Nat.lt_of_lt_of_le zz hb.size
 replace r0 := bC hb r0 zr
 replace r1 := bC hb r1 zr
 replace r2 := bC hb r2 zr
 replace r3 := bC hb r3 zr
 replace r4 := bC hb r4 zr
 replace r5 := bC hb r5 zr
 replace r6 := bC hb r6 zr
 replace fr0 := bF hb fr0 zr
 replace fr1 := bF hb fr1 zr
 replace fr2 := bF hb fr2 zr
 replace fr3 := bF hb fr3 zr
 replace fr4 := bF hb fr4 zr
 replace fr5 := bF hb fr5 zr
 replace fr6 := bF hb fr6 zr
 replace zr := Nat.lt_of_lt_of_le zr hb.size
 replace p0 := bC hb p0 zp
 replace p1 := bC hb p1 zp
 replace p2 := bC hb p2 zp
 replace zp := Nat.lt_of_lt_of_le zp hb.size
 replace HB := hide (HB.out.trans (hb.mono HB.out.size))
 clear hb
 obtain ⟨kb, hkb⟩ : ∃ b, journalB kj lj sj = b := ⟨_, rfl⟩
 obtain ⟨tb, htb⟩ : ∃ b, hintB lt = b := ⟨_, rfl⟩
 rw [hkb, htb] at HBB
 rw [htb] at HHB ⊢
 rw [hkb]
 clear hkb htb
 obtain ⟨W4, hW4⟩ : ∃ W, (v2.alloc (.cells #[.slice ho hn hc] 150)) = W := ⟨_, rfl⟩
 have hb_W4 : Below v2.heap.size v2 W4 := by rw [← hW4]; exact ((Below.refl _ _).alloc (Nat.le_refl _) _)
 replace z0 := bC hb_W4 z0 zz
 replace z1 := bC hb_W4 z1 zz
 replace z2 := bC hb_W4 z2 zz
 replace z3 := bC hb_W4 z3 zz
 replace z4 := bC hb_W4 z4 zz
 replace z5 := bC hb_W4 z5 zz
 replace z6 := bC hb_W4 z6 zz
 replace zz := Nat.lt_of_lt_of_le zz hb_W4.size
 replace r0 := bC hb_W4 r0 zr
 replace r1 := bC hb_W4 r1 zr
 replace r2 := bC hb_W4 r2 zr
 replace r3 := bC hb_W4 r3 zr
 replace r4 := bC hb_W4 r4 zr
 replace r5 := bC hb_W4 r5 zr
 replace r6 := bC hb_W4 r6 zr
 replace fr0 := bF hb_W4 fr0 zr
 replace fr1 := bF hb_W4 fr1 zr
 replace fr2 := bF hb_W4 fr2 zr
 replace fr3 := bF hb_W4 fr3 zr
 replace fr4 := bF hb_W4 fr4 zr
 replace fr5 := bF hb_W4 fr5 zr
 replace fr6 := bF hb_W4 fr6 zr
 replace zr := Nat.lt_of_lt_of_le zr hb_W4.size
 replace p0 := bC hb_W4 p0 zp
 replace p1 := bC hb_W4 p1 zp
 replace p2 := bC hb_W4 p2 zp
 replace zp := Nat.lt_of_lt_of_le zp hb_W4.size
 replace HB := hide (HB.out.trans (hb_W4.mono HB.out.size))
 clear hb_W4
 have zt : v2.heap.size < W4.heap.size := by rw [← hW4]; simp
 have t0 : W4.cell? ⟨v2.heap.size, 0, none⟩ = some (.slice ho hn hc) := by rw [← hW4]; simp [go_sem]
 replace HIP := hide (HIP.out.step (Stp.of (lo := 0) (hi := 0) (show Below v2.heap.size v2 W4 by rw [← hW4]; exact (Below.refl _ _).alloc (Nat.le_refl _) _)) (.inl (Nat.zero_le _)))
 have hs4 : v2.heap.size ≤ W4.heap.size := by rw [← hW4]; simp
 have hb24 : Below v2.heap.size v2 W4 := (show Below v2.heap.size v2 W4 by rw [← hW4]; exact (Below.refl _ _).alloc (Nat.le_refl _) _)
 cases kb with
 | false =>
  go_wp2
  refine bodyPost_ret (v := .tuple #[balr (.slice none 0 0) 0 (.slice none 0 0) 0 0 (.slice none 0 0) (.slice none 0 0), .bool false]) (by simp [results, Tryz.results90, go_sem, r0, r1, r2, r3, r4, r5, r6]) rfl ⟨none, 0, 0, 0, none, 0, 0, 0, 0, none, 0, 0, none, 0, 0, by rw [HBB.out]; rfl, fun h9 => (by rw [HBB.out] at h9; cases h9), setB_below HB.out (Nat.le_succ _) _ _ _ _ _ _ _⟩
 | true =>
  cases tb with
  | false =>
   go_wp2
   refine bodyPost_ret (v := .tuple #[balr (.slice none 0 0) 0 (.slice none 0 0) 0 0 (.slice none 0 0) (.slice none 0 0), .bool false]) (by simp [results, Tryz.results90, go_sem, r0, r1, r2, r3, r4, r5, r6]) rfl ⟨none, 0, 0, 0, none, 0, 0, 0, 0, none, 0, 0, none, 0, 0, by rw [HBB.out]; rfl, fun h9 => (by rw [HBB.out] at h9; cases h9), setB_below HB.out (Nat.le_succ _) _ _ _ _ _ _ _⟩
  | true =>
   have HSQ := hide (HSP.out W4 HB.out _ (HIP.out.rd.le (by omega)))
   clear HSP
   obtain ⟨sb, hsb⟩ : ∃ b, samePB pm ⟨kp, lb, lr⟩ = b := ⟨_, rfl⟩
   rw [hsb] at HSQ HBB
   clear hsb
   go_wp2_with fail
   refine (HSQ.out).mono ?_
   rintro e v3 ⟨rfl, hb⟩
   replace HIP := hide (HIP.out.step (Stp.of (lo := 0) (hi := 0) hb) (.inl (Nat.zero_le _)))
   have hs5 : W4.heap.size ≤ v3.heap.size := hb.size
   have hb23 : Below v2.heap.size v2 v3 := hb24.trans (hb.mono hs4)
   replace z0 := bC hb z0 zz
   replace z1 := bC hb z1 zz
   replace z2 := bC hb z2 zz
   replace z3 := bC hb z3 zz
   replace z4 := bC hb z4 zz
   replace z5 := bC hb z5 zz
   replace z6 := bC hb z6 zz
   replace zz := Nat.lt_of_lt_of_le zz hb.size
   replace r0 := bC hb r0 zr
   replace r1 := bC hb r1 zr
   replace r2 := bC hb r2 zr
   replace r3 := bC hb r3 zr
   replace r4 := bC hb r4 zr
   replace r5 := bC hb r5 zr
   replace r6 := bC hb r6 zr
   replace fr0 := bF hb fr0 zr
   replace fr1 := bF hb fr1 zr
   replace fr2 := bF hb fr2 zr
   replace fr3 := bF hb fr3 zr
   replace fr4 := bF hb fr4 zr
   replace fr5 := bF hb fr5 zr
   replace fr6 := bF hb fr6 zr
   replace zr := Nat.lt_of_lt_of_le zr hb.size
   replace p0 := bC hb p0 zp
   replace p1 := bC hb p1 zp
   replace p2 := bC hb p2 zp
   replace zp := Nat.lt_of_lt_of_le zp hb.size
   replace t0 := bC hb t0 zt
   replace zt := Nat.lt_of_lt_of_le zt hb.size
   replace HB := hide (HB.out.trans (hb.mono HB.out.size))
   clear hb
   cases sb with
   | false =>
    go_wp2
    refine bodyPost_ret (v := .tuple #[balr (.slice none 0 0) 0 (.slice none 0 0) 0 0 (.slice none 0 0) (.slice none 0 0), .bool false]) (by simp [results, Tryz.results90, go_sem, r0, r1, r2, r3, r4, r5, r6]) rfl ⟨none, 0, 0, 0, none, 0, 0, 0, 0, none, 0, 0, none, 0, 0, by rw [HBB.out]; rfl, fun h9 => (by rw [HBB.out] at h9; cases h9), setB_below HB.out (Nat.le_succ _) _ _ _ _ _ _ _⟩
   | true =>
    have hne0 : w.heap.size ≠ w.heap.size + 1 := by omega
    have hne1 : v1.heap.size ≠ w.heap.size + 1 := by omega
    have hne2 : v2.heap.size ≠ w.heap.size + 1 := by omega
    go_wp2
    go_region_held3 (fun w' => w'.cell? ⟨v2.heap.size, 0, none⟩ = some (.slice ho hn hc) ∧ w'.cell? ⟨w.heap.size, 0, none⟩ = some (.int .i64 kj) ∧ w'.cell? ⟨w.heap.size, 1, none⟩ = some (.slice o nj c) ∧ w'.cell? ⟨w.heap.size, 2, none⟩ = some (.int .i64 sj) ∧ w'.cell? ⟨v1.heap.size, 0, none⟩ = some (.int .i64 pk) ∧ w'.cell? ⟨v1.heap.size, 1, none⟩ = some (.slice po pn pc) ∧ w'.cell? ⟨v1.heap.size, 2, none⟩ = some (.slice qo qn qc)) (first | with_reducible exact ⟨t0, z0, z1, z2, p0, p1, p2⟩ | with_reducible exact ⟨kt0, kz0, kz1, kz2, kp0, kp1, kp2⟩ | with_reducible exact hks _ _ _ _ _ _ _ | go_keep) (first | (go_at_call 206; (with_reducible refine (HCJ.out v3.drew (Below.drew HB.out)).mono ?_); rintro e v4 ⟨o2, c2, rfl, ow2, hq0⟩; have hx : Below v3.heap.size v3 v4 := (Below.drew (Below.refl _ _)).trans hq0; have kt0 := bC hx t0 zt; have kz0 := bC hx z0 zz; have kz1 := bC hx z1 zz; have kz2 := bC hx z2 zz; have kp0 := bC hx p0 zp; have kp1 := bC hx p1 zp; have kp2 := bC hx p2 zp; have rr0 := bC hx r0 zr; have rf0 := bF hx fr0 zr; have rr1 := bC hx r1 zr; have rf1 := bF hx fr1 zr; have rr2 := bC hx r2 zr; have rf2 := bF hx fr2 zr; have rr3 := bC hx r3 zr; have rf3 := bF hx fr3 zr; have rr4 := bC hx r4 zr; have rf4 := bF hx fr4 zr; have rr5 := bC hx r5 zr; have rf5 := bF hx fr5 zr; have rr6 := bC hx r6 zr; have rf6 := bF hx fr6 zr; have hks := (fun x0 x1 x2 x3 x4 x5 x6 => And.intro (setB_cell kt0 hne2 x0 x1 x2 x3 x4 x5 x6) (And.intro (setB_cell kz0 hne0 x0 x1 x2 x3 x4 x5 x6) (And.intro (setB_cell kz1 hne0 x0 x1 x2 x3 x4 x5 x6) (And.intro (setB_cell kz2 hne0 x0 x1 x2 x3 x4 x5 x6) (And.intro (setB_cell kp0 hne1 x0 x1 x2 x3 x4 x5 x6) (And.intro (setB_cell kp1 hne1 x0 x1 x2 x3 x4 x5 x6) (setB_cell kp2 hne1 x0 x1 x2 x3 x4 x5 x6))))))); have HBc := HB.out.trans (hx.mono HB.out.size)))
    have hs6 : v3.heap.size ≤ v4.heap.size := hx.size
    have hb29 : Below v2.heap.size v2 v4 := hb23.trans (hx.mono (Nat.le_trans hs4 hs5))
    replace HIP := hide (HIP.out.step (Stp.of (lo := 0) (hi := 0) hx) (.inl (Nat.zero_le _)))
    replace HB := hide HBc
    have HOJ := hide ow2
    have hdr : v3.drew.heap.size = v3.heap.size := rfl
    have HFI : Hid (InBl w.heap.size (setB v4 (w.heap.size + 1) (.slice ho hn hc) (.int .i64 kj) (.slice o2 nj c2) (.int .i64 sj) (.int .i64 pk) (.slice po pn pc) (.slice qo qn qc)).heap.size (setB v4 (w.heap.size + 1) (.slice ho hn hc) (.int .i64 kj) (.slice o2 nj c2) (.int .i64 sj) (.int .i64 pk) (.slice po pn pc) (.slice qo qn qc)) (balr (.slice ho hn hc) kj (.slice o2 nj c2) sj pk (.slice po pn pc) (.slice qo qn qc)) ⟨kj, lj, sj⟩ pm lt) := by
     have s9 := stp_setB v4 (w.heap.size + 1) (.slice ho hn hc) (.int .i64 kj) (.slice o2 nj c2) (.int .i64 sj) (.int .i64 pk) (.slice po pn pc) (.slice qo qn qc)
     have e9 : pm.key = pk := HPK.out
     obtain ⟨g, hg, hn9, hc9, hw9⟩ := HOH.out (by first | exact HHB.out rfl | exact HHB.out trivial | simpa using HHB.out)
     subst hg hn9 hc9
     refine ⟨_, _, _, _, W2.heap.size, v2.heap.size, by rw [e9], by omega, by omega, by rw [setB_size]; omega, ?_, ?_, ?_⟩
     ·rw [e9]
      exact inPm_wide (HIP.out.step s9 (.inl (by omega))) (by omega) (by omega)
     ·exact InRow.step ((InRow.of hw9).step (Stp.of (lo := 0) (hi := 0) hb29) (.inl (Nat.zero_le _))) s9 (.inl (by omega))
     ·refine ⟨_, rfl, ?_⟩
      have j9 := InRow.step (InRow.of HOJ.out) s9 (.inl (by omega))
      rw [HNJ.out] at j9 ⊢
      exact InRow.mono j9 (by omega) (by rw [setB_size]; exact Nat.le_refl _)
    clear hks hx hq0 HBc ow2 hb23 hb29 t0 kt0 z0 kz0 z1 kz1 z2 kz2 p0 kp0 p1 kp1 p2 kp2 r0 fr0 r1 fr1 r2 fr2 r3 fr3 r4 fr4 r5 fr5 r6 fr6
    go_wp2
    refine bodyPost_ret (v := .tuple #[balr (.slice ho hn hc) kj (.slice o2 nj c2) sj pk (.slice po pn pc) (.slice qo qn qc), .bool true]) (by simp [results, Tryz.results90, go_sem, rr0, rr1, rr2, rr3, rr4, rr5, rr6]) rfl ⟨ho, hn, hc, kj, o2, nj, c2, sj, pk, po, pn, pc, qo, qn, qc, by rw [HBB.out]; rfl, fun _ => (by rw [HPM.out]; exact HFI.out), setB_below HB.out (Nat.le_succ _) _ _ _ _ _ _ _⟩

end Go.Proofs.YtmmhgkkcpjhiiaaGreat

namespace Go.Proofs.YtmmhgkkcpjhiiaaGreat
open Go.ChangeShapes Go.WideShapes Go.ChangeAt Go.RowKit Go.Joins
set_option linter.unusedVariables false
set_option linter.unusedSimpArgs false


theorem movedTo_comm (aa bb : List (List Int)) : ∀ k, movedTo aa bb k = movedTo bb aa k
 | 0 => rfl
 | k + 1 => by
  unfold movedTo
  rw [movedTo_comm aa bb k]
  by_cases h : aa.getD k [] = bb.getD k []
  ·rw [if_pos h, if_pos h.symm]
  ·rw [if_neg h, if_neg (fun e => h e.symm)]
theorem movedI_comm (aa bb : List (List Int)) : movedI aa bb = movedI bb aa := by
 unfold movedI
 by_cases h : aa.length = 8 ∧ bb.length = 8
 ·rw [if_pos h, if_pos h.symm, movedTo_comm]
 ·rw [if_neg h, if_neg (fun e => h e.symm)]
theorem ringSame_comm (R1 R2 : List (List (List Int))) : ringSame R1 R2 = ringSame R2 R1 := by
 unfold ringSame
 by_cases h : R1.length = R2.length
 ·rw [h]
  congr 1
  congr 1
  funext i
  rw [movedI_comm]
 ·rw [decide_eq_false h, decide_eq_false (fun e => h e.symm)]; rfl
theorem samePB_comm (m1 m2 : Pm) : samePB m1 m2 = samePB m2 m1 := by
 unfold samePB
 rw [ringSame_comm, show decide (m1.key = m2.key) = decide (m2.key = m1.key) from decide_eq_decide.2 ⟨Eq.symm, Eq.symm⟩, show decide (m1.l = m2.l) = decide (m2.l = m1.l) from decide_eq_decide.2 ⟨Eq.symm, Eq.symm⟩]
def isL (s : Sl) : Bool := decide (s.v < 6)
theorem slotB_v {s : Sl} (h : slotB s = true) : 0 ≤ s.v := by
 unfold slotB at h
 split at h
 ·simp only [Bool.and_eq_true, decide_eq_true_eq] at h; exact h.1.1.1.2
 ·simp only [Bool.and_eq_true, decide_eq_true_eq] at h; omega
theorem isV_low {l : List Sl} (h : tableOkB l = true) : l.all isV = l.all isL := by
 have h3 := (tableOkB_iff.1 h).2.2
 have hs : ∀ s ∈ l, isV s = isL s := fun s hs => by
  obtain ⟨i, hi, rfl⟩ := List.getElem_of_mem hs
  have h4 := h3 i hi
  unfold tabAt at h4
  rw [Bool.and_eq_true] at h4
  have h5 := slotB_v h4.1
  have e : l.getD i sl0 = l[i] := by simp [hi]
  rw [e] at h5
  unfold isV isL
  rw [decide_eq_true h5]; rfl
 rw [Bool.eq_iff_iff, List.all_eq_true, List.all_eq_true]
 exact ⟨fun q s m => (hs s m) ▸ q s m, fun q s m => (hs s m).symm ▸ q s m⟩
theorem balB_spec (m : Bm) : balB m = (journalB m.j.key m.j.l m.j.safe && (tableOkB m.t && (samePB m.p (replayM m.j) && m.t.all isL))) := by
 unfold balB hintB
 rw [samePB_comm]
 cases ht : tableOkB m.t with
 | false => simp
 | true => rw [isV_low ht]; cases m.t.all isL <;> simp
theorem take_allL (l : List Sl) (k : Nat) (h : k < l.length) : (l.take (k + 1)).all isL = ((l.take k).all isL && isL (l.getD k sl0)) := by
 rw [List.take_succ_eq_append_getElem h, List.all_append]
 simp [h]
theorem all_noL {l : List Sl} {k : Nat} (h : k < l.length) (hv : isL (l.getD k sl0) = false) : l.all isL = false := by
 rw [Bool.eq_false_iff]; intro ha
 rw [List.all_eq_true] at ha
 have := ha (l.getD k sl0) (by simp [h])
 rw [hv] at this; cases this
theorem l4replay_pm (key safe : Int) (o : Option Addr) (n cap : Nat) (cs : List Cd) (w : World) (hn : n = cs.length) (hR : RdC w.heap.size w o cs) (h : journalB key cs safe = true) :
  Calls Tryz.prog 96 #[.int .i64 key, .slice o n cap] w fun e w' => ∃ v, e = .returned v ∧ RdPm w'.heap.size w' v (replayM ⟨key, cs, safe⟩) ∧ Below w.heap.size w w' := by
 subst hn
 have h0 := h
 unfold journalB at h
 simp only [Bool.and_eq_true, decide_eq_true_eq] at h
 refine (l4replay_any key o cap cs w hR h.1.1.1.1 h.1.1.1.2 h.2).mono ?_
 rintro e w' ⟨oB, cB, oR, cR, hs, rfl, owB, owR, pt, hs3, hb⟩
 refine ⟨_, rfl, ?_, hb⟩
 have e9 : replayM ⟨key, cs, safe⟩ = ⟨key, servedOf cs cs.length, ringT key (ringR cs cs.length)⟩ := if_pos h0
 rw [e9]
 exact (GTabs.pm (lo := 0) owB owR (ptabs_g pt)).rd

end Go.Proofs.YtmmhgkkcpjhiiaaGreat

