/- Several texts in one: SPn, SOwn4, SL4b, SPNew, SPf, SMoved, ShP2, SPok, RcP, SJS, SRep, SJCut, SNote, SRepl, SRepl2. -/
import Derived.Deep.RegionHeld3
import Derived.Deep.CutRange
import Derived.Deep.RegionLaw
import Derived.Test.YtajfkcpifnpkeaaGreatQSend25
import Derived.Test.YtajfkcpifnpkeaaGreatQSend17
import Derived.Test.YtajfkcpifnpkeaaGreatQSend22
import Derived.Test.YtajfkcpifnpkeaaGreatQSend26
import Derived.Test.YtajfkcpifnpkeaaGreatQSend24
import Derived.Test.YtajfkcpifnpkeaaGreatQSend21
/- The program's pool as it is told: each list anew. -/
namespace Go.Proofs.YtajfkcpifnpkeaaGreat
open Go.ChangeShapes Go.WideShapes Go.ChangeAt Go.RowKit Go.Joins
set_option linter.unusedVariables false
set_option linter.unusedSimpArgs false

theorem range_pt {W : World} {g : Nat} {f : Pt} (hg : W.heap[g]? = some (.cells (ptA f) 240 (0, 0))) : W.rangeAt g 0 (ptL f) := fun j v hv => by
 rw [Nat.zero_add, cell_of_row _ _ j (ptA f) _ (0, 0) hg]
 simpa [ptA] using hv
theorem range_kept {w w' : World} {b o : Nat} {cs : List Value} (h : w.rangeAt b o cs) (hb : Below w.heap.size w w') (hlt : b < w.heap.size) : w'.rangeAt b o cs := fun j v hv => (hb.cell (p := ⟨b, o + j, none⟩) hlt).trans (h j v hv)
theorem range_far {w : World} {b o B : Nat} {cs : List Value} (h : w.rangeAt b o cs) (hne : b ≠ B) (j : Nat) (u : Value) : (w.setCell ⟨B, j, none⟩ u).rangeAt b o cs := fun i v hv => (cell_far hne).trans (h i v hv)
theorem range_grown {w w' : World} {b o : Nat} {cs : List Value} {r : Option Nat} (h : w.rangeAt b o cs) (hg : w.grownBy w' r) (hlt : b < w.heap.size) (hne : some b ≠ r) : w'.rangeAt b o cs := fun j v hv => by
 have h1 := h j v hv
 have h2 := hg.block b hlt hne
 simp only [World.cell?, h2] at h1 ⊢
 exact h1
theorem setQ_size (W : World) (B : Nat) (x y z : Value) : (setP W B x y z).heap.size = W.heap.size := by simp [World.setCell]
theorem finK {cur W : World} {B : Nat} {key : Int} {o2 : Option Addr} {c2 : Nat} {l : List Bk} {z0 z1 z2 : Value} (hZ : W.heap[B]? = some (.cells #[z0, z1, z2] 41 (0, 0))) (hx : Below cur.heap.size cur W) (hB : cur.heap.size ≤ B) (ho : ownK W cur.heap.size (.slice o2 l.length c2) l) :
  ∃ B' o' c', Value.pointer (some ⟨B, 0, none⟩) = .pointer (some ⟨B', 0, none⟩) ∧ Hid ((setP W B (.int .i64 key) (.slice o2 l.length c2) (.slice none 0 0)).heap[B']? = some (.cells #[.int .i64 key, .slice o' l.length c', .slice none 0 0] 41 (0, 0))) ∧ Hid (Below cur.heap.size cur (setP W B (.int .i64 key) (.slice o2 l.length c2) (.slice none 0 0))) ∧ cur.heap.size ≤ B' ∧ B' < (setP W B (.int .i64 key) (.slice o2 l.length c2) (.slice none 0 0)).heap.size ∧ Hid (ownK (setP W B (.int .i64 key) (.slice o2 l.length c2) (.slice none 0 0)) cur.heap.size (.slice o' l.length c') l) := by
 have b1 := box_put hZ 0 (.int .i64 key)
 have b2 := box_put b1 1 (.slice o2 l.length c2)
 have b3 := box_put b2 2 (.slice none 0 0)
 exact ⟨B, o2, c2, rfl, b3, setQ_below hx hB _ _ _, hB, (Array.getElem?_eq_some_iff.1 b3).1, own_putB (own_putB (own_putB ho hZ neP4 0 _) b1 neP4 1 _) b2 neP4 2 _⟩
theorem finKn {cur W : World} {key : Int} {o2 : Option Addr} {c2 : Nat} {l : List Bk} (hx : Below cur.heap.size cur W) (ho : ownK W cur.heap.size (.slice o2 l.length c2) l) :
  ∃ B' o' c', Value.pointer (some ⟨W.heap.size, 0, none⟩) = .pointer (some ⟨B', 0, none⟩) ∧ Hid ((W.alloc (.cells #[.int .i64 key, .slice o2 l.length c2, .slice none 0 0] 41)).heap[B']? = some (.cells #[.int .i64 key, .slice o' l.length c', .slice none 0 0] 41 (0, 0))) ∧ Hid (Below cur.heap.size cur (W.alloc (.cells #[.int .i64 key, .slice o2 l.length c2, .slice none 0 0] 41))) ∧ cur.heap.size ≤ B' ∧ B' < (W.alloc (.cells #[.int .i64 key, .slice o2 l.length c2, .slice none 0 0] 41)).heap.size ∧ Hid (ownK (W.alloc (.cells #[.int .i64 key, .slice o2 l.length c2, .slice none 0 0] 41)) cur.heap.size (.slice o' l.length c') l) :=
 ⟨W.heap.size, o2, c2, rfl, World.alloc_heap_new W _, hx.alloc hx.size _, hx.size, by simp, own_kept ho ((Below.refl _ _).alloc (Nat.le_refl _) _)⟩
theorem Rw.grow {α : Type} {Q : Nat → Nat → World → Value → α → Prop} {d : α} {xs : List α} {a b : Nat} {w w' : World} {hs : List Hd} {L H : Nat → Nat} {r : Option Nat} (hQ : Stps Q) (h : Rw Q d xs a b w hs L H) (hg : w.grownBy w' r) (ho : ∀ i, i < xs.length → ∀ g, r = some g → g < L i ∨ H i ≤ g) : Rw Q d xs a b w' hs L H := by
 cases r with
 | none => exact h.step hQ (Stp.grown (lo := 0) (hi := 0) hg (fun b e => by cases e)) (fun i _ => .inl (Nat.zero_le _))
 | some g => exact h.step hQ (Stp.grown (lo := g) (hi := g + 1) hg (fun b e => by injection e with e; omega)) (fun i hi => by have := ho i hi g rfl; omega)
theorem rd_oneH {w : World} {o : Option Addr} {n c : Nat} {T : TypeId} : RdL layH (w.alloc (.cells #[.slice o n c] T)).heap.size (w.alloc (.cells #[.slice o n c] T)) (some ⟨w.heap.size, 0, none⟩) [(o, n, c)] :=
 .inr ⟨w.heap.size, 0, rfl, by simp, fun i hi j hj => by
  have e1 : i = 0 := by simpa using hi
  subst e1
  match j, hj with
  | 0, _ => simp [layH]⟩
theorem RdL.range {w : World} {b off : Nat} {fs : List Pt} (h : ∀ i, i < fs.length → ∀ j, j < layT.k → w.cell? ⟨b, off + i * layT.k + j, none⟩ = (layT.cs (fs.getD i layT.d))[j]?) (i : Nat) (hi : i < fs.length) : w.rangeAt b (off + i * 24) (ptL (fs.getD i ptZ)) := fun j v hv => by
 have hj : j < 24 := by have := (List.getElem?_eq_some_iff.1 hv).1; rw [ptL_len] at this; exact this
 exact (h i hi j hj).trans hv
theorem rd_stp {B : Nat} {w wc wr : World} {oR : Option Addr} {fs : List Pt} (h : RdL layT w.heap.size w oR fs) (hb : Below w.heap.size w wc) (s : Stp B (B + 1) wc wr) (hB : w.heap.size ≤ B) : RdL layT w.heap.size wr oR fs := by
 rcases h with h | ⟨b, off, ho, hlt, r⟩
 ·exact .inl h
 ·refine .inr ⟨b, off, ho, hlt, fun i hi j hj => ?_⟩
  have h1 := (hb.cell (p := ⟨b, off + i * layT.k + j, none⟩) hlt).trans (r i hi j hj)
  have hl : (layT.cs (fs.getD i layT.d)).length = layT.k := layT.len _
  rw [List.getElem?_eq_getElem (by omega)] at h1 ⊢
  exact s.cellP h1 (.inl (show b < B by omega))
theorem all_take {mid hi cQ : Nat} {wr : World} {oQ : Option Addr} {hs : List Hd} {L H : Nat → Nat} {fs : List Pt} {n : Nat} (hn : n = fs.length) (h : Rw InT [] ((fs.map ptLL).take n) mid hi wr hs L H) (ho : ownL layH 152 wr mid (.slice oQ n cQ) hs) : ownL layH 152 wr mid (.slice oQ n cQ) hs ∧ Rw InT [] (fs.map ptLL) mid hi wr hs L H := by
 rw [hn, show fs.length = (fs.map ptLL).length by simp, List.take_length] at h
 exact ⟨ho, h⟩
theorem out_len {oQ : Option Addr} {n cQ : Nat} {L H : Nat → Nat} {fs : List Pt} (hn : n = fs.length) (h : outB (.slice oQ n cQ) n L H) : outB (.slice oQ n cQ) (fs.map ptLL).length L H := by
 rw [List.length_map, ← hn]; exact h
theorem stp_setQ (W : World) (B : Nat) (x y z : Value) : Stp B (B + 1) W (setP W B x y z) := ((stp_set W B 0 x).trans (stp_set _ B 1 y)).trans (stp_set _ B 2 z)
theorem take_map (fs : List Pt) (i : Nat) (h : i < fs.length) : (fs.map ptLL).take (i + 1) = (fs.map ptLL).take i ++ [ptLL (fs.getD i ptZ)] := by
 have hk : i < (fs.map ptLL).length := by rw [List.length_map]; exact h
 rw [List.take_succ_eq_append_getElem hk]
 simp [h]
/-- The tables so far, behind one more. -/
theorem Rw.more {v1 w8 : World} {mid b0 l2 n : Nat} {hs : List Hd} {L H : Nat → Nat} {xs : List (List (List Int))} {x : List (List Int)} {o4 oQ : Option Addr} {cQ n4 c4 : Nat} {O : Obj} (h : Rw InT [] xs mid b0 v1 hs L H) (hxn : xs.length = n) (hb : b0 ≤ l2) (hm : mid ≤ l2) (hl : l2 ≤ v1.heap.size) (q : InT l2 v1.heap.size v1 (.slice o4 n4 c4) x) (hout : outB (.slice oQ n cQ) n L H) (hlt : ∀ g, (Value.slice oQ n cQ).ownBlock = some g → g < b0) (hg : (v1.alloc O).grownBy w8 (Value.slice oQ n cQ).ownBlock) :
  Rw InT [] (xs ++ [x]) mid w8.heap.size w8 (hs ++ [(o4, n4, c4)]) (fun i => if i < n then L i else l2) (fun i => if i < n then H i else v1.heap.size) := by
 subst hxn
 have h1 := h.snoc hb hm hl q
 have h2 := h1.kept InT.stp ((Below.refl v1.heap.size v1).alloc (Nat.le_refl _) O)
 have hsz := hg.size
 rw [World.size_alloc] at hsz
 refine (h2.grow InT.stp hg (fun i hi g e => ?_)).mono (Nat.le_refl _) (by omega)
 by_cases hi' : i < xs.length
 ·simp only [hi', if_true]; exact hout i hi' g e
 ·simp only [hi', if_false]; have := hlt g e; omega
theorem stp_more {B : Nat} {wc v1 w8 : World} {O : Obj} {r : Option Nat} (s : Stp B (B + 1) wc v1) (hg : (v1.alloc O).grownBy w8 r) (hr : ∀ g, r = some g → wc.heap.size ≤ g) : Stp B (B + 1) wc w8 := by
 have hs := s.size
 have h1 := hg.size
 rw [World.size_alloc] at h1
 refine ⟨hg.os.trans s.os, hg.tape.trans s.tape, hg.output.trans s.output, by omega, fun k hk hn => ?_⟩
 exact (hg.block k (by simp; omega) (fun e => by have := hr k e.symm; omega)).trans ((Below.heap_alloc v1 O k (by omega)).trans (s.block k hk hn))
theorem InPm.mono {lo lo' hi : Nat} {w : World} {v : Value} {m : Pm} (h : InPm lo hi w v m) (hl : lo' ≤ lo) : InPm lo' hi w v m := by
 obtain ⟨vb, vr, mid, e, k1, k2, h1, h2⟩ := h
 exact ⟨vb, vr, mid, e, by omega, k2, InRow.mono h1 hl (Nat.le_refl _), h2⟩
theorem neBR : (150 : TypeId) ≠ 152 := by decide
theorem out_more {v1 : World} {b0 l2 : Nat} {L H : Nat → Nat} {n : Nat} {oQ o8 : Option Addr} {cQ c8 : Nat} {O : Obj} (hout : outB (.slice oQ n cQ) n L H) (hH : ∀ i, i < n → H i ≤ b0) (hb : b0 ≤ l2) (hl : l2 ≤ v1.heap.size) (hlt : ∀ g, (Value.slice oQ n cQ).ownBlock = some g → g < b0) (hn : (Value.slice o8 (n + 1) c8).ownBlock = (Value.slice oQ n cQ).ownBlock ∨ (Value.slice o8 (n + 1) c8).ownBlock = some (v1.alloc O).heap.size) :
  outB (.slice o8 (n + 1) c8) (n + 1) (fun i => if i < n then L i else l2) (fun i => if i < n then H i else v1.heap.size) := fun i hi g e => by
 rcases hn with hn | hn
 ·rw [hn] at e
  by_cases hi' : i < n
  ·simp only [hi', if_true]; exact hout i hi' g e
  ·simp only [hi', if_false]; have := hlt g e; omega
 ·rw [hn, World.size_alloc] at e
  have e' : v1.heap.size + 1 = g := Option.some.inj e
  by_cases hi' : i < n
  ·simp only [hi', if_true]; have := hH i hi'; omega
  ·simp only [hi', if_false]; omega

set_option maxRecDepth 100000 in
set_option maxHeartbeats 8000000 in
theorem plain_go (key : Int) (o : Option Addr) (cap : Nat) (l : List Bk) (oR : Option Addr) (cR : Nat) (fs : List Pt) (n : Nat) (hnn : n = fs.length) (w : World) (hR : RdK w.heap.size w o l) (hn : o = none → cap = 0) (hlen : l.length ≤ 1048576) (hG : RdL layT w.heap.size w oR fs) (hf3 : n ≤ 1048576) :
  Calls Tryz.prog 165 #[polv key (.slice o l.length cap) (.slice oR n cR)] w fun e w' => ∃ v, e = .returned v ∧ InPm w.heap.size w'.heap.size w' v ⟨key, l, fs.map ptLL⟩ ∧ Below w.heap.size w w' := by
 have HNN := hide hnn
 clear hnn
 obtain ⟨W0, hW0⟩ : ∃ W, ((w.alloc (.cells #[.int .i64 key, .slice o l.length cap, .slice oR n cR] 213)).alloc (.cells #[.int .i64 0, .slice none 0 0, .slice none 0 0] 41)) = W := ⟨_, rfl⟩
 have hb_W0 : Below w.heap.size w W0 := by rw [← hW0]; exact (((Below.refl _ _).alloc (Nat.le_refl _) _).alloc (by simp <;> omega) _)
 have HB := hide hb_W0
 clear hb_W0
 have zz : w.heap.size < W0.heap.size := by rw [← hW0]; simp <;> omega
 have z0 : W0.cell? ⟨w.heap.size, 0, none⟩ = some (.int .i64 key) := by rw [← hW0]; simp [go_sem]
 have z1 : W0.cell? ⟨w.heap.size, 1, none⟩ = some (.slice o l.length cap) := by rw [← hW0]; simp [go_sem]
 have z2 : W0.cell? ⟨w.heap.size, 2, none⟩ = some (.slice oR n cR) := by rw [← hW0]; simp [go_sem]
 have zr : w.heap.size + 1 < W0.heap.size := by rw [← hW0]; simp
 have r0 : W0.cell? ⟨w.heap.size + 1, 0, none⟩ = some (.int .i64 0) := by rw [← hW0]; simp [go_sem]
 have r1 : W0.cell? ⟨w.heap.size + 1, 1, none⟩ = some (.slice none 0 0) := by rw [← hW0]; simp [go_sem]
 have r2 : W0.cell? ⟨w.heap.size + 1, 2, none⟩ = some (.slice none 0 0) := by rw [← hW0]; simp [go_sem]
 have fr0 : W0.frozen? ⟨w.heap.size + 1, 0, none⟩ = false := by rw [← hW0]; simp [go_sem]
 have fr1 : W0.frozen? ⟨w.heap.size + 1, 1, none⟩ = false := by rw [← hW0]; simp [go_sem]
 have fr2 : W0.frozen? ⟨w.heap.size + 1, 2, none⟩ = false := by rw [← hW0]; simp [go_sem]
 have HR0 := hide (show W0.heap[w.heap.size + 1]? = some (.cells #[.int .i64 0, .slice none 0 0, .slice none 0 0] 41 (0, 0)) by rw [← hW0]; exact box_new2 w _ _ _)
 have hzr := zr
 have hzz0 := zz
 have HCL := hide (fun W (hb : Below W0.heap.size W0 W) => cloneBacks_any o cap l W ((hR.kept (HB.out.trans (hb.mono HB.out.size)) (Nat.le_refl _)).le (Nat.le_trans HB.out.size hb.size)) hn hlen)
 have HG := hide hG
 clear hR hG
 go_enter Tryz.func165, Tryz.ntmps165
 go_upto_region 1 with fail
 go_cut [3] from 6 to 11 (fun s3 wx => ∃ B o2 c2, s3 = .pointer (some ⟨B, 0, none⟩) ∧ Hid (wx.heap[B]? = some (.cells #[.int .i64 key, .slice o2 l.length c2, .slice none 0 0] 41 (0, 0))) ∧ Hid (Below W0.heap.size W0 wx) ∧ W0.heap.size ≤ B ∧ B < wx.heap.size ∧ Hid (ownK wx W0.heap.size (.slice o2 l.length c2) l))
 case first =>
  go_region_held3 (fun w' => w'.cell? ⟨w.heap.size, 0, none⟩ = some (.int .i64 key) ∧ w'.cell? ⟨w.heap.size, 1, none⟩ = some (.slice o l.length cap)) (first | with_reducible exact ⟨k0_0, k0_1⟩ | with_reducible exact ⟨z0, z1⟩ | with_reducible exact ⟨setP_cell k0_0 zz, setP_cell k0_1 zz⟩ | go_keep) (first | (go_at_call 203; have hc_ := HCL.out W0.drew (Below.drew (Below.refl _ _)); with_reducible refine hc_.mono ?_; clear hc_; rintro e x0 ⟨v2, rfl, ow2, hb⟩; have hp0 : Below W0.heap.size W0 x0 := Below.trans (show Below W0.heap.size W0 W0.drew from (Below.drew (Below.refl _ _))) (hb.mono (by simp)); have sp0 := hp0.size; obtain ⟨o2, c2, e2, _⟩ := ownL.open (L := layK) ow2; subst e2; have ow2 := own_mono ow2 (show W0.heap.size ≤ _ by (try simp)); have k0_0 := bC hp0 z0 zz; have k0_1 := bC hp0 z1 zz; clear hb) | (go_at_call 203; have hc_ := HCL.out (W0.alloc (.cells #[.int .i64 0, .slice none 0 0, .slice none 0 0] 41)).drew (Below.drew ((Below.refl _ _).alloc (Nat.le_refl _) _)); with_reducible refine hc_.mono ?_; clear hc_; rintro e x0 ⟨v2, rfl, ow2, hb⟩; have hp0 : Below W0.heap.size W0 x0 := Below.trans (show Below W0.heap.size W0 (W0.alloc (.cells #[.int .i64 0, .slice none 0 0, .slice none 0 0] 41)).drew from (Below.drew ((Below.refl _ _).alloc (Nat.le_refl _) _))) (hb.mono (by simp)); have sp0 := hp0.size; obtain ⟨o2, c2, e2, _⟩ := ownL.open (L := layK) ow2; subst e2; have ow2 := own_mono ow2 (show W0.heap.size ≤ _ by (try simp)); have k0_0 := bC hp0 z0 zz; have k0_1 := bC hp0 z1 zz; have hZa := box_newA hb; have hzla := (Array.getElem?_eq_some_iff.1 hZa).1; have hzc_0 := bx_cell hZa 0 _ rfl; have hzf_0 := bx_frozen hZa 0; have hzc_1 := bx_cell hZa 1 _ rfl; have hzf_1 := bx_frozen hZa 1; have hzc_2 := bx_cell hZa 2 _ rfl; have hzf_2 := bx_frozen hZa 2; clear hb))
  all_goals (go_wp2_with fail; go_meet)
  all_goals first
   | with_reducible exact finK hZa hp0 (Nat.le_refl _) ow2
   | with_reducible exact finKn hp0 ow2
 case rest =>
  obtain ⟨B, o2, c2, rfl, Hbx, Hbl, hB1, hB2, Hob⟩ := hcut
  have hb := Hbl.out
  have hwc := hb.size
  have HBLK := hide (hb.block _ hzr)
  clear Hbl
  replace z0 := bC hb z0 zz
  replace z1 := bC hb z1 zz
  replace z2 := bC hb z2 zz
  replace zz := Nat.lt_of_lt_of_le zz hb.size
  replace r0 := bC hb r0 zr
  replace r1 := bC hb r1 zr
  replace r2 := bC hb r2 zr
  replace fr0 := bF hb fr0 zr
  replace fr1 := bF hb fr1 zr
  replace fr2 := bF hb fr2 zr
  replace zr := Nat.lt_of_lt_of_le zr hb.size
  replace HB := hide (HB.out.trans (hb.mono HB.out.size))
  clear hb
  have HRB := hide ((HBLK.out).trans HR0.out)
  have HBC := HB
  have HLB := hide (fun b (e : (Value.slice o2 l.length c2).ownBlock = some b) => (Hob.out.lt b e).2)
  have hz2c := z2
  have hr0c := r0
  have hr1c := r1
  have hr2c := r2
  have hf0c := fr0
  have hf1c := fr1
  have hf2c := fr2
  clear z0 z1 r0 r1 r2 fr0 fr1 fr2
  go_wp2
  go_loopw [15] (fun iv wr => ∃ (i : Nat) (hs : List Hd) (L H : Nat → Nat) (oQ : Option Addr) (cQ : Nat), i ≤ n ∧ iv = .int .i64 (i : Int) ∧ Hid (wr.heap[B]? = some (.cells #[.int .i64 key, .slice o2 l.length c2, .slice oQ i cQ] 41 (0, 0))) ∧ Hid (ownL layH 152 wr wc.heap.size (.slice oQ i cQ) hs) ∧ Hid (Rw InT [] ((fs.map ptLL).take i) wc.heap.size wr.heap.size wr hs L H) ∧ Hid (outB (.slice oQ i cQ) i L H) ∧ Hid (ownK wr W0.heap.size (.slice o2 l.length c2) l) ∧ wc.heap.size ≤ wr.heap.size ∧ Hid (Stp B (B + 1) wc wr))
   (fun iv _ => n - (intOf iv).toNat)
  case atStart => exact ⟨0, [], fun _ => 0, fun _ => 0, none, 0, Nat.zero_le _, rfl, Hbx.out, World.ownsRow_nil _ _ _ _, by rw [List.take_zero]; exact Rw.nil _ _ _ _ _ _ _, fun i hi => absurd hi (Nat.not_lt_zero _), Hob.out, Nat.le_refl _, Stp.refl _⟩
  case round =>
   obtain ⟨i, hs, L, H, oQ, cQ, hi', rfl, HBX, HOW, HRW, HOUT, HOB, hsr, HST⟩ := hrel
   have hzB : B ≠ w.heap.size := by omega
   have hBr : B ≠ w.heap.size + 1 := by omega
   have HCELL := hide (fun (p : Addr) u (hp : p.block < W0.heap.size) (h : wc.cell? p = some u) => HST.out.cellP h (by omega))
   by_cases hlt : i < n
   ·skip
    have hlt' : (i : Int) < (n : Int) := by omega
    skip
    have hif : i < fs.length := by rw [← HNN.out]; exact hlt
    have HRD := hide (show RdL layT w.heap.size wr oR fs from rd_stp HG.out HBC.out HST.out (show w.heap.size ≤ B by omega) )
    rcases HRD.out with hh | ⟨b, off, rfl, hbl, hrow⟩
    ·rw [hh] at hif; exact absurd hif (Nat.not_lt_zero _)
    have HRG := hide (RdL.range hrow i hif)
    have HTK := hide (take_map fs i hif)
    clear hrow HRD
    obtain ⟨f, hf⟩ : ∃ f, fs.getD i ptZ = f := ⟨_, rfl⟩
    rw [hf] at HRG HTK
    clear hf
    obtain ⟨W2, hW2⟩ : ∃ W, wr.alloc (.cells (ptA f) 240) = W := ⟨_, rfl⟩
    have hb2 : Below wr.heap.size wr W2 := by rw [← hW2]; exact (Below.refl _ _).alloc (Nat.le_refl _) _
    have hz5 : W2.heap[wr.heap.size]? = some (.cells (ptA f) 240 (0, 0)) := by rw [← hW2]; exact World.alloc_heap_new wr _
    have hx2 := (hb2.block B (by omega)).trans HBX.out
    have hx2l := (Array.getElem?_eq_some_iff.1 hx2).1
    have HRA := hide (show W2.rangeAt wr.heap.size 0 (ptL f) from range_pt hz5)
    clear hz5
    have p2 : W2.cell? ⟨B, 2, none⟩ = some (.slice oQ i cQ) := bx_cell hx2 2 _ rfl
    have HX2 := hide hx2
    have HOW2 := hide (own_kept HOW.out hb2)
    have HRW2 := hide (HRW.out.kept InT.stp hb2)
    have HOB2 := hide (own_kept HOB.out hb2)
    have HST2 := hide (HST.out.trans (Stp.of hb2))
    have hs2 : wr.heap.size ≤ W2.heap.size := hb2.size
    have HLT := hide (fun g (e : (Value.slice oQ i cQ).ownBlock = some g) => (HOW.out.lt g e).2)
    have HHI := hide (fun j (hj : j < i) => (HRW.out.bd j (by rw [List.length_take, List.length_map]; omega)).2)
    have HLN := hide (show ((fs.map ptLL).take i).length = i by rw [List.length_take, List.length_map]; omega)
    clear hb2 hx2 HOW HRW HOB
    go_wp2_with (first | (refine wpList_load_mid rfl 240 (.tmp 17) rfl b (off + i * 24) rfl (ptL f) _ HRG.out ptU rfl ptI ?_) | (refine wpList_store_pt rfl (.tmp 5) (.tmp 18) rfl wr.heap.size f ptZ rfl rfl (World.alloc_heap_new wr _) ?_; rw [World.setRow_alloc_new, hW2]))
    skip
    have HHL := hide (show hs.length = i by have := HRW2.out.len; rw [HLN.out] at this; exact this)
    have HNB := hide (fun g (e : (Value.slice oQ i cQ).ownBlock = some g) => (HOW2.out.lt g e).1)
    refine wp_region_held_drew (S := fun w' => w'.rangeAt wr.heap.size 0 (ptL f)) (by kernel_rfl) HRA.out (fun hHeld => ?_)
    refine wpAnyH_take (i := 2) (oi := _) (v := ptv f) rfl (by kernel_rfl) (by kernel_rfl) (by kernel_rfl) (fun _ _ _ h => h) (yieldsIf_load_mid (by rfl) _ _ rfl wr.heap.size 0 rfl (ptL f) _ (fun w h => h) ptU rfl ptI) hHeld ?_
    try simp only [Act.put, List.setIfInBounds_toArray, List.set_cons_zero, List.set_cons_succ]
    refine wpAnyH_take (i := 0) (oi := _) (v := .pointer (some ⟨B, 2, none⟩)) rfl (by kernel_rfl) (by kernel_rfl) (by kernel_rfl) (fun _ _ _ h => h) (Or.inl ⟨by rfl, fun w _ => by go_simp⟩) hHeld ?_
    try simp only [Act.put, List.setIfInBounds_toArray, List.set_cons_zero, List.set_cons_succ]
    have ra0 : W2.drew.rangeAt wr.heap.size 0 (ptL f) := HRA.out
    have hzw : wr.heap.size < W2.heap.size := by rw [← hW2]; simp
    refine wpAnyH_ready (rs := [1, 3]) (by kernel_rfl) (by simp) ?_
    refine AllReadyH.cons rfl (fun K hK => ?_) ?_
    ·skip
     go_simp
     refine hK.out _ _ ra0 (fun hHeld => ?_)
     clear hK K
     try simp only [Act.put, List.setIfInBounds_toArray, List.set_cons_zero, List.set_cons_succ]
     refine wpAnyH_ready (rs := [3]) (by kernel_rfl) (by simp) ?_
     refine AllReadyH.cons rfl (fun K hK => ?_) ?_
     ·skip
      go_simp
      go_at_call 204
      refine (lists_any f _).mono ?_
      rintro e v1 ⟨v4, rfl, it4, hb4⟩
      replace hb4 : Below W2.heap.size W2 v1 := (Below.drew (Below.refl _ _)).trans hb4
      replace it4 : InT W2.heap.size v1.heap.size v1 v4 (ptLL f) := it4
      obtain ⟨o4, c4, e4, _⟩ := RiT.rd (InT.ri it4)
      rw [ptLL_len] at e4
      subst e4
      have hx4 := (hb4.block B hx2l).trans HX2.out
      have hx4l := (Array.getElem?_eq_some_iff.1 hx4).1
      have p4 : v1.cell? ⟨B, 2, none⟩ = some (.slice oQ i cQ) := bx_cell hx4 2 _ rfl
      have p4a : ∀ O, (v1.alloc O).cell? ⟨B, 2, none⟩ = some (.slice oQ i cQ) := (fun O => ((Below.refl v1.heap.size v1).alloc (Nat.le_refl _) O).cell (p := ⟨B, 2, none⟩) hx4l |>.trans p4)
      have hs4 := hb4.size
      have HOW4 := hide (own_kept HOW2.out hb4)
      have HRW4 := hide (HRW2.out.kept InT.stp hb4)
      have HOB4 := hide (own_kept HOB2.out hb4)
      have HST4 := hide (HST2.out.trans (Stp.of hb4))
      have HIT := hide it4
      have ra1 : v1.rangeAt wr.heap.size 0 (ptL f) := range_kept HRA.out hb4 hzw
      have HX4 := hide hx4
      clear it4 hb4 hx4
      go_wp2_with fail
      refine hK.out _ _ ra1 (fun hHeld => ?_)
      clear hK K
      try simp only [Act.put, List.setIfInBounds_toArray, List.set_cons_zero, List.set_cons_succ]
      refine wpAnyH_ready (rs := [4]) (by kernel_rfl) (by simp) ?_
      refine AllReadyH.cons rfl (fun K hK => ?_) ?_
      ·skip
       go_simp
       refine hK.out _ _ (range_kept ra1 ((Below.refl v1.heap.size v1).alloc (Nat.le_refl _) (.cells #[.slice o4 8 c4] 152)) (by omega)) (fun hHeld => ?_)
       clear hK K
       try simp only [Act.put, List.setIfInBounds_toArray, List.set_cons_zero, List.set_cons_succ]
       refine wpAnyH_ready (rs := [5]) (by kernel_rfl) (by simp) ?_
       refine AllReadyH.cons rfl (fun K hK => ?_) ?_
       ·skip
        refine step_append_lay appHT rfl (.tmp 20) (.tmp 23) rfl wc.heap.size (.slice oQ i cQ) hs rfl (HOW4.out.alloc (.cells #[.slice o4 8 c4] 152)) (some ⟨v1.heap.size, 0, none⟩) 1 _ [(o4, 8, c4)] 1 rfl rfl (by simp) rd_oneH (by rw [HHL.out]; simp; omega) (by simp; omega) ?_
        intro v8 w8 ho8 hg8 hn8
        obtain ⟨o8, c8, e8, _⟩ := ownL.open (L := layH) ho8
        have hl8 : (hs ++ [((o4, 8, c4) : Hd)]).length = i + 1 := (by rw [List.length_append, HHL.out]; rfl)
        rw [hl8] at e8
        subst e8
        have hx8 := (hg8.block B (by simp; omega) (fun e => by have := HLT.out B e.symm; have := HNB.out B e.symm; omega)).trans ((Below.heap_alloc _ _ _ hx4l).trans HX4.out)
        have p8 : w8.cell? ⟨B, 2, none⟩ = some (.slice oQ i cQ) := bx_cell hx8 2 _ rfl
        have f8 := bx_frozen hx8 2
        have ra3 : w8.rangeAt wr.heap.size 0 (ptL f) := range_grown (range_kept ra1 ((Below.refl v1.heap.size v1).alloc (Nat.le_refl _) _) (by omega)) hg8 (by simp; omega) (fun e => by have := HLT.out _ e.symm; omega)
        have HX8 := hide hx8
        have HO8 := hide ho8
        have HG8 := hide hg8
        have HN8 := hide hn8
        clear ho8 hg8 hn8 hx8
        refine hK.out _ _ ra3 (fun hHeld => ?_)
        clear hK K
        try simp only [Act.put, List.setIfInBounds_toArray, List.set_cons_zero, List.set_cons_succ]
        refine wpAnyH_take (i := 6) (oi := _) (v := .pointer (some ⟨B, 2, none⟩)) rfl (by kernel_rfl) (by kernel_rfl) (by kernel_rfl) (fun _ _ _ h => h) (Or.inl ⟨by rfl, fun w _ => by go_simp⟩) hHeld ?_
        try simp only [Act.put, List.setIfInBounds_toArray, List.set_cons_zero, List.set_cons_succ]
        refine wpAnyH_ready (rs := [7]) (by kernel_rfl) (by simp) ?_
        refine AllReadyH.cons rfl (fun K hK => ?_) ?_
        ·skip
         go_simp
         refine hK.out _ _ (range_far ra3 (by omega) _ _) (fun hHeld => ?_)
         clear hK K
         try simp only [Act.put, List.setIfInBounds_toArray, List.set_cons_zero, List.set_cons_succ]
         refine wpAnyH_done (by kernel_rfl) ?_ _
         have HX9 : Hid ((w8.setCell ⟨B, 2, none⟩ (.slice o8 (i + 1) c8)).heap[B]? = some (.cells #[.int .i64 key, .slice o2 l.length c2, .slice o8 (i + 1) c8] 41 (0, 0))) := box_put HX8.out 2 _
         have HO9 : Hid (ownL layH 152 (w8.setCell ⟨B, 2, none⟩ (.slice o8 (i + 1) c8)) wc.heap.size (.slice o8 (i + 1) c8) (hs ++ [(o4, 8, c4)])) := own_putB HO8.out HX8.out neP1 2 _
         have hR8 := Rw.more HRW4.out HLN.out hs2 (show wc.heap.size ≤ W2.heap.size by omega) hs4 HIT.out HOUT.out HLT.out HG8.out
         rw [← HTK.out] at hR8
         have HR9 : Hid (Rw InT [] ((fs.map ptLL).take (i + 1)) wc.heap.size (w8.setCell ⟨B, 2, none⟩ (.slice o8 (i + 1) c8)).heap.size (w8.setCell ⟨B, 2, none⟩ (.slice o8 (i + 1) c8)) (hs ++ [(o4, 8, c4)]) _ _) := (hR8.step InT.stp (stp_set w8 B 2 (.slice o8 (i + 1) c8)) (fun j hj => .inl (Nat.le_trans (show B + 1 ≤ wc.heap.size from hB2) (hR8.bd j hj).1))).mono (Nat.le_refl _) (by simp)
         have HU9 := hide (out_more HOUT.out HHI.out hs2 hs4 HLT.out HN8.out)
         have HOB9 : Hid (ownK (w8.setCell ⟨B, 2, none⟩ (.slice o8 (i + 1) c8)) W0.heap.size (.slice o2 l.length c2) l) := own_putB (World.ownsRow.kept (World.ownsRow.alloc HOB4.out _) HG8.out (own_apart0 HOB4.out HOW4.out neBR)) HX8.out neP4 2 _
         have HS9 := hide ((stp_more HST4.out HG8.out (fun g e => HNB.out g e)).trans (stp_set w8 B 2 (.slice o8 (i + 1) c8)))
         have hs9 : wc.heap.size ≤ w8.heap.size := by have := HS9.out.size; simpa using this
         clear hR8
         go_wp2
         go_roundw
         case rel => exact ⟨i + 1, _, _, _, o8, c8, by omega, by go_num, HX9.out, HO9.out, HR9.out, HU9.out, HOB9.out, by simpa using hs9, HS9.out⟩
         case measure => simp [intOf]; omega
        exact AllReadyH.nil
       exact AllReadyH.nil
      exact AllReadyH.nil
     exact AllReadyH.nil
    refine AllReadyH.cons rfl (fun K hK => ?_) ?_
    ·skip
     go_simp
     go_at_call 204
     refine (lists_any f _).mono ?_
     rintro e v1 ⟨v4, rfl, it4, hb4⟩
     replace hb4 : Below W2.heap.size W2 v1 := (Below.drew (Below.refl _ _)).trans hb4
     replace it4 : InT W2.heap.size v1.heap.size v1 v4 (ptLL f) := it4
     obtain ⟨o4, c4, e4, _⟩ := RiT.rd (InT.ri it4)
     rw [ptLL_len] at e4
     subst e4
     have hx4 := (hb4.block B hx2l).trans HX2.out
     have hx4l := (Array.getElem?_eq_some_iff.1 hx4).1
     have p4 : v1.cell? ⟨B, 2, none⟩ = some (.slice oQ i cQ) := bx_cell hx4 2 _ rfl
     have p4a : ∀ O, (v1.alloc O).cell? ⟨B, 2, none⟩ = some (.slice oQ i cQ) := (fun O => ((Below.refl v1.heap.size v1).alloc (Nat.le_refl _) O).cell (p := ⟨B, 2, none⟩) hx4l |>.trans p4)
     have hs4 := hb4.size
     have HOW4 := hide (own_kept HOW2.out hb4)
     have HRW4 := hide (HRW2.out.kept InT.stp hb4)
     have HOB4 := hide (own_kept HOB2.out hb4)
     have HST4 := hide (HST2.out.trans (Stp.of hb4))
     have HIT := hide it4
     have ra1 : v1.rangeAt wr.heap.size 0 (ptL f) := range_kept HRA.out hb4 hzw
     have HX4 := hide hx4
     clear it4 hb4 hx4
     go_wp2_with fail
     refine hK.out _ _ ra1 (fun hHeld => ?_)
     clear hK K
     try simp only [Act.put, List.setIfInBounds_toArray, List.set_cons_zero, List.set_cons_succ]
     refine wpAnyH_ready (rs := [1, 4]) (by kernel_rfl) (by simp) ?_
     refine AllReadyH.cons rfl (fun K hK => ?_) ?_
     ·skip
      go_simp
      refine hK.out _ _ ra1 (fun hHeld => ?_)
      clear hK K
      try simp only [Act.put, List.setIfInBounds_toArray, List.set_cons_zero, List.set_cons_succ]
      refine wpAnyH_ready (rs := [4]) (by kernel_rfl) (by simp) ?_
      refine AllReadyH.cons rfl (fun K hK => ?_) ?_
      ·skip
       go_simp
       refine hK.out _ _ (range_kept ra1 ((Below.refl v1.heap.size v1).alloc (Nat.le_refl _) (.cells #[.slice o4 8 c4] 152)) (by omega)) (fun hHeld => ?_)
       clear hK K
       try simp only [Act.put, List.setIfInBounds_toArray, List.set_cons_zero, List.set_cons_succ]
       refine wpAnyH_ready (rs := [5]) (by kernel_rfl) (by simp) ?_
       refine AllReadyH.cons rfl (fun K hK => ?_) ?_
       ·skip
        refine step_append_lay appHT rfl (.tmp 20) (.tmp 23) rfl wc.heap.size (.slice oQ i cQ) hs rfl (HOW4.out.alloc (.cells #[.slice o4 8 c4] 152)) (some ⟨v1.heap.size, 0, none⟩) 1 _ [(o4, 8, c4)] 1 rfl rfl (by simp) rd_oneH (by rw [HHL.out]; simp; omega) (by simp; omega) ?_
        intro v8 w8 ho8 hg8 hn8
        obtain ⟨o8, c8, e8, _⟩ := ownL.open (L := layH) ho8
        have hl8 : (hs ++ [((o4, 8, c4) : Hd)]).length = i + 1 := (by rw [List.length_append, HHL.out]; rfl)
        rw [hl8] at e8
        subst e8
        have hx8 := (hg8.block B (by simp; omega) (fun e => by have := HLT.out B e.symm; have := HNB.out B e.symm; omega)).trans ((Below.heap_alloc _ _ _ hx4l).trans HX4.out)
        have p8 : w8.cell? ⟨B, 2, none⟩ = some (.slice oQ i cQ) := bx_cell hx8 2 _ rfl
        have f8 := bx_frozen hx8 2
        have ra3 : w8.rangeAt wr.heap.size 0 (ptL f) := range_grown (range_kept ra1 ((Below.refl v1.heap.size v1).alloc (Nat.le_refl _) _) (by omega)) hg8 (by simp; omega) (fun e => by have := HLT.out _ e.symm; omega)
        have HX8 := hide hx8
        have HO8 := hide ho8
        have HG8 := hide hg8
        have HN8 := hide hn8
        clear ho8 hg8 hn8 hx8
        refine hK.out _ _ ra3 (fun hHeld => ?_)
        clear hK K
        try simp only [Act.put, List.setIfInBounds_toArray, List.set_cons_zero, List.set_cons_succ]
        refine wpAnyH_take (i := 6) (oi := _) (v := .pointer (some ⟨B, 2, none⟩)) rfl (by kernel_rfl) (by kernel_rfl) (by kernel_rfl) (fun _ _ _ h => h) (Or.inl ⟨by rfl, fun w _ => by go_simp⟩) hHeld ?_
        try simp only [Act.put, List.setIfInBounds_toArray, List.set_cons_zero, List.set_cons_succ]
        refine wpAnyH_ready (rs := [7]) (by kernel_rfl) (by simp) ?_
        refine AllReadyH.cons rfl (fun K hK => ?_) ?_
        ·skip
         go_simp
         refine hK.out _ _ (range_far ra3 (by omega) _ _) (fun hHeld => ?_)
         clear hK K
         try simp only [Act.put, List.setIfInBounds_toArray, List.set_cons_zero, List.set_cons_succ]
         refine wpAnyH_done (by kernel_rfl) ?_ _
         have HX9 : Hid ((w8.setCell ⟨B, 2, none⟩ (.slice o8 (i + 1) c8)).heap[B]? = some (.cells #[.int .i64 key, .slice o2 l.length c2, .slice o8 (i + 1) c8] 41 (0, 0))) := box_put HX8.out 2 _
         have HO9 : Hid (ownL layH 152 (w8.setCell ⟨B, 2, none⟩ (.slice o8 (i + 1) c8)) wc.heap.size (.slice o8 (i + 1) c8) (hs ++ [(o4, 8, c4)])) := own_putB HO8.out HX8.out neP1 2 _
         have hR8 := Rw.more HRW4.out HLN.out hs2 (show wc.heap.size ≤ W2.heap.size by omega) hs4 HIT.out HOUT.out HLT.out HG8.out
         rw [← HTK.out] at hR8
         have HR9 : Hid (Rw InT [] ((fs.map ptLL).take (i + 1)) wc.heap.size (w8.setCell ⟨B, 2, none⟩ (.slice o8 (i + 1) c8)).heap.size (w8.setCell ⟨B, 2, none⟩ (.slice o8 (i + 1) c8)) (hs ++ [(o4, 8, c4)]) _ _) := (hR8.step InT.stp (stp_set w8 B 2 (.slice o8 (i + 1) c8)) (fun j hj => .inl (Nat.le_trans (show B + 1 ≤ wc.heap.size from hB2) (hR8.bd j hj).1))).mono (Nat.le_refl _) (by simp)
         have HU9 := hide (out_more HOUT.out HHI.out hs2 hs4 HLT.out HN8.out)
         have HOB9 : Hid (ownK (w8.setCell ⟨B, 2, none⟩ (.slice o8 (i + 1) c8)) W0.heap.size (.slice o2 l.length c2) l) := own_putB (World.ownsRow.kept (World.ownsRow.alloc HOB4.out _) HG8.out (own_apart0 HOB4.out HOW4.out neBR)) HX8.out neP4 2 _
         have HS9 := hide ((stp_more HST4.out HG8.out (fun g e => HNB.out g e)).trans (stp_set w8 B 2 (.slice o8 (i + 1) c8)))
         have hs9 : wc.heap.size ≤ w8.heap.size := by have := HS9.out.size; simpa using this
         clear hR8
         go_wp2
         go_roundw
         case rel => exact ⟨i + 1, _, _, _, o8, c8, by omega, by go_num, HX9.out, HO9.out, HR9.out, HU9.out, HOB9.out, by simpa using hs9, HS9.out⟩
         case measure => simp [intOf]; omega
        exact AllReadyH.nil
       exact AllReadyH.nil
      exact AllReadyH.nil
     refine AllReadyH.cons rfl (fun K hK => ?_) ?_
     ·skip
      go_simp
      refine hK.out _ _ (range_kept ra1 ((Below.refl v1.heap.size v1).alloc (Nat.le_refl _) (.cells #[.slice o4 8 c4] 152)) (by omega)) (fun hHeld => ?_)
      clear hK K
      try simp only [Act.put, List.setIfInBounds_toArray, List.set_cons_zero, List.set_cons_succ]
      refine wpAnyH_ready (rs := [1]) (by kernel_rfl) (by simp) ?_
      refine AllReadyH.cons rfl (fun K hK => ?_) ?_
      ·skip
       go_simp
       refine hK.out _ _ (range_kept ra1 ((Below.refl v1.heap.size v1).alloc (Nat.le_refl _) (.cells #[.slice o4 8 c4] 152)) (by omega)) (fun hHeld => ?_)
       clear hK K
       try simp only [Act.put, List.setIfInBounds_toArray, List.set_cons_zero, List.set_cons_succ]
       refine wpAnyH_ready (rs := [5]) (by kernel_rfl) (by simp) ?_
       refine AllReadyH.cons rfl (fun K hK => ?_) ?_
       ·skip
        refine step_append_lay appHT rfl (.tmp 20) (.tmp 23) rfl wc.heap.size (.slice oQ i cQ) hs rfl (HOW4.out.alloc (.cells #[.slice o4 8 c4] 152)) (some ⟨v1.heap.size, 0, none⟩) 1 _ [(o4, 8, c4)] 1 rfl rfl (by simp) rd_oneH (by rw [HHL.out]; simp; omega) (by simp; omega) ?_
        intro v8 w8 ho8 hg8 hn8
        obtain ⟨o8, c8, e8, _⟩ := ownL.open (L := layH) ho8
        have hl8 : (hs ++ [((o4, 8, c4) : Hd)]).length = i + 1 := (by rw [List.length_append, HHL.out]; rfl)
        rw [hl8] at e8
        subst e8
        have hx8 := (hg8.block B (by simp; omega) (fun e => by have := HLT.out B e.symm; have := HNB.out B e.symm; omega)).trans ((Below.heap_alloc _ _ _ hx4l).trans HX4.out)
        have p8 : w8.cell? ⟨B, 2, none⟩ = some (.slice oQ i cQ) := bx_cell hx8 2 _ rfl
        have f8 := bx_frozen hx8 2
        have ra3 : w8.rangeAt wr.heap.size 0 (ptL f) := range_grown (range_kept ra1 ((Below.refl v1.heap.size v1).alloc (Nat.le_refl _) _) (by omega)) hg8 (by simp; omega) (fun e => by have := HLT.out _ e.symm; omega)
        have HX8 := hide hx8
        have HO8 := hide ho8
        have HG8 := hide hg8
        have HN8 := hide hn8
        clear ho8 hg8 hn8 hx8
        refine hK.out _ _ ra3 (fun hHeld => ?_)
        clear hK K
        try simp only [Act.put, List.setIfInBounds_toArray, List.set_cons_zero, List.set_cons_succ]
        refine wpAnyH_take (i := 6) (oi := _) (v := .pointer (some ⟨B, 2, none⟩)) rfl (by kernel_rfl) (by kernel_rfl) (by kernel_rfl) (fun _ _ _ h => h) (Or.inl ⟨by rfl, fun w _ => by go_simp⟩) hHeld ?_
        try simp only [Act.put, List.setIfInBounds_toArray, List.set_cons_zero, List.set_cons_succ]
        refine wpAnyH_ready (rs := [7]) (by kernel_rfl) (by simp) ?_
        refine AllReadyH.cons rfl (fun K hK => ?_) ?_
        ·skip
         go_simp
         refine hK.out _ _ (range_far ra3 (by omega) _ _) (fun hHeld => ?_)
         clear hK K
         try simp only [Act.put, List.setIfInBounds_toArray, List.set_cons_zero, List.set_cons_succ]
         refine wpAnyH_done (by kernel_rfl) ?_ _
         have HX9 : Hid ((w8.setCell ⟨B, 2, none⟩ (.slice o8 (i + 1) c8)).heap[B]? = some (.cells #[.int .i64 key, .slice o2 l.length c2, .slice o8 (i + 1) c8] 41 (0, 0))) := box_put HX8.out 2 _
         have HO9 : Hid (ownL layH 152 (w8.setCell ⟨B, 2, none⟩ (.slice o8 (i + 1) c8)) wc.heap.size (.slice o8 (i + 1) c8) (hs ++ [(o4, 8, c4)])) := own_putB HO8.out HX8.out neP1 2 _
         have hR8 := Rw.more HRW4.out HLN.out hs2 (show wc.heap.size ≤ W2.heap.size by omega) hs4 HIT.out HOUT.out HLT.out HG8.out
         rw [← HTK.out] at hR8
         have HR9 : Hid (Rw InT [] ((fs.map ptLL).take (i + 1)) wc.heap.size (w8.setCell ⟨B, 2, none⟩ (.slice o8 (i + 1) c8)).heap.size (w8.setCell ⟨B, 2, none⟩ (.slice o8 (i + 1) c8)) (hs ++ [(o4, 8, c4)]) _ _) := (hR8.step InT.stp (stp_set w8 B 2 (.slice o8 (i + 1) c8)) (fun j hj => .inl (Nat.le_trans (show B + 1 ≤ wc.heap.size from hB2) (hR8.bd j hj).1))).mono (Nat.le_refl _) (by simp)
         have HU9 := hide (out_more HOUT.out HHI.out hs2 hs4 HLT.out HN8.out)
         have HOB9 : Hid (ownK (w8.setCell ⟨B, 2, none⟩ (.slice o8 (i + 1) c8)) W0.heap.size (.slice o2 l.length c2) l) := own_putB (World.ownsRow.kept (World.ownsRow.alloc HOB4.out _) HG8.out (own_apart0 HOB4.out HOW4.out neBR)) HX8.out neP4 2 _
         have HS9 := hide ((stp_more HST4.out HG8.out (fun g e => HNB.out g e)).trans (stp_set w8 B 2 (.slice o8 (i + 1) c8)))
         have hs9 : wc.heap.size ≤ w8.heap.size := by have := HS9.out.size; simpa using this
         clear hR8
         go_wp2
         go_roundw
         case rel => exact ⟨i + 1, _, _, _, o8, c8, by omega, by go_num, HX9.out, HO9.out, HR9.out, HU9.out, HOB9.out, by simpa using hs9, HS9.out⟩
         case measure => simp [intOf]; omega
        exact AllReadyH.nil
       exact AllReadyH.nil
      exact AllReadyH.nil
     exact AllReadyH.nil
    exact AllReadyH.nil
   ·skip
    have e : i = n := by omega
    subst e
    have hrb := HST.out.box HRB.out (.inl (show w.heap.size + 1 < B by omega))
    have r0 : wr.cell? ⟨w.heap.size + 1, 0, none⟩ = some (.int .i64 0) := bx_cell hrb 0 _ rfl
    have fr0 := bx_frozen hrb 0
    have r1 : wr.cell? ⟨w.heap.size + 1, 1, none⟩ = some (.slice none 0 0) := bx_cell hrb 1 _ rfl
    have fr1 := bx_frozen hrb 1
    have r2 : wr.cell? ⟨w.heap.size + 1, 2, none⟩ = some (.slice none 0 0) := bx_cell hrb 2 _ rfl
    have fr2 := bx_frozen hrb 2
    have p0 : wr.cell? ⟨B, 0, none⟩ = some (.int .i64 key) := bx_cell HBX.out 0 _ rfl
    have p1 : wr.cell? ⟨B, 1, none⟩ = some (.slice o2 l.length c2) := bx_cell HBX.out 1 _ rfl
    have p2 : wr.cell? ⟨B, 2, none⟩ = some (.slice oQ i cQ) := bx_cell HBX.out 2 _ rfl
    have HIN : Hid (InPm W0.heap.size wr.heap.size wr (plv key (.slice o2 l.length c2) (.slice oQ i cQ)) ⟨key, l, fs.map ptLL⟩) := ⟨_, _, wc.heap.size, rfl, hwc, hsr, ⟨HOB.out, HLB.out⟩, ⟨hs, L, H, InRow.of (all_take HNN.out HRW.out HOW.out).1, (all_take HNN.out HRW.out HOW.out).2, out_len HNN.out HOUT.out⟩⟩
    have HBW := hide (HBC.out.trans (HST.out.below (show w.heap.size ≤ B by omega) (by omega)))
    clear hrb
    go_wp2
    refine bodyPost_ret (v := plv key (.slice o2 l.length c2) (.slice oQ i cQ)) (by simp [results, Tryz.results165, go_sem, r0, r1, r2]) rfl ⟨_, rfl, ?_, setQ_below HBW.out (Nat.le_succ _) _ _ _⟩
    rw [setQ_size]
    exact InPm.mono (HIN.out.step (stp_setQ wr (w.heap.size + 1) _ _ _) (.inl (by omega))) (by omega)

theorem plain_any (key : Int) (o : Option Addr) (cap : Nat) (l : List Bk) (oR : Option Addr) (cR : Nat) (fs : List Pt) (w : World) (hR : RdK w.heap.size w o l) (hn : o = none → cap = 0) (hlen : l.length ≤ 1048576) (hG : RdL layT w.heap.size w oR fs) (hf3 : fs.length ≤ 1048576) :
  Calls Tryz.prog 165 #[polv key (.slice o l.length cap) (.slice oR fs.length cR)] w fun e w' => ∃ v, e = .returned v ∧ InPm w.heap.size w'.heap.size w' v ⟨key, l, fs.map ptLL⟩ ∧ Below w.heap.size w w' := plain_go key o cap l oR cR fs fs.length rfl w hR hn hlen hG hf3

end Go.Proofs.YtajfkcpifnpkeaaGreat

/- The model's copy of a pool. -/
namespace Go.Proofs.YtajfkcpifnpkeaaGreat
open Go.ChangeShapes Go.WideShapes Go.ChangeAt Go.RowKit Go.Joins
set_option linter.unusedVariables false
set_option linter.unusedSimpArgs false

theorem appII : AppOk layI 175 3 := ⟨Tryz.underlying175, ⟨_, _, infoInt, rfl, by decide⟩, by decide, fun a u hu => by
 have : u = .int .i64 a := by simpa [layI] using hu
 subst this; rfl⟩
/-- As RiV; a slice of nothing has no room. -/
def RcV {α : Type} (L : Lay α) (lo hi : Nat) (w : World) (v : Value) (l : List α) : Prop := RiV L lo hi w v l ∧ capV v
abbrev RcT := RiRows (RcV layI) []
abbrev RcR := RiRows RcT []
theorem RcI.mon : Monos (RcV layI) := ⟨fun h h1 h2 => ⟨RiV.mono h.1 h1 h2, h.2⟩⟩
theorem RcI.stp : Stps (RcV layI) := ⟨fun h s hd => ⟨RiV.step h.1 s hd, h.2⟩⟩
theorem RcT.mon : Monos RcT := RiRows.mono RcI.mon
theorem RcT.stp : Stps RcT := RiRows.step RcI.stp
theorem RcR.mon : Monos RcR := RiRows.mono RcT.mon
theorem RcR.stp : Stps RcR := RiRows.step RcT.stp
theorem RiRows.map {α : Type} {Q Q' : Nat → Nat → World → Value → α → Prop} {d : α} (hq : ∀ {lo hi : Nat} {w : World} {v : Value} {x : α}, Q lo hi w v x → Q' lo hi w v x) {lo hi : Nat} {w : World} {v : Value} {xs : List α} (h : RiRows Q d lo hi w v xs) : RiRows Q' d lo hi w v xs := by
 obtain ⟨hs, h0, h1, h2⟩ := h
 exact ⟨hs, h0, h1, fun i hi => hq (h2 i hi)⟩
theorem RiRows.at {α : Type} {Q : Nat → Nat → World → Value → α → Prop} {d : α} {a C : Nat} {w : World} {o : Option Addr} {n c : Nat} {xs : List α} (h : RiRows Q d a C w (.slice o n c) xs) (hC : C ≤ w.heap.size) (i : Nat) (hi : i < xs.length) : ∃ b off u, o = some ⟨b, off, none⟩ ∧ b < C ∧ w.cell? ⟨b, off + i, none⟩ = some u ∧ Q a C w u (xs.getD i d) := by
 obtain ⟨hs, h0, h1, h2⟩ := h
 obtain ⟨o1, c1, e, r⟩ := h1.open
 injection e with e1 e2 e3
 subst e1
 rcases r with r | ⟨b, off, ho, hb, r⟩
 ·subst r; simp at h0; omega
 ·exact ⟨b, off, hv hs i, ho, hb, RdL.head r i (by omega), h2 i hi⟩
theorem RcT.len {lo hi : Nat} {w : World} {v : Value} {ll : List (List Int)} (h : RcT lo hi w v ll) : ∃ o c, v = .slice o ll.length c := by
 obtain ⟨hs, h0, ⟨o, c, e, _⟩, _⟩ := h
 exact ⟨o, c, by rw [e, h0]⟩
theorem RcV.opn {lo hi : Nat} {w : World} {v : Value} {l : List Int} (h : RcV layI lo hi w v l) : ∃ o c, v = .slice o l.length c ∧ RdL layI hi w o l ∧ (o = none → c = 0) := by
 obtain ⟨o, c, e, r⟩ := RiV.open h.1
 exact ⟨o, c, e, r, fun h0 => h.2 l.length c (by rw [e, h0])⟩
/-- Tables of the call's own. -/
def GTabs (w : World) (base : Nat) (hs : List Hd) (lll : List (List (List Int))) : Prop := hs.length = lll.length ∧ ∀ i, i < lll.length → ∃ o3 c3 hs8, hs.getD i (none, 0, 0) = (o3, (lll.getD i []).length, c3) ∧ ownL layH 175 w base (.slice o3 (lll.getD i []).length c3) hs8 ∧ Tab (fun q => (lll.getD i []).getD q []) (lll.getD i []).length w base hs8
theorem GTabs.nil (w : World) (base : Nat) : GTabs w base [] [] := ⟨rfl, fun i h => absurd h (Nat.not_lt_zero _)⟩
theorem GTabs.kept {w w' : World} {base : Nat} {hs : List Hd} {R : List (List (List Int))} (h : GTabs w base hs R) (hb : Below w.heap.size w w') : GTabs w' base hs R :=
 ⟨h.1, fun i hi => by obtain ⟨o3, c3, hs8, e, h1, h2⟩ := h.2 i hi; exact ⟨o3, c3, hs8, e, own_kept h1 hb, h2.kept hb⟩⟩
theorem GTabs.other {w w' : World} {base b2 n2 : Nat} {hs : List Hd} {R : List (List (List Int))} {v2 : Value} {x2 : List Value} (h : GTabs w base hs R) (h2 : w.ownsRow b2 152 1 v2 n2 x2) (hg : w.grownBy w' v2.ownBlock) : GTabs w' base hs R :=
 ⟨h.1, fun i hi => by obtain ⟨o3, c3, hs8, e, k1, k2⟩ := h.2 i hi; exact ⟨o3, c3, hs8, e, World.ownsRow.kept k1 hg (own_apart k1 h2 neT1), k2.other h2 neT2 hg⟩⟩
theorem GTabs.putB {w : World} {base : Nat} {hs : List Hd} {R : List (List (List Int))} {B : Nat} {c : Array Value} (h : GTabs w base hs R) (hB : w.heap[B]? = some (.cells c 41 (0, 0))) (j : Nat) (u : Value) : GTabs (w.setCell ⟨B, j, none⟩ u) base hs R :=
 ⟨h.1, fun i hi => by obtain ⟨o3, c3, hs8, e, h1, h2⟩ := h.2 i hi; exact ⟨o3, c3, hs8, e, own_putB h1 hB neP2 j u, h2.grown (grown_set w B j u) (fun q hq => own_box (h2.row q hq) hB neP3)⟩⟩
theorem GTabs.snoc {w : World} {base : Nat} {hs hs8 : List Hd} {R : List (List (List Int))} {ll : List (List Int)} {o3 : Option Addr} {c3 : Nat} (h : GTabs w base hs R) (h1 : ownL layH 175 w base (.slice o3 ll.length c3) hs8) (h2 : Tab (fun q => ll.getD q []) ll.length w base hs8) : GTabs w base (hs ++ [(o3, ll.length, c3)]) (R ++ [ll]) := by
 have hl := h.1
 refine ⟨by simp [hl], fun i hi => ?_⟩
 by_cases hi' : i < R.length
 ·have e1 : (R ++ [ll]).getD i [] = R.getD i [] := by rw [List.getD_eq_getElem?_getD, List.getElem?_append_left hi', ← List.getD_eq_getElem?_getD]
  have e2 : (hs ++ [(o3, ll.length, c3)]).getD i (none, 0, 0) = hs.getD i (none, 0, 0) := by rw [List.getD_eq_getElem?_getD, List.getElem?_append_left (by omega), ← List.getD_eq_getElem?_getD]
  rw [e1, e2]; exact h.2 i hi'
 ·have e0 : i = R.length := by simp at hi; omega
  subst e0
  have e1 : (R ++ [ll]).getD R.length [] = ll := by simp
  have e2 : (hs ++ [(o3, ll.length, c3)]).getD R.length (none, 0, 0) = (o3, ll.length, c3) := by rw [← hl]; simp
  rw [e1, e2]; exact ⟨o3, c3, hs8, rfl, h1, h2⟩
theorem GTabs.rc {w : World} {base : Nat} {hs : List Hd} {R : List (List (List Int))} {o : Option Addr} {n c : Nat} (h : GTabs w base hs R) (ho : ownL layH 152 w base (.slice o n c) hs) : RcR base w.heap.size w (.slice o n c) R := by
 refine ⟨hs, h.1, InRow.ri (InRow.of ho), fun i hi => ?_⟩
 obtain ⟨o3, c3, hs8, e, h1, h2⟩ := h.2 i hi
 have e' : hv hs i = .slice o3 (R.getD i []).length c3 := by unfold hv; rw [e]
 rw [e']
 exact ⟨hs8, h2.len, InRow.ri (InRow.of h1), fun j hj => ⟨InRow.ri (InRow.of (h2.row j hj)), InRow.cap (InRow.of (h2.row j hj))⟩⟩
theorem RcR.ri {lo hi : Nat} {w : World} {v : Value} {R : List (List (List Int))} (h : RcR lo hi w v R) : RiR lo hi w v R := RiRows.map (fun q => RiRows.map (fun r => r.1) q) h
theorem GTabs.ri {w : World} {base : Nat} {hs : List Hd} {R : List (List (List Int))} {o : Option Addr} {n c : Nat} (h : GTabs w base hs R) (ho : ownL layH 152 w base (.slice o n c) hs) : RiR base w.heap.size w (.slice o n c) R := RcR.ri (h.rc ho)
theorem GTabs.mono {w : World} {base b2 : Nat} {hs : List Hd} {R : List (List (List Int))} (h : GTabs w base hs R) (hb : b2 ≤ base) : GTabs w b2 hs R :=
 ⟨h.1, fun i hi => by obtain ⟨o3, c3, hs8, e, h1, h2⟩ := h.2 i hi; exact ⟨o3, c3, hs8, e, own_mono h1 hb, Tab.mono h2 hb⟩⟩
theorem GTabs.pm {w : World} {lo base : Nat} {key : Int} {l : List Bk} {hs : List Hd} {lll : List (List (List Int))} {o2 oQ : Option Addr} {c2 n cQ : Nat} (h1 : ownK w base (.slice o2 l.length c2) l) (h2 : ownL layH 152 w base (.slice oQ n cQ) hs) (h3 : GTabs w base hs lll) : RiPm base w.heap.size w (plv key (.slice o2 l.length c2) (.slice oQ n cQ)) ⟨key, l, lll⟩ := ⟨_, _, rfl, InRow.ri (InRow.of h1), GTabs.ri h3 h2⟩
end Go.Proofs.YtajfkcpifnpkeaaGreat

/- The model's way with a command to a pool, whatever it is; a new pool. -/
namespace Go.Proofs.YtajfkcpifnpkeaaGreat
open Go.ChangeShapes Go.WideShapes Go.ChangeAt Go.RowKit Go.Joins
set_option linter.unusedVariables false
set_option linter.unusedSimpArgs false


set_option maxRecDepth 100000 in
set_option maxHeartbeats 4000000 in
theorem l4do_no (key : Int) (o : Option Addr) (cap : Nat) (l : List Bk) (oR : Option Addr) (nR cR : Nat) (k i g : Int) (w : World) (hl : backsOkB l = true) (hm : doL l k i g = none) (hlen : l.length ≤ 100) (hR : RdK w.heap.size w o l) :
  Calls Tryz.prog 103 #[plv key (.slice o l.length cap) (.slice oR nR cR), cmd k i g] w fun e w' => e = .returned (.tuple #[plv key (.slice o l.length cap) (.slice oR nR cR), .bool false]) ∧ Below w.heap.size w w' := by
 have hth : thereB l i = (k == 0) := by
  unfold doL at hm
  split at hm
  ·assumption
  ·cases hm
 obtain ⟨W0, hW0⟩ : ∃ W, (((w.alloc (.cells #[.int .i64 key, .slice o l.length cap, .slice oR nR cR] 41)).alloc (.cells #[.int .i64 k, .int .i64 i, .int .i64 g] 54)).alloc (.cells #[.int .i64 0, .slice none 0 0, .slice none 0 0] 41)) = W := ⟨_, rfl⟩
 have hb_W0 : Below w.heap.size w W0 := by rw [← hW0]; exact ((((Below.refl _ _).alloc (Nat.le_refl _) _).alloc (by simp <;> omega) _).alloc (by simp <;> omega) _)
 have HB := hide hb_W0
 clear hb_W0
 have zz : w.heap.size < W0.heap.size := by rw [← hW0]; simp <;> omega
 have z0 : W0.cell? ⟨w.heap.size, 0, none⟩ = some (.int .i64 key) := by rw [← hW0]; simp [go_sem]
 have z1 : W0.cell? ⟨w.heap.size, 1, none⟩ = some (.slice o l.length cap) := by rw [← hW0]; simp [go_sem]
 have z2 : W0.cell? ⟨w.heap.size, 2, none⟩ = some (.slice oR nR cR) := by rw [← hW0]; simp [go_sem]
 have zu : w.heap.size + 1 < W0.heap.size := by rw [← hW0]; simp <;> omega
 have u0 : W0.cell? ⟨w.heap.size + 1, 0, none⟩ = some (.int .i64 k) := by rw [← hW0]; simp [go_sem]
 have u1 : W0.cell? ⟨w.heap.size + 1, 1, none⟩ = some (.int .i64 i) := by rw [← hW0]; simp [go_sem]
 have u2 : W0.cell? ⟨w.heap.size + 1, 2, none⟩ = some (.int .i64 g) := by rw [← hW0]; simp [go_sem]
 have zr : w.heap.size + 1 + 1 < W0.heap.size := by rw [← hW0]; simp
 have r0 : W0.cell? ⟨w.heap.size + 1 + 1, 0, none⟩ = some (.int .i64 0) := by rw [← hW0]; simp [go_sem]
 have r1 : W0.cell? ⟨w.heap.size + 1 + 1, 1, none⟩ = some (.slice none 0 0) := by rw [← hW0]; simp [go_sem]
 have r2 : W0.cell? ⟨w.heap.size + 1 + 1, 2, none⟩ = some (.slice none 0 0) := by rw [← hW0]; simp [go_sem]
 have fr0 : W0.frozen? ⟨w.heap.size + 1 + 1, 0, none⟩ = false := by rw [← hW0]; simp [go_sem]
 have fr1 : W0.frozen? ⟨w.heap.size + 1 + 1, 1, none⟩ = false := by rw [← hW0]; simp [go_sem]
 have fr2 : W0.frozen? ⟨w.heap.size + 1 + 1, 2, none⟩ = false := by rw [← hW0]; simp [go_sem]
 have HF := hide (l4find_any o cap l i W0 ((hR.kept HB.out (Nat.le_refl _)).le HB.out.size) (by omega) hl)
 clear hR hm
 by_cases h0 : k = 0
 ·subst h0
  have h1 : thereB l i = true := hth
  rw [find_yes h1] at HF
  have hge : (0 : Int) ≤ (placeN l i : Int) := by omega
  clear hth h1
  generalize placeN l i = pl at *
  go_enter Tryz.func103, Tryz.ntmps103
  go_wp2_with fail
  refine HF.out.mono ?_
  rintro e w9 ⟨rfl, rfl⟩
  go_wp2
  refine bodyPost_ret (v := .tuple #[plv key (.slice o l.length cap) (.slice oR nR cR), .bool false]) (by simp [results, Tryz.results103, go_sem, r0, r1, r2]) rfl ⟨rfl, ?_⟩
  exact ((HB.out.setCell (p := ⟨w.heap.size + 1 + 1, 0, none⟩) (by (try simp) <;> omega) _).setCell (p := ⟨w.heap.size + 1 + 1, 1, none⟩) (by (try simp) <;> omega) _).setCell (p := ⟨w.heap.size + 1 + 1, 2, none⟩) (by (try simp) <;> omega) _
 ·have h0' : (k == 0) = false := beq_eq_false_iff_ne.2 h0
  rw [h0'] at hth
  rw [find_no hth] at HF
  clear hth
  go_enter Tryz.func103, Tryz.ntmps103
  go_wp2_with fail
  refine HF.out.mono ?_
  rintro e w9 ⟨rfl, rfl⟩
  go_wp2
  refine bodyPost_ret (v := .tuple #[plv key (.slice o l.length cap) (.slice oR nR cR), .bool false]) (by simp [results, Tryz.results103, go_sem, r0, r1, r2]) rfl ⟨rfl, ?_⟩
  exact ((HB.out.setCell (p := ⟨w.heap.size + 1 + 1, 0, none⟩) (by (try simp) <;> omega) _).setCell (p := ⟨w.heap.size + 1 + 1, 1, none⟩) (by (try simp) <;> omega) _).setCell (p := ⟨w.heap.size + 1 + 1, 2, none⟩) (by (try simp) <;> omega) _

theorem l4do_yes (key : Int) (o : Option Addr) (cap : Nat) (l : List Bk) (oR : Option Addr) (cR : Nat) (hsR : List Hd) (k i g : Int) (m : List Bk) (w : World) (hk : keyB key = true) (hl : backsOkB l = true) (hc : cmdOkB k i g = true) (hm : doL l k i g = some m) (hlen : l.length ≤ 100) (hR : RdK w.heap.size w o l) (hG : RdL layH w.heap.size w oR hsR) (hnR : oR = none → cR = 0) (hR3 : hsR.length ≤ 3) :
  Calls Tryz.prog 103 #[plv key (.slice o l.length cap) (.slice oR hsR.length cR), cmd k i g] w fun e w' => ∃ o2 c2 oR2 n2 cR2 o3 c3 hs3, e = .returned (.tuple #[plv key (.slice o2 m.length c2) (.slice oR2 n2 cR2), .bool true]) ∧ n2 = (((o3, 8, c3) :: hsR).take 3).length ∧ ownK w' w.heap.size (.slice o2 m.length c2) m ∧ ownL layH 152 w' w.heap.size (.slice oR2 n2 cR2) (((o3, 8, c3) :: hsR).take 3) ∧ ownL layH 175 w' w.heap.size (.slice o3 8 c3) hs3 ∧ Tab (fun b => pairI key b m) 8 w' w.heap.size hs3 ∧ Below w.heap.size w w' := by
 by_cases h0 : k = 0
 ·subst h0
  exact (l4do_add key o cap l oR cR hsR i g m w hk hl hc hm hlen hR hG hnR hR3).mono (fun _ _ h => h)
 ·exact (l4do_else key o cap l oR cR hsR k i g (placeN l i) m w hk hl hc hm hlen hR hG hnR hR3 h0 (beq_eq_false_iff_ne.2 h0) rfl).mono (fun _ _ h => h)

set_option maxRecDepth 100000 in
set_option maxHeartbeats 2000000 in
theorem l4new_any (key : Int) (w : World) (hk : keyB key = true) :
  Calls Tryz.prog 102 #[.int .i64 key] w fun e w' => ∃ g, e = .returned (plv key (.slice none 0 0) (.slice (some ⟨g, 0, none⟩) 1 1)) ∧ RingO w' w.heap.size (.slice (some ⟨g, 0, none⟩) 1 1) (fun b => pairI key b []) [] ∧ Below w.heap.size w w' := by
 obtain ⟨W0, hW0⟩ : ∃ W, (w.alloc (.cells #[.int .i64 0, .slice none 0 0, .slice none 0 0] 41)) = W := ⟨_, rfl⟩
 have hb_W0 : Below w.heap.size w W0 := by rw [← hW0]; exact ((Below.refl _ _).alloc (Nat.le_refl _) _)
 have HB := hide hb_W0
 clear hb_W0
 have zr : w.heap.size < W0.heap.size := by rw [← hW0]; simp
 have r0 : W0.cell? ⟨w.heap.size, 0, none⟩ = some (.int .i64 0) := by rw [← hW0]; simp [go_sem]
 have r1 : W0.cell? ⟨w.heap.size, 1, none⟩ = some (.slice none 0 0) := by rw [← hW0]; simp [go_sem]
 have r2 : W0.cell? ⟨w.heap.size, 2, none⟩ = some (.slice none 0 0) := by rw [← hW0]; simp [go_sem]
 have fr0 : W0.frozen? ⟨w.heap.size, 0, none⟩ = false := by rw [← hW0]; simp [go_sem]
 have fr1 : W0.frozen? ⟨w.heap.size, 1, none⟩ = false := by rw [← hW0]; simp [go_sem]
 have fr2 : W0.frozen? ⟨w.heap.size, 2, none⟩ = false := by rw [← hW0]; simp [go_sem]
 have hz00 := zr
 have HT := hide (l3tableO_any key none 0 [] W0 (.inl rfl) (by simp) hk rfl)
 go_enter Tryz.func102, Tryz.ntmps102
 go_wp2_with fail
 refine (HT.out).mono ?_
 rintro e v1 ⟨o3, c3, hs3, rfl, ow3, tb3, hb⟩
 have hs1 := hb.size
 have HX := hide (And.intro ow3 tb3)
 clear ow3 tb3
 replace r0 := bC hb r0 zr
 replace r1 := bC hb r1 zr
 replace r2 := bC hb r2 zr
 replace fr0 := bF hb fr0 zr
 replace fr1 := bF hb fr1 zr
 replace fr2 := bF hb fr2 zr
 replace zr := Nat.lt_of_lt_of_le zr hb.size
 replace HB := hide (HB.out.trans (hb.mono HB.out.size))
 clear hb
 have hbx : v1.heap.size + 1 = (v1.alloc (.cells #[.slice o3 8 c3] 152)).heap.size := by simp
 have hne : v1.heap.size ≠ w.heap.size := by omega
 have hne' : w.heap.size ≠ v1.heap.size := by omega
 obtain ⟨W2, hW2⟩ : ∃ W, v1.alloc (.cells #[.slice o3 8 c3] 152) = W := ⟨_, rfl⟩
 have hb2 : Below v1.heap.size v1 W2 := by rw [← hW2]; exact (Below.refl _ _).alloc (Nat.le_refl _) _
 have HRI : Hid (RingO W2 (w.heap.size + 1) (.slice (some ⟨v1.heap.size, 0, none⟩) 1 1) (fun b => pairI key b []) []) := ⟨o3, c3, hs3, by rw [← hW2]; exact own_mono (one_own v1 o3 8 c3 _) (by omega), own_mono (own_kept HX.out.1 hb2) (by omega), Tab.mono (HX.out.2.kept hb2) (by omega)⟩
 have hs2 := hb2.size
 replace r0 := bC hb2 r0 zr
 replace r1 := bC hb2 r1 zr
 replace r2 := bC hb2 r2 zr
 replace fr0 := bF hb2 fr0 zr
 replace fr1 := bF hb2 fr1 zr
 replace fr2 := bF hb2 fr2 zr
 have HB2 : Hid (Below w.heap.size w W2) := HB.out.trans (hb2.mono HB.out.size)
 go_wp2
 refine bodyPost_ret (v := plv key (.slice none 0 0) (.slice (some ⟨v1.heap.size, 0, none⟩) 1 1)) (by simp [results, Tryz.results102, go_sem, r0, r1, r2]) rfl ⟨v1.heap.size, rfl, ?_, ?_⟩
 ·exact RingO.mono (((HRI.out.low (Nat.lt_succ_self _) 0 _).low (Nat.lt_succ_self _) 1 _).low (Nat.lt_succ_self _) 2 _) (Nat.le_succ _)
 ·exact ((HB2.out.setCell (p := ⟨w.heap.size, 0, none⟩) (by (try simp) <;> omega) _).setCell (p := ⟨w.heap.size, 1, none⟩) (by (try simp) <;> omega) _).setCell (p := ⟨w.heap.size, 2, none⟩) (by (try simp) <;> omega) _

end Go.Proofs.YtajfkcpifnpkeaaGreat

/- A new pool, on both sides. -/
namespace Go.Proofs.YtajfkcpifnpkeaaGreat
open Go.ChangeShapes Go.WideShapes Go.ChangeAt Go.RowKit Go.Joins
set_option linter.unusedVariables false
set_option linter.unusedSimpArgs false

def pm0 : Pm := ⟨0, [], []⟩
/-- The table of these, as lists. -/
def newT (key : Int) (l : List Bk) : List (List Int) := rowsOf (fun b => pairI key b l) 8
theorem newT_len (key : Int) (l : List Bk) : (newT key l).length = 8 := rowsOf_length _ _
theorem newT_row (key : Int) (l : List Bk) (j : Nat) : ((newT key l).getD j []).length ≤ 2 := by
 by_cases h : j < 8
 ·unfold newT; rw [rowsOf_get _ _ _ h]; exact pairI_len key j l
 ·rw [List.getD_eq_getElem?_getD, List.getElem?_eq_none (by rw [newT_len]; omega)]; simp
theorem newT_sz (key : Int) (l : List Bk) : szT (newT key l) ≤ 16 := by
 have h := sumN_bd (lenT (newT key l)) 2 (fun i => newT_row key l i) (newT key l).length
 unfold szT
 rw [newT_len] at h ⊢
 omega
theorem Tab.congr {R R' : Nat → List Int} {k : Nat} {w : World} {base : Nat} {hs : List Hd} (h : Tab R k w base hs) (e : ∀ i, i < k → R i = R' i) : Tab R' k w base hs := ⟨h.len, fun i hi => by rw [← e i hi]; exact h.row i hi, h.apart⟩
theorem tab_new {key : Int} {l : List Bk} {w : World} {base : Nat} {hs : List Hd} (h : Tab (fun b => pairI key b l) 8 w base hs) : Tab (fun q => (newT key l).getD q []) (newT key l).length w base hs := by
 rw [newT_len]
 exact h.congr (fun i hi => by unfold newT; rw [rowsOf_get _ _ _ hi])
/-- A ring of tables of those who served. -/
def ringT (key : Int) (R : List (List Bk)) : List (List (List Int)) := R.map (newT key)
theorem ringT_get (key : Int) (R : List (List Bk)) (i : Nat) (h : i < R.length) : (ringT key R).getD i [] = newT key (R.getD i []) := by simp [ringT, h]
theorem ringT_fit (key : Int) (l : List Bk) (R : List (List Bk)) (hl : l.length ≤ 1048576) (hR : R.length ≤ 3) : fitPm ⟨key, l, ringT key R⟩ := by
 have hlen : (ringT key R).length = R.length := by simp [ringT]
 have hz : ∀ i, lenR (ringT key R) i ≤ 16 := fun i => by
  by_cases h : i < R.length
  ·unfold lenR; rw [ringT_get _ _ _ h]; exact newT_sz key _
  ·unfold lenR; rw [List.getD_eq_getElem?_getD, List.getElem?_eq_none (by rw [hlen]; omega)]; exact Nat.zero_le _
 refine ⟨hl, by show (ringT key R).length ≤ _; omega, ?_, fun i hi => ?_, fun i hi j hj => ?_⟩
 ·have h := sumN_bd (lenR (ringT key R)) 16 hz (ringT key R).length
  show sumN (lenR (ringT key R)) (ringT key R).length ≤ 1048576
  rw [hlen] at h ⊢
  omega
 ·have hi' : i < R.length := by rw [← hlen]; exact hi
  show ((ringT key R).getD i []).length ≤ _
  rw [ringT_get _ _ _ hi', newT_len]; omega
 ·have hi' : i < R.length := by rw [← hlen]; exact hi
  show (((ringT key R).getD i []).getD j []).length ≤ _
  rw [ringT_get _ _ _ hi']
  have := newT_row key (R.getD i []) j; omega
theorem pm0_in (lo hi : Nat) (w : World) (h : lo ≤ hi) : InPm lo hi w (plv 0 (.slice none 0 0) (.slice none 0 0)) pm0 := ⟨_, _, lo, rfl, Nat.le_refl _, h, ⟨World.ownsRow_nil _ _ _ _, fun b e => by cases e⟩, ⟨[], fun _ => 0, fun _ => 0, ⟨World.ownsRow_nil _ _ _ _, fun b e => by cases e⟩, Rw.nil _ _ _ _ _ _ _, fun i h => absurd h (Nat.not_lt_zero _)⟩⟩
end Go.Proofs.YtajfkcpifnpkeaaGreat

/- The program's poolFrom. -/
namespace Go.Proofs.YtajfkcpifnpkeaaGreat
open Go.ChangeShapes Go.WideShapes Go.ChangeAt Go.RowKit Go.Joins
set_option linter.unusedVariables false
set_option linter.unusedSimpArgs false

/-- A pool that may be. -/
def poolB (m : Pm) : Bool := keyB m.key && backsOkB m.l && decide (1 ≤ m.ring.length) && decide (m.ring.length ≤ 3) && (List.range m.ring.length).all (fun i => tabOkB (m.ring.getD i [])) && eqPtB (tabF (m.ring.getD 0 [])) (newF m.key m.l)
theorem poolB_no {m : Pm} (h : keyB m.key = false ∨ backsOkB m.l = false ∨ m.ring.length < 1 ∨ 3 < m.ring.length ∨ (∃ i, i < m.ring.length ∧ tabOkB (m.ring.getD i []) = false) ∨ eqPtB (tabF (m.ring.getD 0 [])) (newF m.key m.l) = false) : poolB m = false := by
 rw [Bool.eq_false_iff]
 intro hb
 unfold poolB at hb
 simp only [Bool.and_eq_true, decide_eq_true_eq, List.all_eq_true, List.mem_range] at hb
 obtain ⟨⟨⟨⟨⟨h1, h2⟩, h3⟩, h4⟩, h5⟩, h6⟩ := hb
 rcases h with h | h | h | h | ⟨i, hi, h⟩ | h
 ·rw [h1] at h; cases h
 ·rw [h2] at h; cases h
 ·omega
 ·omega
 ·rw [h5 i hi] at h; cases h
 ·rw [h6] at h; cases h
theorem poolB_yes {m : Pm} (h1 : keyB m.key = true) (h2 : backsOkB m.l = true) (h3 : 1 ≤ m.ring.length) (h4 : m.ring.length ≤ 3) (h5 : ∀ i, i < m.ring.length → tabOkB (m.ring.getD i []) = true) (h6 : eqPtB (tabF (m.ring.getD 0 [])) (newF m.key m.l) = true) : poolB m = true := by
 unfold poolB
 simp only [Bool.and_eq_true, decide_eq_true_eq, List.all_eq_true, List.mem_range]
 exact ⟨⟨⟨⟨⟨h1, h2⟩, h3⟩, h4⟩, h5⟩, h6⟩
/-- What poolFrom tells. -/
def FromP (m : Pm) (o : Option Addr) (cap : Nat) (w : World) (e : Ending) (w' : World) : Prop := ∃ vP, e = .returned (.tuple #[vP, .bool (poolB m)]) ∧ (poolB m = true → ∃ o2 c2, vP = polv m.key (.slice o m.l.length cap) (.slice o2 m.ring.length c2) ∧ ownL layT 240 w' w.heap.size (.slice o2 m.ring.length c2) (m.ring.map tabF)) ∧ (poolB m = false → vP = polv 0 (.slice none 0 0) (.slice none 0 0)) ∧ Below w.heap.size w w'
theorem from_no {m : Pm} {o : Option Addr} {cap : Nat} {w w' : World} (h : poolB m = false) (hb : Below w.heap.size w w') : FromP m o cap w (.returned (.tuple #[polv 0 (.slice none 0 0) (.slice none 0 0), .bool false])) w' :=
 ⟨_, by rw [h], fun h' => absurd (h.symm.trans h') (by simp), fun _ => rfl, hb⟩
theorem one_rdT (w : World) (f : Pt) : RdL layT (w.alloc (.cells (ptA f) 240)).heap.size (w.alloc (.cells (ptA f) 240)) (some ⟨w.heap.size, 0, none⟩) [f] := ownL.rd (L := layT) (one_ownT w f)
theorem take_tab (R : List (List (List Int))) (i : Nat) (h : i < R.length) : (R.map tabF).take (i + 1) = (R.map tabF).take i ++ [tabF (R.getD i [])] := by
 have hk : i < (R.map tabF).length := by rw [List.length_map]; exact h
 rw [List.take_succ_eq_append_getElem hk]
 simp [h]
theorem own_someT {w : World} {base : Nat} {v : Value} {fs : List Pt} (h : ownL layT 240 w base v fs) (hp : 0 < fs.length) : ∃ g c, v = .slice (some ⟨g, 0, none⟩) fs.length c := by
 rcases h.2 with ⟨_, h0⟩ | ⟨g, cap, cur, e, _⟩
 ·omega
 ·exact ⟨g, cap, e⟩
theorem own_range {w : World} {base g n c : Nat} {lll : List (List (List Int))} (h : ownL layT 240 w base (.slice (some ⟨g, 0, none⟩) n c) (lll.map tabF)) (hp : 0 < lll.length) : w.rangeAt g 0 (ptL (tabF (lll.getD 0 []))) := by
 rcases ownL.rds (L := layT) h with h1 | ⟨b, off, e, _, r⟩
 ·have : (lll.map tabF).length = 0 := by rw [h1]; rfl
  rw [List.length_map] at this; omega
 ·injection e with e
  injection e with e1 e2 e3
  subst e1 e2
  have h2 := RdL.range r 0 (by rw [List.length_map]; exact hp)
  have e4 : (lll.map tabF).getD 0 ptZ = tabF (lll.getD 0 []) := by simp [hp]
  rw [e4] at h2
  simpa using h2
theorem bx_all {W : World} {B : Nat} {x y z : Value} {T : TypeId} (h : W.heap[B]? = some (.cells #[x, y, z] T (0, 0))) : W.cell? ⟨B, 0, none⟩ = some x ∧ W.cell? ⟨B, 1, none⟩ = some y ∧ W.cell? ⟨B, 2, none⟩ = some z ∧ W.frozen? ⟨B, 0, none⟩ = false ∧ W.frozen? ⟨B, 1, none⟩ = false ∧ W.frozen? ⟨B, 2, none⟩ = false :=
 ⟨bx_cell h 0 _ rfl, bx_cell h 1 _ rfl, bx_cell h 2 _ rfl, bx_frozen h 0, bx_frozen h 1, bx_frozen h 2⟩
theorem guardPt : Tryz.prog.eqGuardType Tryz.prog.depth 240 = false := by kernel_rfl

set_option maxRecDepth 100000 in
set_option maxHeartbeats 16000000 in
theorem poolFrom_go (key : Int) (o : Option Addr) (cap : Nat) (l : List Bk) (oR : Option Addr) (cR : Nat) (lll : List (List (List Int))) (n : Nat) (hnn : n = lll.length) (w : World) (hR : RdK w.heap.size w o l) (hG : RiR 0 w.heap.size w (.slice oR n cR) lll) (hf : fitPm ⟨key, l, lll⟩) :
  Calls Tryz.prog 175 #[plv key (.slice o l.length cap) (.slice oR n cR)] w fun e w' => FromP ⟨key, l, lll⟩ o cap w e w' := by
 have HNN := hide hnn
 obtain ⟨hf1, hf2, hf3, hf4, hf5⟩ := hf
 dsimp only at hf1 hf2 hf3 hf4 hf5
 rw [← hnn] at hf2
 have HX := hide hf4
 have HY := hide hf5
 clear hnn hf4 hf5 hf3
 obtain ⟨W0, hW0⟩ : ∃ W, ((w.alloc (.cells #[.int .i64 key, .slice o l.length cap, .slice oR n cR] 41)).alloc (.cells #[.int .i64 0, .slice none 0 0, .slice none 0 0] 213)) = W := ⟨_, rfl⟩
 have hb_W0 : Below w.heap.size w W0 := by rw [← hW0]; exact (((Below.refl _ _).alloc (Nat.le_refl _) _).alloc (by simp <;> omega) _)
 have HB := hide hb_W0
 clear hb_W0
 have zz : w.heap.size < W0.heap.size := by rw [← hW0]; simp <;> omega
 have z0 : W0.cell? ⟨w.heap.size, 0, none⟩ = some (.int .i64 key) := by rw [← hW0]; simp [go_sem]
 have z1 : W0.cell? ⟨w.heap.size, 1, none⟩ = some (.slice o l.length cap) := by rw [← hW0]; simp [go_sem]
 have z2 : W0.cell? ⟨w.heap.size, 2, none⟩ = some (.slice oR n cR) := by rw [← hW0]; simp [go_sem]
 have zr : w.heap.size + 1 < W0.heap.size := by rw [← hW0]; simp
 have r0 : W0.cell? ⟨w.heap.size + 1, 0, none⟩ = some (.int .i64 0) := by rw [← hW0]; simp [go_sem]
 have r1 : W0.cell? ⟨w.heap.size + 1, 1, none⟩ = some (.slice none 0 0) := by rw [← hW0]; simp [go_sem]
 have r2 : W0.cell? ⟨w.heap.size + 1, 2, none⟩ = some (.slice none 0 0) := by rw [← hW0]; simp [go_sem]
 have fr0 : W0.frozen? ⟨w.heap.size + 1, 0, none⟩ = false := by rw [← hW0]; simp [go_sem]
 have fr1 : W0.frozen? ⟨w.heap.size + 1, 1, none⟩ = false := by rw [← hW0]; simp [go_sem]
 have fr2 : W0.frozen? ⟨w.heap.size + 1, 2, none⟩ = false := by rw [← hW0]; simp [go_sem]
 have HR0 := hide (show W0.heap[w.heap.size + 1]? = some (.cells #[.int .i64 0, .slice none 0 0, .slice none 0 0] 213 (0, 0)) by rw [← hW0]; exact box_new2 w _ _ _)
 have hzr := zr
 have hzz0 := zz
 have HKE := hide (fun W => isKey_any key W)
 have HBO := hide (implBacksOk_any o cap l W0 ((hR.kept HB.out (Nat.le_refl _)).le HB.out.size) hf1)
 have HRK := hide hR
 have HG := hide hG
 clear hR hG
 have HNO := hide (fun h => poolB_no (m := ⟨key, l, lll⟩) h)
 have hw0 := HB.out.size
 cases hk : keyB key with
 | false =>
  rw [hk] at HKE
  go_enter Tryz.func175, Tryz.ntmps175
  go_wp2_with (first | (go_at_call 184; refine (HKE.out _).mono ?_; rintro e w1 ⟨rfl, rfl⟩) | (go_at_call 209; refine HBO.out.mono ?_; rintro e w2 ⟨rfl, hb2⟩; have hb2 := hide hb2))
  refine bodyPost_ret (v := .tuple #[polv 0 (.slice none 0 0) (.slice none 0 0), .bool false]) (by simp [results, Tryz.results175, go_sem, r0, r1, r2]) rfl (from_no (HNO.out (.inl hk)) (setQ_below HB.out (Nat.le_succ _) _ _ _))
 | true =>
  rw [hk] at HKE
  have HK := hide hk
  clear hk
  cases hbo : backsOkB l with
  | false =>
   rw [hbo] at HBO
   go_enter Tryz.func175, Tryz.ntmps175
   go_wp2_with (first | (go_at_call 184; refine (HKE.out _).mono ?_; rintro e w1 ⟨rfl, rfl⟩) | (go_at_call 209; refine HBO.out.mono ?_; rintro e w2 ⟨rfl, hb2⟩; have s0 := bC hb2 r0 zr; have s1 := bC hb2 r1 zr; have s2 := bC hb2 r2 zr; have t0 := bF hb2 fr0 zr; have t1 := bF hb2 fr1 zr; have t2 := bF hb2 fr2 zr; have hb2 := hide hb2))
   refine bodyPost_ret (v := .tuple #[polv 0 (.slice none 0 0) (.slice none 0 0), .bool false]) (by simp [results, Tryz.results175, go_sem, s0, s1, s2]) rfl (from_no (HNO.out (.inr (.inl hbo))) (setQ_below (HB.out.trans (hb2.out.mono HB.out.size)) (Nat.le_succ _) _ _ _))
  | true =>
   rw [hbo] at HBO
   have HBK := hide hbo
   clear hbo
   by_cases h1 : (n : Int) < 1
   ·go_enter Tryz.func175, Tryz.ntmps175
    go_wp2_with (first | (go_at_call 184; refine (HKE.out _).mono ?_; rintro e w1 ⟨rfl, rfl⟩) | (go_at_call 209; refine HBO.out.mono ?_; rintro e w2 ⟨rfl, hb2⟩; have s0 := bC hb2 r0 zr; have s1 := bC hb2 r1 zr; have s2 := bC hb2 r2 zr; have t0 := bF hb2 fr0 zr; have t1 := bF hb2 fr1 zr; have t2 := bF hb2 fr2 zr; have y0 := bC hb2 z0 zz; have y1 := bC hb2 z1 zz; have y2 := bC hb2 z2 zz; have hb2 := hide hb2))
    refine bodyPost_ret (v := .tuple #[polv 0 (.slice none 0 0) (.slice none 0 0), .bool false]) (by simp [results, Tryz.results175, go_sem, s0, s1, s2]) rfl (from_no (HNO.out (.inr (.inr (.inl (show lll.length < 1 by have := HNN.out; omega))))) (setQ_below (HB.out.trans (hb2.out.mono HB.out.size)) (Nat.le_succ _) _ _ _))
   by_cases h3 : (3 : Int) < (n : Int)
   ·go_enter Tryz.func175, Tryz.ntmps175
    go_wp2_with (first | (go_at_call 184; refine (HKE.out _).mono ?_; rintro e w1 ⟨rfl, rfl⟩) | (go_at_call 209; refine HBO.out.mono ?_; rintro e w2 ⟨rfl, hb2⟩; have s0 := bC hb2 r0 zr; have s1 := bC hb2 r1 zr; have s2 := bC hb2 r2 zr; have t0 := bF hb2 fr0 zr; have t1 := bF hb2 fr1 zr; have t2 := bF hb2 fr2 zr; have y0 := bC hb2 z0 zz; have y1 := bC hb2 z1 zz; have y2 := bC hb2 z2 zz; have hb2 := hide hb2))
    refine bodyPost_ret (v := .tuple #[polv 0 (.slice none 0 0) (.slice none 0 0), .bool false]) (by simp [results, Tryz.results175, go_sem, s0, s1, s2]) rfl (from_no (HNO.out (.inr (.inr (.inr (.inl (show 3 < lll.length by have := HNN.out; omega)))))) (setQ_below (HB.out.trans (hb2.out.mono HB.out.size)) (Nat.le_succ _) _ _ _))
   have h1n : 1 ≤ n := by omega
   have h3n : n ≤ 3 := by omega
   go_enter Tryz.func175, Tryz.ntmps175
   go_wp2_with (first | (go_at_call 184; refine (HKE.out _).mono ?_; rintro e w1 ⟨rfl, rfl⟩) | (go_at_call 209; refine HBO.out.mono ?_; rintro e w2 ⟨rfl, hb2⟩; have s0 := bC hb2 r0 zr; have s1 := bC hb2 r1 zr; have s2 := bC hb2 r2 zr; have t0 := bF hb2 fr0 zr; have t1 := bF hb2 fr1 zr; have t2 := bF hb2 fr2 zr; have y0 := bC hb2 z0 zz; have y1 := bC hb2 z1 zz; have y2 := bC hb2 z2 zz; have hb2 := hide hb2))
   have hs2 := hb2.out.size
   have HBC := hide (HB.out.trans (hb2.out.mono HB.out.size))
   have HRB := hide ((hb2.out.block _ hzr).trans HR0.out)
   clear z0 z1 z2 r0 r1 r2 fr0 fr1 fr2 s0 s1 s2 t0 t1 t2 HKE HBO
   go_loopw [4, 35] (fun rv iv wr => ∃ (i : Nat), i ≤ n ∧ iv = .int .i64 (i : Int) ∧ Hid (ownL layT 240 wr w2.heap.size rv ((lll.map tabF).take i)) ∧ Hid (∀ j, j < i → tabOkB (lll.getD j []) = true) ∧ Hid (Below w2.heap.size w2 wr))
    (fun _ iv _ => n - (intOf iv).toNat)
   case atStart => exact ⟨0, Nat.zero_le _, rfl, by rw [List.take_zero]; exact World.ownsRow_nil _ _ _ _, fun j hj => absurd hj (Nat.not_lt_zero _), Below.refl _ _⟩
   case round =>
    rename_i rv _
    obtain ⟨i, hi', rfl, HOW, HOK, HBR⟩ := hrel
    have hsr := HBR.out.size
    have y0w := bC HBR.out y0 (by omega)
    have y1w := bC HBR.out y1 (by omega)
    have y2w := bC HBR.out y2 (by omega)
    have HBW := hide (HBC.out.trans (HBR.out.mono (show w.heap.size ≤ w2.heap.size by omega)))
    have hrb := (HBR.out.block _ (show w.heap.size + 1 < w2.heap.size by omega)).trans HRB.out
    by_cases hlt : i < n
    ·skip
     have hlt' : (i : Int) < (n : Int) := by omega
     have hif : i < lll.length := by rw [← HNN.out]; exact hlt
     obtain ⟨b, off, o', c', rfl, hbl, hcu0, hru0⟩ := HG.out.at (Nat.le_refl _) i hif
     have hcu := bC HBW.out hcu0 hbl
     have hru := (hru0.kept HBW.out (Nat.le_refl _)).le HBW.out.size
     have HTK := hide (take_tab lll i hif)
     have hxi := HX.out i hif
     have hyi := HY.out i hif
     have HNI := hide (fun h => HNO.out (.inr (.inr (.inr (.inr (.inl ⟨i, hif, h⟩))))))
     have HPT := hide (pairTableFrom_any o' c' (lll.getD i []) wr hru hxi hyi)
     clear hcu0 hru0 hru hxi hyi
     obtain ⟨ll, hll⟩ : ∃ ll, lll.getD i [] = ll := ⟨_, rfl⟩
     rw [hll] at hcu HTK HNI HPT
     have HLL := hide hll
     clear hll
     obtain ⟨m, hm⟩ : ∃ m, ll.length = m := ⟨_, rfl⟩
     rw [hm] at hcu HPT
     clear hm
     cases hok : tabOkB ll with
     | false =>
      rw [hok] at HPT
      simp only [Bool.false_eq_true, if_false] at HPT
      have g0 := bx_frozen hrb 0
      have g1 := bx_frozen hrb 1
      have g2 := bx_frozen hrb 2
      go_wp2_with fail
      refine HPT.out.mono ?_
      rintro e v1 ⟨rfl, hb1⟩
      have hs1 := hb1.size
      have hrb1 := (hb1.block _ (show w.heap.size + 1 < wr.heap.size by omega)).trans hrb
      obtain ⟨W2, hW2⟩ : ∃ W, v1.alloc (.cells (ptA ptZ) 240) = W := ⟨_, rfl⟩
      have hrb2 : W2.heap[w.heap.size + 1]? = some (.cells #[.int .i64 0, .slice none 0 0, .slice none 0 0] 213 (0, 0)) := by rw [← hW2]; exact (Below.heap_alloc _ _ _ (by omega)).trans hrb1
      have HB2 : Hid (Below w.heap.size w W2) := by rw [← hW2]; exact (HBW.out.trans (hb1.mono HBW.out.size)).alloc (by have := HBW.out.size; omega) _
      have q0 : W2.cell? ⟨w.heap.size + 1, 0, none⟩ = some (.int .i64 0) := bx_cell hrb2 0 _ rfl
      have gq0 := bx_frozen hrb2 0
      have q1 : W2.cell? ⟨w.heap.size + 1, 1, none⟩ = some (.slice none 0 0) := bx_cell hrb2 1 _ rfl
      have gq1 := bx_frozen hrb2 1
      have q2 : W2.cell? ⟨w.heap.size + 1, 2, none⟩ = some (.slice none 0 0) := bx_cell hrb2 2 _ rfl
      have gq2 := bx_frozen hrb2 2
      clear hb1 hrb1 hrb2
      go_wp2_with (first | (refine wpList_store_pt rfl (.tmp 7) (.tmp 42) rfl v1.heap.size ptZ ptZ rfl rfl (World.alloc_heap_new v1 _) ?_; rw [World.setRow_alloc_new, hW2]))
      refine bodyPost_ret (v := .tuple #[polv 0 (.slice none 0 0) (.slice none 0 0), .bool false]) (by simp [results, Tryz.results175, go_sem, q0, q1, q2]) rfl (from_no (HNI.out hok) (setQ_below HB2.out (Nat.le_succ _) _ _ _))
     | true =>
      have HOKI := hide hok
      rw [hok] at HPT
      simp only [if_true] at HPT
      clear hok
      obtain ⟨f, hf⟩ : ∃ f, tabF ll = f := ⟨_, rfl⟩
      rw [hf] at HPT HTK
      clear hf
      go_wp2_with fail
      refine HPT.out.mono ?_
      rintro e v1 ⟨rfl, hb1⟩
      have hs1 := hb1.size
      obtain ⟨W2, hW2⟩ : ∃ W, v1.alloc (.cells (ptA f) 240) = W := ⟨_, rfl⟩
      have hb2' : Below wr.heap.size wr W2 := by rw [← hW2]; exact hb1.alloc hs1 _
      have HZ5 : Hid (W2.heap[v1.heap.size]? = some (.cells (ptA f) 240 (0, 0))) := by rw [← hW2]; exact World.alloc_heap_new v1 _
      have HOW2 := hide (own_kept HOW.out hb2')
      have HB3 := hide (HBR.out.trans (hb2'.mono hsr))
      have hs3 := hb2'.size
      obtain ⟨oq, cq, eq, _⟩ := ownL.open (L := layT) HOW.out
      have HLN := hide (show ((lll.map tabF).take i).length = i by rw [List.length_take, List.length_map]; omega)
      rw [HLN.out] at eq
      subst eq
      clear hb1 hb2'
      obtain ⟨W3, hW3⟩ : ∃ W, W2.alloc (.cells (ptA f) 240) = W := ⟨_, rfl⟩
      have hb3 : Below W2.heap.size W2 W3 := by rw [← hW3]; exact (Below.refl _ _).alloc (Nat.le_refl _) _
      have HRO := hide (show RdL layT W3.heap.size W3 (some ⟨W2.heap.size, 0, none⟩) [f] by rw [← hW3]; exact one_rdT W2 f)
      have HOW3 := hide (own_kept HOW2.out hb3)
      have HB4 := hide (HB3.out.trans (hb3.mono (by omega)))
      have hs4 := hb3.size
      clear hb3
      go_wp2_with (first | (refine wpList_store_pt rfl (.tmp 7) (.tmp 42) rfl v1.heap.size f ptZ rfl rfl (World.alloc_heap_new v1 _) ?_; rw [World.setRow_alloc_new, hW2]) | (refine wpList_load_pt rfl (.tmp 7) rfl v1.heap.size rfl f HZ5.out ?_) | (refine wpList_one_pt rfl (.tmp 48) rfl f rfl ?_; rw [hW3]) | (at_builtin; refine wpList_append_lay appT rfl (.tmp 47) (.tmp 49) rfl w2.heap.size (.slice oq i cq) ((lll.map tabF).take i) rfl HOW3.out (some ⟨W2.heap.size, 0, none⟩) 1 W3.heap.size [f] 1 rfl rfl (by simp) HRO.out (by rw [HLN.out]; simp; omega) (by omega) ?_))
      intro v8 w8 ho8 hg8 _
      have HB8 := hide (HB4.out.grown hg8 (by omega) (fun k h => (HOW3.out.lt k h).1))
      have HO8 := hide ho8
      clear ho8 hg8
      go_wp2
      go_roundw
      case rel => exact ⟨i + 1, by omega, by go_num, by rw [HTK.out]; exact HO8.out, (fun j hj => by rcases Nat.lt_succ_iff_lt_or_eq.1 hj with h' | h'; (· exact HOK.out j h'); (· rw [h', HLL.out]; exact HOKI.out)), HB8.out⟩
      case measure => simp [intOf]; omega
    ·skip
     have e : i = n := by omega
     subst e
     have HALL := hide (show (lll.map tabF).take i = lll.map tabF by rw [HNN.out, show lll.length = (lll.map tabF).length by simp, List.take_length])
     rw [HALL.out] at HOW
     obtain ⟨g, cq, eq⟩ := own_someT HOW.out (by rw [List.length_map, ← HNN.out]; omega)
     rw [List.length_map, ← HNN.out] at eq
     subst eq
     have HRG := hide (show wr.rangeAt g 0 (ptL (tabF (lll.getD 0 []))) from own_range HOW.out (by rw [← HNN.out]; omega))
     have hgl : g < wr.heap.size := (HOW.out.lt g rfl).2
     have HYS := hide (fun h6 => poolB_yes (m := ⟨key, l, lll⟩) HK.out HBK.out (by show 1 ≤ lll.length; rw [← HNN.out]; exact h1n) (by show lll.length ≤ 3; rw [← HNN.out]; exact h3n) (fun j hj => HOK.out j (by rw [HNN.out]; exact hj)) h6)
     have HN6 := hide (fun h6 => HNO.out (.inr (.inr (.inr (.inr (.inr h6))))))
     have HNT := hide (newestTable_any key o cap l wr.drew ((HRK.out.kept HBW.out (Nat.le_refl _)).le HBW.out.size) hf1 HK.out HBK.out)
     have HEQ := hide (fun W => eq_pt (tabF (lll.getD 0 [])) (newF key l) W)
     obtain ⟨f0, hf0⟩ : ∃ f, tabF (lll.getD 0 []) = f := ⟨_, rfl⟩
     obtain ⟨f1, hf1'⟩ : ∃ f, newF key l = f := ⟨_, rfl⟩
     dsimp only at HYS HN6
     rw [hf0, hf1'] at HYS HN6 HEQ
     rw [hf0] at HRG
     rw [hf1'] at HNT
     clear hf0 hf1'
     have h0n : (0 : Int) < (i : Int) := by omega
     have hine : ¬ (i = 0) := by omega
     have hgd := guardPt
     have HRB1 := hide hrb
     clear hrb h1 h3
     have HALLB := hide (fun v1 (hb : Below wr.heap.size wr v1) => bx_all ((hb.block _ (show w.heap.size + 1 < wr.heap.size by omega)).trans HRB1.out))
     have hzwr : w.heap.size < wr.heap.size := by omega
     cases hr : eqPtB f0 f1 with
     | false =>
      go_wp2
      refine wp_region_held_drew (S := (fun w' => w'.rangeAt g 0 (ptL f0) ∧ w'.cell? ⟨w.heap.size, 0, none⟩ = some (.int .i64 key) ∧ w'.cell? ⟨w.heap.size, 1, none⟩ = some (.slice o l.length cap))) (by kernel_rfl) ⟨HRG.out, y0w, y1w⟩ (fun hHeld => ?_)
      refine wpAnyH_take (i := 0) (oi := _) (v := .slice (some ⟨g, 0, none⟩) i cq) rfl (by kernel_rfl) (by kernel_rfl) (by kernel_rfl) (fun _ _ _ h => h) (Or.inl ⟨by rfl, fun w hSw => by obtain ⟨_, hS1, hS2⟩ := hSw; go_simp⟩) hHeld ?_
      try simp only [Act.put, List.setIfInBounds_toArray, List.set_cons_zero, List.set_cons_succ]
      refine wpAnyH_take (i := 1) (oi := _) (v := .pointer (some ⟨g, 0, none⟩)) rfl (by kernel_rfl) (by kernel_rfl) (by kernel_rfl) (fun _ _ _ h => h) (Or.inl ⟨by rfl, fun w hSw => by obtain ⟨_, hS1, hS2⟩ := hSw; go_simp⟩) hHeld ?_
      try simp only [Act.put, List.setIfInBounds_toArray, List.set_cons_zero, List.set_cons_succ]
      refine wpAnyH_take (i := 2) (oi := _) (v := ptv f0) rfl (by kernel_rfl) (by kernel_rfl) (by kernel_rfl) (fun _ _ _ h => h) (yieldsIf_load_mid (by rfl) _ _ rfl g 0 rfl (ptL f0) _ (fun w h => h.1) ptU rfl ptI) hHeld ?_
      try simp only [Act.put, List.setIfInBounds_toArray, List.set_cons_zero, List.set_cons_succ]
      refine wpAnyH_take (i := 3) (oi := _) (v := .pointer (some ⟨w.heap.size, 0, none⟩)) rfl (by kernel_rfl) (by kernel_rfl) (by kernel_rfl) (fun _ _ _ h => h) (Or.inl ⟨by rfl, fun w hSw => by obtain ⟨_, hS1, hS2⟩ := hSw; go_simp⟩) hHeld ?_
      try simp only [Act.put, List.setIfInBounds_toArray, List.set_cons_zero, List.set_cons_succ]
      refine wpAnyH_take (i := 4) (oi := _) (v := .int .i64 key) rfl (by kernel_rfl) (by kernel_rfl) (by kernel_rfl) (fun _ _ _ h => h) (Or.inl ⟨by rfl, fun w hSw => by obtain ⟨_, hS1, hS2⟩ := hSw; go_simp⟩) hHeld ?_
      try simp only [Act.put, List.setIfInBounds_toArray, List.set_cons_zero, List.set_cons_succ]
      refine wpAnyH_take (i := 5) (oi := _) (v := .pointer (some ⟨w.heap.size, 1, none⟩)) rfl (by kernel_rfl) (by kernel_rfl) (by kernel_rfl) (fun _ _ _ h => h) (Or.inl ⟨by rfl, fun w hSw => by obtain ⟨_, hS1, hS2⟩ := hSw; go_simp⟩) hHeld ?_
      try simp only [Act.put, List.setIfInBounds_toArray, List.set_cons_zero, List.set_cons_succ]
      refine wpAnyH_take (i := 6) (oi := _) (v := .slice o l.length cap) rfl (by kernel_rfl) (by kernel_rfl) (by kernel_rfl) (fun _ _ _ h => h) (Or.inl ⟨by rfl, fun w hSw => by obtain ⟨_, hS1, hS2⟩ := hSw; go_simp⟩) hHeld ?_
      try simp only [Act.put, List.setIfInBounds_toArray, List.set_cons_zero, List.set_cons_succ]
      refine wpAnyH_ready (rs := [7]) (by kernel_rfl) (by simp) ?_
      refine AllReadyH.cons rfl (fun K hK => ?_) AllReadyH.nil
      go_simp
      go_at_call 202
      refine HNT.out.mono ?_
      rintro e v1 ⟨rfl, hb4⟩
      replace hb4 : Below wr.heap.size wr v1 := (Below.drew (Below.refl _ _)).trans hb4
      have k0 := bC hb4 y0w hzwr
      have k1 := bC hb4 y1w hzwr
      have k2 := bC hb4 y2w hzwr
      have hra := range_kept HRG.out hb4 hgl
      obtain ⟨q0, q1, q2, gq0, gq1, gq2⟩ := HALLB.out v1 hb4
      have HB4 := hide hb4
      clear hb4
      go_wp2_with fail
      refine hK.out _ _ ⟨hra, k0, k1⟩ (fun hHeld => ?_)
      clear hK K
      try simp only [Act.put, List.setIfInBounds_toArray, List.set_cons_zero, List.set_cons_succ]
      refine wpAnyH_ready (rs := [8]) (by kernel_rfl) (by simp) ?_
      refine AllReadyH.cons rfl (fun K hK => ?_) AllReadyH.nil
      have heq := HEQ.out v1
      rw [hr] at heq
      go_simp
      refine hK.out _ _ ⟨hra, k0, k1⟩ (fun hHeld => ?_)
      clear hK K hHeld heq
      try simp only [Act.put, List.setIfInBounds_toArray, List.set_cons_zero, List.set_cons_succ]
      refine wpAnyH_done (by kernel_rfl) ?_ _
      clear hra
      go_wp2
      refine bodyPost_ret (v := .tuple #[polv 0 (.slice none 0 0) (.slice none 0 0), .bool false]) (by simp [results, Tryz.results175, go_sem, q0, q1, q2]) rfl (from_no (HN6.out hr) (setQ_below (HBW.out.trans (HB4.out.mono HBW.out.size)) (Nat.le_succ _) _ _ _))
     | true =>
      go_wp2
      refine wp_region_held_drew (S := (fun w' => w'.rangeAt g 0 (ptL f0) ∧ w'.cell? ⟨w.heap.size, 0, none⟩ = some (.int .i64 key) ∧ w'.cell? ⟨w.heap.size, 1, none⟩ = some (.slice o l.length cap))) (by kernel_rfl) ⟨HRG.out, y0w, y1w⟩ (fun hHeld => ?_)
      refine wpAnyH_take (i := 0) (oi := _) (v := .slice (some ⟨g, 0, none⟩) i cq) rfl (by kernel_rfl) (by kernel_rfl) (by kernel_rfl) (fun _ _ _ h => h) (Or.inl ⟨by rfl, fun w hSw => by obtain ⟨_, hS1, hS2⟩ := hSw; go_simp⟩) hHeld ?_
      try simp only [Act.put, List.setIfInBounds_toArray, List.set_cons_zero, List.set_cons_succ]
      refine wpAnyH_take (i := 1) (oi := _) (v := .pointer (some ⟨g, 0, none⟩)) rfl (by kernel_rfl) (by kernel_rfl) (by kernel_rfl) (fun _ _ _ h => h) (Or.inl ⟨by rfl, fun w hSw => by obtain ⟨_, hS1, hS2⟩ := hSw; go_simp⟩) hHeld ?_
      try simp only [Act.put, List.setIfInBounds_toArray, List.set_cons_zero, List.set_cons_succ]
      refine wpAnyH_take (i := 2) (oi := _) (v := ptv f0) rfl (by kernel_rfl) (by kernel_rfl) (by kernel_rfl) (fun _ _ _ h => h) (yieldsIf_load_mid (by rfl) _ _ rfl g 0 rfl (ptL f0) _ (fun w h => h.1) ptU rfl ptI) hHeld ?_
      try simp only [Act.put, List.setIfInBounds_toArray, List.set_cons_zero, List.set_cons_succ]
      refine wpAnyH_take (i := 3) (oi := _) (v := .pointer (some ⟨w.heap.size, 0, none⟩)) rfl (by kernel_rfl) (by kernel_rfl) (by kernel_rfl) (fun _ _ _ h => h) (Or.inl ⟨by rfl, fun w hSw => by obtain ⟨_, hS1, hS2⟩ := hSw; go_simp⟩) hHeld ?_
      try simp only [Act.put, List.setIfInBounds_toArray, List.set_cons_zero, List.set_cons_succ]
      refine wpAnyH_take (i := 4) (oi := _) (v := .int .i64 key) rfl (by kernel_rfl) (by kernel_rfl) (by kernel_rfl) (fun _ _ _ h => h) (Or.inl ⟨by rfl, fun w hSw => by obtain ⟨_, hS1, hS2⟩ := hSw; go_simp⟩) hHeld ?_
      try simp only [Act.put, List.setIfInBounds_toArray, List.set_cons_zero, List.set_cons_succ]
      refine wpAnyH_take (i := 5) (oi := _) (v := .pointer (some ⟨w.heap.size, 1, none⟩)) rfl (by kernel_rfl) (by kernel_rfl) (by kernel_rfl) (fun _ _ _ h => h) (Or.inl ⟨by rfl, fun w hSw => by obtain ⟨_, hS1, hS2⟩ := hSw; go_simp⟩) hHeld ?_
      try simp only [Act.put, List.setIfInBounds_toArray, List.set_cons_zero, List.set_cons_succ]
      refine wpAnyH_take (i := 6) (oi := _) (v := .slice o l.length cap) rfl (by kernel_rfl) (by kernel_rfl) (by kernel_rfl) (fun _ _ _ h => h) (Or.inl ⟨by rfl, fun w hSw => by obtain ⟨_, hS1, hS2⟩ := hSw; go_simp⟩) hHeld ?_
      try simp only [Act.put, List.setIfInBounds_toArray, List.set_cons_zero, List.set_cons_succ]
      refine wpAnyH_ready (rs := [7]) (by kernel_rfl) (by simp) ?_
      refine AllReadyH.cons rfl (fun K hK => ?_) AllReadyH.nil
      go_simp
      go_at_call 202
      refine HNT.out.mono ?_
      rintro e v1 ⟨rfl, hb4⟩
      replace hb4 : Below wr.heap.size wr v1 := (Below.drew (Below.refl _ _)).trans hb4
      have k0 := bC hb4 y0w hzwr
      have k1 := bC hb4 y1w hzwr
      have k2 := bC hb4 y2w hzwr
      have hra := range_kept HRG.out hb4 hgl
      obtain ⟨q0, q1, q2, gq0, gq1, gq2⟩ := HALLB.out v1 hb4
      have HB4 := hide hb4
      clear hb4
      go_wp2_with fail
      refine hK.out _ _ ⟨hra, k0, k1⟩ (fun hHeld => ?_)
      clear hK K
      try simp only [Act.put, List.setIfInBounds_toArray, List.set_cons_zero, List.set_cons_succ]
      refine wpAnyH_ready (rs := [8]) (by kernel_rfl) (by simp) ?_
      refine AllReadyH.cons rfl (fun K hK => ?_) AllReadyH.nil
      have heq := HEQ.out v1
      rw [hr] at heq
      go_simp
      refine hK.out _ _ ⟨hra, k0, k1⟩ (fun hHeld => ?_)
      clear hK K hHeld heq
      try simp only [Act.put, List.setIfInBounds_toArray, List.set_cons_zero, List.set_cons_succ]
      refine wpAnyH_done (by kernel_rfl) ?_ _
      clear hra
      go_wp2
      refine bodyPost_ret (v := .tuple #[polv key (.slice o l.length cap) (.slice (some ⟨g, 0, none⟩) i cq), .bool true]) (by simp [results, Tryz.results175, go_sem, q0, q1, q2]) rfl ?_
      have hyes := HYS.out hr
      have hlow : w.heap.size + 1 < w2.heap.size := by omega
      have hown := own_low (own_low (own_low (own_kept HOW.out HB4.out) hlow 0 (.int .i64 key)) hlow 1 (.slice o l.length cap)) hlow 2 (.slice (some ⟨g, 0, none⟩) i cq)
      have hni := HNN.out
      subst hni
      exact ⟨_, by rw [hyes], fun _ => ⟨some ⟨g, 0, none⟩, cq, rfl, own_mono hown (by omega)⟩, fun h => absurd (h.symm.trans hyes) (by simp), setQ_below (HBW.out.trans (HB4.out.mono HBW.out.size)) (Nat.le_succ _) _ _ _⟩

end Go.Proofs.YtajfkcpifnpkeaaGreat

/- Moved on both sides. -/
namespace Go.Proofs.YtajfkcpifnpkeaaGreat
open Go.ChangeShapes Go.WideShapes Go.ChangeAt Go.RowKit Go.Joins
set_option linter.unusedVariables false
set_option linter.unusedSimpArgs false

/-- How many of the first k rows are unlike. -/
def movedTo (aa bb : List (List Int)) : Nat → Int
 | 0 => 0
 | k + 1 => movedTo aa bb k + (if aa.getD k [] = bb.getD k [] then 0 else 1)
theorem movedTo_bd (aa bb : List (List Int)) : ∀ k, 0 ≤ movedTo aa bb k ∧ movedTo aa bb k ≤ k
 | 0 => ⟨Int.le_refl _, Int.le_refl _⟩
 | k + 1 => by have := movedTo_bd aa bb k; unfold movedTo; split <;> omega
def movedI (aa bb : List (List Int)) : Int := if aa.length = 8 ∧ bb.length = 8 then movedTo aa bb 8 else -1

theorem movedI_no {aa bb : List (List Int)} (h : ¬ (aa.length = 8 ∧ bb.length = 8)) : -1 = movedI aa bb := by rw [movedI, if_neg h]
theorem movedTo_same {aa bb : List (List Int)} {k : Nat} {ra rb : List Int} (h1 : aa.getD k [] = ra) (h2 : bb.getD k [] = rb) (h : ra = rb) : movedTo aa bb k = movedTo aa bb (k + 1) := by
 unfold movedTo; rw [h1, h2, if_pos h]; cases k <;> simp [movedTo]
theorem movedTo_diff {aa bb : List (List Int)} {k : Nat} {ra rb : List Int} (h1 : aa.getD k [] = ra) (h2 : bb.getD k [] = rb) (h : ra ≠ rb) : movedTo aa bb k + 1 = movedTo aa bb (k + 1) := by
 rw [show movedTo aa bb (k + 1) = movedTo aa bb k + (if aa.getD k [] = bb.getD k [] then 0 else 1) from rfl, h1, h2, if_neg h]

set_option maxHeartbeats 1000000 in
theorem slicesEqual_any (o1 o2 : Option Addr) (c1 c2 : Nat) (l1 l2 : List Int) (w : World) (h1 : RdI w.heap.size w o1 l1) (h2 : RdI w.heap.size w o2 l2) (hl1 : l1.length ≤ 1048576) (hl2 : l2.length ≤ 1048576) :
  Calls Tryz.prog 225 #[.slice o1 l1.length c1, .slice o2 l2.length c2] w fun e w' => e = .returned (.bool (decide (l1 = l2))) ∧ Below w.heap.size w w' := by
 by_cases hlen : l1.length = l2.length
 ·have hne : ((l1.length : Int) != (l2.length : Int)) = false := by simp [hlen]
  have HL := hide hlen
  have hle : l1.length ≤ l2.length := by omega
  have hge : l2.length ≤ l1.length := by omega
  clear hlen
  go_enter Tryz.func225, Tryz.ntmps225
  go_wp2
  go_loopw [4, 13] (fun rv i wr => ∃ k : Nat, k ≤ l1.length ∧ i = .int .i64 k ∧ rv = .bool false ∧ l1.take k = l2.take k ∧ Below w.heap.size w wr)
   (fun _ i _ => l1.length - (intOf i).toNat)
  case atStart => exact ⟨0, Nat.zero_le _, rfl, rfl, rfl, Below.refl _ _⟩
  case round =>
   obtain ⟨k, hk, rfl, rfl, htk, hBr⟩ := hrel
   have HT := hide htk
   by_cases hlt : k < l1.length
   ·rcases h1 with h1 | ⟨b1, off1, rfl, hb1, hcell1⟩
    ·subst h1; simp at hlt
    rcases h2 with h2 | ⟨b2, off2, rfl, hb2, hcell2⟩
    ·subst h2; simp at hle; simp [hle] at hlt
    have hlt2 : k < l2.length := by omega
    have hc1 : wr.cell? ⟨b1, off1 + k, none⟩ = some (.int .i64 (l1.getD k 0)) := (hBr.cell (p := ⟨b1, off1 + k, none⟩) hb1).trans (RdL.int hcell1 k hlt)
    have hc2 : wr.cell? ⟨b2, off2 + k, none⟩ = some (.int .i64 (l2.getD k 0)) := (hBr.cell (p := ⟨b2, off2 + k, none⟩) hb2).trans (RdL.int hcell2 k hlt2)
    have HB := hide hBr
    have t1 := hide (take_succ_getD l1 k hlt)
    have t2 := hide (take_succ_getD l2 k hlt2)
    have N12 : Hid (l1 = l2 → l1.getD k 0 = l2.getD k 0) := fun h => by rw [h]
    clear hcell1 hcell2
    have i1 : (k : Int) < (l1.length : Int) := by omega
    have i2 : (k : Int) < (l2.length : Int) := by omega
    generalize l1.getD k 0 = x at *
    generalize l2.getD k 0 = y at *
    clear htk hBr
    by_cases hxy : x = y
    ·have hb : (x != y) = false := by simp [hxy]
     have HX := hide hxy
     clear hxy N12
     go_wp2
     go_quiet (fail)
     go_wp2
     go_roundw
     case rel =>
      refine ⟨k + 1, by omega, by go_num, rfl, ?_, ?_⟩
      ·rw [t1.out, t2.out, HT.out, HX.out]
      ·exact below_drewN HB.out _
     case measure => simp [intOf]; omega
    ·have hb : (x != y) = true := by simp [hxy]
     have HX : Hid (l1 ≠ l2) := fun h => hxy (N12.out h)
     clear hxy N12 t1 t2
     go_wp2
     go_quiet (fail)
     go_wp2
     go_ret
     exact ⟨ret_bool (decide_eq_false HX.out).symm, below_drewN HB.out _⟩
   ·have e : l1 = l2 := by
     have := htk; rw [List.take_of_length_le (by omega), List.take_of_length_le (by omega)] at this; exact this
    have HE := hide e
    have HB := hide hBr
    clear e htk hBr
    go_wp2
    go_ret
    exact ⟨ret_bool (decide_eq_true HE.out).symm, HB.out⟩
 ·have hne : ((l1.length : Int) != (l2.length : Int)) = true := by simp; omega
  have HE : Hid (l1 ≠ l2) := fun h => hlen (by rw [h])
  go_enter Tryz.func225, Tryz.ntmps225
  go_wp2
  go_ret
  exact ⟨ret_bool (decide_eq_false HE.out).symm, Below.refl _ _⟩

set_option maxHeartbeats 2000000 in
theorem implMoved_any (oa ob : Option Addr) (ca cb : Nat) (aa bb : List (List Int)) (w : World) (hA : RdLL w.heap.size w oa aa) (hB : RdLL w.heap.size w ob bb) (la : aa.length ≤ 1048576) (lb : bb.length ≤ 1048576)
  (xa : ∀ i, i < aa.length → (aa.getD i []).length ≤ 1048576) (xb : ∀ i, i < bb.length → (bb.getD i []).length ≤ 1048576) :
  Calls Tryz.prog 207 #[.slice oa aa.length ca, .slice ob bb.length cb] w fun e w' => e = .returned (.int .i64 (movedI aa bb)) ∧ Below w.heap.size w w' := by
 by_cases h8 : aa.length = 8 ∧ bb.length = 8
 ·have HE := hide (show movedTo aa bb 8 = movedI aa bb by rw [movedI, if_pos h8])
  obtain ⟨e1, e2⟩ := h8
  have HE1 := hide e1
  have HE2 := hide e2
  go_enter Tryz.func207, Tryz.ntmps207
  go_wp2
  clear e1 e2
  go_loopw [5, 18] (fun n i wr => ∃ k : Nat, k ≤ 8 ∧ i = .int .i64 k ∧ n = .int .i64 (movedTo aa bb k) ∧ Below w.heap.size w wr)
   (fun _ i _ => 8 - (intOf i).toNat)
  case atStart => exact ⟨0, Nat.zero_le _, rfl, rfl, Below.refl _ _⟩
  case round =>
   obtain ⟨k, hk, rfl, rfl, hBr⟩ := hrel
   have hbd := movedTo_bd aa bb k
   by_cases hlt : k < 8
   ·have i1 : k < aa.length := by rw [HE1.out]; exact hlt
    have i2 : k < bb.length := by rw [HE2.out]; exact hlt
    have j1 : (k : Int) < (aa.length : Int) := by omega
    have j2 : (k : Int) < (bb.length : Int) := by omega
    obtain ⟨b1, off1, o1', c1', rfl, hb1, hc1, hr1⟩ := hA.at (Nat.le_refl _) k i1
    obtain ⟨b2, off2, o2', c2', rfl, hb2, hc2, hr2⟩ := hB.at (Nat.le_refl _) k i2
    have hxa := xa k i1
    have hxb := xb k i2
    have hc1r := (hBr.cell (p := ⟨b1, off1 + k, none⟩) hb1).trans hc1
    have hc2r := (hBr.cell (p := ⟨b2, off2 + k, none⟩) hb2).trans hc2
    replace hr1 := (hr1.kept hBr (Nat.le_refl _)).le hBr.size
    replace hr2 := (hr2.kept hBr (Nat.le_refl _)).le hBr.size
    have HB := hide hBr
    clear hc1 hc2 xa xb hA hB hBr
    generalize hra : aa.getD k [] = ra at *
    generalize hrb : bb.getD k [] = rb at *
    have hq := slicesEqual_any o1' o2' c1' c2' ra rb wr hr1 hr2 hxa hxb
    clear hr1 hr2
    by_cases hab : ra = rb
    ·have HM := hide (movedTo_same hra hrb hab)
     rw [decide_eq_true hab] at hq
     clear hra hrb hab
     go_wp2_with fail
     refine hq.mono ?_
     rintro e w2 ⟨rfl, hb2'⟩
     go_wp2
     go_roundw
     case rel => exact ⟨k + 1, by omega, by go_num, by rw [HM.out], HB.out.trans (hb2'.mono HB.out.size)⟩
     case measure => simp [intOf]; omega
    ·have HM := hide (movedTo_diff hra hrb hab)
     rw [decide_eq_false hab] at hq
     clear hra hrb hab
     go_wp2_with fail
     refine hq.mono ?_
     rintro e w2 ⟨rfl, hb2'⟩
     go_wp2
     go_roundw
     case rel => exact ⟨k + 1, by omega, by go_num, by rw [← HM.out], HB.out.trans (hb2'.mono HB.out.size)⟩
     case measure => simp [intOf]; omega
   ·have e : k = 8 := by omega
    subst e
    go_wp2
    go_ret
    exact ⟨ret_int HE.out, hBr⟩
 ·have HN := hide (movedI_no h8)
  by_cases h1 : aa.length = 8
  ·have h2 : ¬ bb.length = 8 := fun h => h8 ⟨h1, h⟩
   have n2 : ((bb.length : Int) != 8) = true := by simp; omega
   go_enter Tryz.func207, Tryz.ntmps207
   go_wp2
   go_ret
   exact ⟨ret_int HN.out, Below.refl _ _⟩
  ·have n1 : ((aa.length : Int) != 8) = true := by simp; omega
   go_enter Tryz.func207, Tryz.ntmps207
   go_wp2
   go_ret
   exact ⟨ret_int HN.out, Below.refl _ _⟩

set_option maxHeartbeats 2000000 in
theorem specMoved_any (oa ob : Option Addr) (ca cb : Nat) (aa bb : List (List Int)) (w : World) (hA : RdLL w.heap.size w oa aa) (hB : RdLL w.heap.size w ob bb) (la : aa.length ≤ 1048576) (lb : bb.length ≤ 1048576)
  (xa : ∀ i, i < aa.length → (aa.getD i []).length ≤ 1048576) (xb : ∀ i, i < bb.length → (bb.getD i []).length ≤ 1048576) :
  Calls Tryz.prog 105 #[.slice oa aa.length ca, .slice ob bb.length cb] w fun e w' => e = .returned (.int .i64 (movedI aa bb)) ∧ Below w.heap.size w w' := by
 by_cases h8 : aa.length = 8 ∧ bb.length = 8
 ·have HE := hide (show movedTo aa bb 8 = movedI aa bb by rw [movedI, if_pos h8])
  obtain ⟨e1, e2⟩ := h8
  have HE1 := hide e1
  have HE2 := hide e2
  go_enter Tryz.func105, Tryz.ntmps105
  go_wp2
  have la8 : aa.length ≤ 8 := by omega
  have lb8 : 8 ≤ aa.length := by omega
  clear e1 e2
  go_loopw [5, 6] (fun n i wr => ∃ k : Nat, k ≤ 8 ∧ i = .int .i64 k ∧ n = .int .i64 (movedTo aa bb k) ∧ Below w.heap.size w wr)
   (fun _ i _ => 8 - (intOf i).toNat)
  case atStart => exact ⟨0, Nat.zero_le _, rfl, rfl, Below.refl _ _⟩
  case round =>
   obtain ⟨k, hk, rfl, rfl, hBr⟩ := hrel
   have hbd := movedTo_bd aa bb k
   by_cases hlt : k < 8
   ·have i1 : k < aa.length := by rw [HE1.out]; exact hlt
    have i2 : k < bb.length := by rw [HE2.out]; exact hlt
    have j1 : (k : Int) < (aa.length : Int) := by omega
    have j2 : (k : Int) < (bb.length : Int) := by omega
    obtain ⟨b1, off1, o1', c1', rfl, hb1, hc1, hr1⟩ := hA.at (Nat.le_refl _) k i1
    obtain ⟨b2, off2, o2', c2', rfl, hb2, hc2, hr2⟩ := hB.at (Nat.le_refl _) k i2
    have hxa := xa k i1
    have hxb := xb k i2
    have hc1r := (hBr.cell (p := ⟨b1, off1 + k, none⟩) hb1).trans hc1
    have hc2r := (hBr.cell (p := ⟨b2, off2 + k, none⟩) hb2).trans hc2
    have HB := hide hBr
    clear xa xb hA hB hBr
    generalize hra : aa.getD k [] = ra at *
    generalize hrb : bb.getD k [] = rb at *
    have HS := hide (movedTo_same hra hrb)
    have HD := hide (movedTo_diff hra hrb)
    clear hra hrb
    go_wp2
    go_quiet (fail)
    have hBq : Below w.heap.size w (wr.drewN nq) := below_drewN HB.out _
    have hq1 := (hBq.cell (p := ⟨b1, off1 + k, none⟩) hb1).trans hc1
    have hq2 := (hBq.cell (p := ⟨b2, off2 + k, none⟩) hb2).trans hc2
    clear HB hc1r hc2r
    generalize wr.drewN nq = wo at *
    have HBo := hide hBq
    clear hBq
    go_wp2
    go_loopw [7, 8] (fun s j wi => ∃ (q : Nat) (t : Bool), q ≤ ra.length ∧ j = .int .i64 q ∧ s = .bool t ∧ (t = true ↔ ra.length = rb.length ∧ ra.take q = rb.take q) ∧ Below w.heap.size w wi)
     (fun _ j _ => ra.length - (intOf j).toNat)
    case atStart => exact ⟨0, _, Nat.zero_le _, rfl, rfl, by simp [Int.ofNat_inj], HBo.out⟩
    case round =>
     obtain ⟨q, t, hq, rfl, rfl, ht, hBi⟩ := hrel
     have HT := hide ht
     have HBi := hide hBi
     have r1 := (hBi.cell (p := ⟨b1, off1 + k, none⟩) hb1).trans hc1
     have r2 := (hBi.cell (p := ⟨b2, off2 + k, none⟩) hb2).trans hc2
     clear ht hBi hq1 hq2
     by_cases hql : q < ra.length
     ·cases t with
      | true =>
       obtain ⟨HL, HTk⟩ := HT.out.1 rfl
       have hqr : q < rb.length := by omega
       have z1 : (q : Int) < (ra.length : Int) := by omega
       have z2 : (q : Int) < (rb.length : Int) := by omega
       have HL' := hide HL
       have HTk' := hide HTk
       rcases hr1 with hr1 | ⟨g1, f1, rfl, hg1, hcell1⟩
       ·subst hr1; simp at hql
       rcases hr2 with hr2 | ⟨g2, f2, rfl, hg2, hcell2⟩
       ·subst hr2; simp at hqr
       have y1 : wr.cell? ⟨g1, f1 + q, none⟩ = some (.int .i64 (ra.getD q 0)) := (HBi.out.cell (p := ⟨g1, f1 + q, none⟩) hg1).trans (RdL.int hcell1 q hql)
       have y2 : wr.cell? ⟨g2, f2 + q, none⟩ = some (.int .i64 (rb.getD q 0)) := (HBi.out.cell (p := ⟨g2, f2 + q, none⟩) hg2).trans (RdL.int hcell2 q hqr)
       have t1 := hide (take_succ_getD ra q hql)
       have t2 := hide (take_succ_getD rb q hqr)
       clear hcell1 hcell2 HT HL HTk hc1 hc2
       generalize ra.getD q 0 = x at *
       generalize rb.getD q 0 = y at *
       go_wp2
       go_quiet (fail)
       go_wp2
       go_roundw
       case rel =>
        refine ⟨q + 1, _, by omega, by go_num, rfl, ?_, below_drewN HBi.out _⟩
        rw [t1.out, t2.out, HTk'.out, List.append_cancel_left_eq]
        simp [HL'.out]
       case measure => simp [intOf]; omega
      | false =>
       have HN : Hid (ra ≠ rb) := fun h => by
        have := HT.out.2 ⟨by rw [h], by rw [h]⟩
        cases this
       have HM := hide (HD.out HN.out)
       have z1 : (q : Int) < (ra.length : Int) := by omega
       clear HT hc1 hc2
       go_wp2
       go_roundw
       case rel => exact ⟨k + 1, by omega, by go_num, by rw [← HM.out], HBi.out⟩
       case measure => simp [intOf]; omega
     ·have eq : q = ra.length := by omega
      subst eq
      have z1 : ¬ (ra.length : Int) < (ra.length : Int) := by omega
      cases t with
      | true =>
       have HY : Hid (ra = rb) := by
        obtain ⟨h1, h2⟩ := HT.out.1 rfl
        rw [List.take_of_length_le (Nat.le_refl _), List.take_of_length_le (by omega)] at h2
        exact h2
       have HM := hide (HS.out HY.out)
       clear HT hc1 hc2
       go_wp2
       go_roundw
       case rel => exact ⟨k + 1, by omega, by go_num, by rw [HM.out], HBi.out⟩
       case measure => simp [intOf]; omega
      | false =>
       have HN : Hid (ra ≠ rb) := fun h => by
        have := HT.out.2 ⟨by rw [h], by rw [h]⟩
        cases this
       have HM := hide (HD.out HN.out)
       clear HT hc1 hc2
       go_wp2
       go_roundw
       case rel => exact ⟨k + 1, by omega, by go_num, by rw [← HM.out], HBi.out⟩
       case measure => simp [intOf]; omega
   ·have e : k = 8 := by omega
    subst e
    have nl : ¬ (8 : Int) < (aa.length : Int) := by omega
    go_wp2
    go_ret
    exact ⟨ret_int HE.out, hBr⟩
 ·have HN := hide (movedI_no h8)
  by_cases h1 : aa.length = 8
  ·have h2 : ¬ bb.length = 8 := fun h => h8 ⟨h1, h⟩
   have n2 : ((bb.length : Int) != 8) = true := by simp; omega
   go_enter Tryz.func105, Tryz.ntmps105
   go_wp2
   go_ret
   exact ⟨ret_int HN.out, Below.refl _ _⟩
  ·have n1 : ((aa.length : Int) != 8) = true := by simp; omega
   go_enter Tryz.func105, Tryz.ntmps105
   go_wp2
   go_ret
   exact ⟨ret_int HN.out, Below.refl _ _⟩

end Go.Proofs.YtajfkcpifnpkeaaGreat

/- Pools as an argument of the laws: how they are opened, counted and copied. -/
namespace Go.Proofs.YtajfkcpifnpkeaaGreat
open Go.ChangeShapes Go.WideShapes Go.ChangeAt Go.RowKit Go.Joins
set_option linter.unusedVariables false
set_option linter.unusedSimpArgs false

theorem bx_allP {W : World} {B : Nat} {x y z : Value} {T : TypeId} (h : W.heap[B]? = some (.cells #[x, y, z] T (0, 0))) : W.cell? ⟨B, 0, none⟩ = some x ∧ W.cell? ⟨B, 1, none⟩ = some y ∧ W.cell? ⟨B, 2, none⟩ = some z ∧ W.frozen? ⟨B, 0, none⟩ = false ∧ W.frozen? ⟨B, 1, none⟩ = false ∧ W.frozen? ⟨B, 2, none⟩ = false :=
 ⟨bx_cell h 0 _ rfl, bx_cell h 1 _ rfl, bx_cell h 2 _ rfl, bx_frozen h 0, bx_frozen h 1, bx_frozen h 2⟩
theorem setP_belowT {C : Nat} {w W : World} {B : Nat} (h : Below C w W) (hB : C ≤ B) (x y z : Value) : Below C w (setP W B x y z) := ((h.setCell (p := ⟨B, 0, none⟩) hB _).setCell (p := ⟨B, 1, none⟩) hB _).setCell (p := ⟨B, 2, none⟩) hB _
theorem setP_sizeT (W : World) (B : Nat) (x y z : Value) : (setP W B x y z).heap.size = W.heap.size := by simp [World.setCell]
theorem stp_setT (W : World) (B : Nat) (x y z : Value) : Stp B (B + 1) W (setP W B x y z) := ((stp_set W B 0 x).trans (stp_set _ B 1 y)).trans (stp_set _ B 2 z)
theorem in_monoT {lo lo' hi : Nat} {w : World} {v : Value} {m : Pm} (h : InPm lo hi w v m) (hl : lo' ≤ lo) : InPm lo' hi w v m := by
 obtain ⟨vb, vr, mid, e, k1, k2, h1, h2⟩ := h
 exact ⟨vb, vr, mid, e, by omega, k2, InRow.mono h1 hl (Nat.le_refl _), h2⟩
theorem box_new3 (w : World) (c : Array Value) (T : TypeId) (o1 o2 : Obj) : (((w.alloc o1).alloc o2).alloc (.cells c T)).heap[w.heap.size + 1 + 1]? = some (.cells c T (0, 0)) := by
 have h := World.alloc_heap_new ((w.alloc o1).alloc o2) (.cells c T)
 rw [World.size_alloc, World.size_alloc] at h
 exact h
theorem box_mid3 (w : World) (c : Array Value) (T : TypeId) (o1 o2 : Obj) : (((w.alloc o1).alloc (.cells c T)).alloc o2).heap[w.heap.size + 1]? = some (.cells c T (0, 0)) := by
 have h := box_new2 w c T o1
 exact (Below.heap_alloc _ _ _ (by simp)).trans h
theorem fillU_step {T : TypeId} {wr : World} {base g : Nat} {hs : List Hd} {k n : Nat} {o : Option Addr} {m c : Nat} (hk : k < n) (hl : hs.length = k) (h : wr.ownsRow base T 1 (.slice (some ⟨g, 0, none⟩) n n) n ((hs ++ List.replicate (n - k) layH.d).flatMap layH.cs)) :
  (wr.setCell ⟨g, k, none⟩ (.slice o m c)).ownsRow base T 1 (.slice (some ⟨g, 0, none⟩) n n) n (((hs ++ [(o, m, c)]) ++ List.replicate (n - (k + 1)) layH.d).flatMap layH.cs) := by
 have h1 := (h.stored k (.slice o m c)).1
 rw [flat_set1 layH rfl (a := (o, m, c)) rfl] at h1
 have e1 : n - k = (n - (k + 1)) + 1 := by omega
 rw [e1, List.replicate_succ, List.set_append_right _ _ (by omega), hl, Nat.sub_self, List.set_cons_zero] at h1
 rw [List.append_assoc]
 exact h1
theorem RiT.at {a C : Nat} {w : World} {o : Option Addr} {n c : Nat} {ll : List (List Int)} (h : RiT a C w (.slice o n c) ll) (hC : C ≤ w.heap.size) (i : Nat) (hi : i < ll.length) : ∃ b off o' c', o = some ⟨b, off, none⟩ ∧ b < C ∧ w.cell? ⟨b, off + i, none⟩ = some (.slice o' (ll.getD i []).length c') ∧ RdI C w o' (ll.getD i []) := by
 obtain ⟨hs, h0, h1, h2⟩ := h
 obtain ⟨o1, c1, e, r⟩ := h1.open
 injection e with e1 e2 e3
 subst e1
 rcases r with r | ⟨b, off, ho, hb, r⟩
 ·subst r; simp at h0; omega
 ·obtain ⟨o', c', e', r'⟩ := (h2 i hi).open
  have hc := RdL.head r i (by omega)
  unfold hv at e'
  rw [e'] at hc
  exact ⟨b, off, o', c', ho, hb, hc, r'⟩

set_option maxRecDepth 100000 in
set_option maxHeartbeats 2000000 in
theorem toIntSS_in (v : Value) (xs : List (List Int)) (w : World) (hR : RiT 0 w.heap.size w v xs) (hlen : xs.length ≤ 1048576) (hx : ∀ i, i < xs.length → (xs.getD i []).length ≤ 1048576) :
  Calls Tryz.prog 161 #[v] w fun e w' => ∃ v', e = .returned v' ∧ InT w.heap.size w'.heap.size w' v' xs ∧ Below w.heap.size w w' := by
 obtain ⟨o, cap, ev⟩ : ∃ o c, v = .slice o xs.length c := by
  obtain ⟨hs, h0, ⟨o, c, e, _⟩, _⟩ := hR
  exact ⟨o, c, by rw [e, h0]⟩
 subst ev
 obtain ⟨i0, hi, hz0, hz1, hz2⟩ := info_parts infoIntS
 have HR0 := hide hR
 clear hR
 go_enter Tryz.func161, Tryz.ntmps161
 go_wp2_with (at_make; refine wpList_make_full _ rfl _ _ 152 rfl w.heap.size 175 i0 (.slice none 0 0) 1 Tryz.underlying152 hi hz0 hz1 _ _ _ _ xs.length rfl rfl rfl rfl ?b2 ?b3 ?b4 ?_)
 case b2 => rw [hz2]; omega
 case b3 => unfold maxLen; omega
 case b4 => simp
 intro w3 hown hgrow
 have HB3 := hide (show Below w.heap.size w w3 from (Below.refl _ _).grown hgrow (Nat.le_refl _) (fun k h => by cases h))
 have HO3 : Hid (w3.ownsRow w.heap.size 175 1 (.slice (some ⟨w.heap.size, 0, none⟩) xs.length xs.length) xs.length ((([] : List Hd) ++ List.replicate (xs.length - 0) layH.d).flatMap layH.cs)) := by
  rw [List.nil_append, Nat.sub_zero, ← made_flat layH (.slice none 0 0) rfl, show layH.k = 1 from rfl, Nat.mul_one]; exact hown
 have hs3 : w.heap.size + 1 ≤ w3.heap.size := (hown.lt w.heap.size rfl).2
 clear hown hgrow
 go_wp2
 go_loopw [4] (fun iv wr => ∃ (k : Nat) (hs : List Hd) (L H : Nat → Nat), k ≤ xs.length ∧ iv = .int .i64 (k : Int) ∧ Hid (wr.ownsRow w.heap.size 175 1 (.slice (some ⟨w.heap.size, 0, none⟩) xs.length xs.length) xs.length ((hs ++ List.replicate (xs.length - k) layH.d).flatMap layH.cs)) ∧ Hid (Rw InI [] (xs.take k) (w.heap.size + 1) wr.heap.size wr hs L H) ∧ Hid (Below w.heap.size w wr) ∧ w.heap.size + 1 ≤ wr.heap.size)
  (fun iv _ => xs.length - (intOf iv).toNat)
 case atStart => exact ⟨0, [], fun _ => 0, fun _ => 0, Nat.zero_le _, rfl, HO3.out, by rw [List.take_zero]; exact Rw.nil _ _ _ _ _ _ _, HB3.out, hs3⟩
 case round =>
  obtain ⟨k, hs, L, H, hk8, rfl, HO, HR, HBr, hsr⟩ := hrel
  clear HO3 HB3 hs3
  have hhl : hs.length = k := by have h1 := HR.out.len; rw [List.length_take] at h1; omega
  by_cases hlt : k < xs.length
  ·have z1 : (k : Int) < (xs.length : Int) := by omega
   have HS := hide (show xs.take (k + 1) = xs.take k ++ [xs.getD k []] by rw [List.take_succ_eq_append_getElem hlt]; simp [hlt])
   obtain ⟨b, off, o', c', rfl, hbl, hc0, hr0⟩ := HR0.out.at (Nat.le_refl _) k hlt
   have hc := bC HBr.out hc0 hbl
   have hbw : b < wr.heap.size := by omega
   have HL := hide (toIntS_any o' c' (xs.getD k []) wr ((hr0.kept HBr.out (Nat.le_refl _)).le HBr.out.size) (hx k hlt))
   have HXL := hide hlen
   clear hc0 hr0
   have HHL := hide hhl
   have hxs := HXL.out
   clear hxs
   obtain ⟨row, hrow⟩ : ∃ r, xs.getD k [] = r := ⟨_, rfl⟩
   rw [hrow] at HL hc HS
   clear hrow
   obtain ⟨q, hq⟩ : ∃ q, row.length = q := ⟨_, rfl⟩
   rw [hq] at HL hc
   have HQ := hide hq
   clear hq
   go_wp2_with fail
   refine HL.out.mono ?_
   rintro e v1 ⟨g4, rfl, ow4, hb4⟩
   obtain ⟨o4, ho4⟩ : ∃ o : Option Addr, some ⟨g4, 0, none⟩ = o := ⟨_, rfl⟩
   rw [ho4] at ow4 ⊢
   have HIN : Hid (InI wr.heap.size v1.heap.size v1 (.slice o4 q q) row) := InRow.of ow4
   clear ow4
   have HO4 := hide (own_kept HO.out hb4)
   have hln : ((hs ++ List.replicate (xs.length - k) layH.d).flatMap layH.cs).length = xs.length := by rw [flat_length, List.length_append, List.length_replicate, HHL.out, show layH.k = 1 from rfl]; omega
   have hcl := HO4.out.cellAt k (by omega)
   have hfr := HO4.out.frozenAt k
   obtain ⟨u, hu⟩ : ∃ u, v1.cell? ⟨w.heap.size, k, none⟩ = some u := ⟨_, hcl.trans (List.getElem?_eq_getElem (by omega))⟩
   have HO5 := hide (fillU_step (o := o4) (m := q) (c := q) hlt HHL.out HO4.out)
   have HR4 := (HR.out.kept InI.stp hb4).snoc (l2 := wr.heap.size) (h2 := v1.heap.size) (Nat.le_refl _) (by omega) hb4.size (x := row) (o := o4) (m := q) (c := q) HIN.out
   rw [← HS.out] at HR4
   have HR5 := HR4.step InI.stp (stp_set v1 w.heap.size k (.slice o4 q q)) (fun i hi => .inl (HR4.bd i hi).1)
   have HR6 : Hid (Rw InI [] (xs.take (k + 1)) (w.heap.size + 1) (v1.setCell ⟨w.heap.size, k, none⟩ (.slice o4 q q)).heap.size (v1.setCell ⟨w.heap.size, k, none⟩ (.slice o4 q q)) _ _ _) := HR5.mono (Nat.le_refl _) (by simp)
   have HB5 := hide ((HBr.out.trans (hb4.mono HBr.out.size)).setCell (p := ⟨w.heap.size, k, none⟩) (Nat.le_refl _) (.slice o4 q q))
   have hs5 : w.heap.size + 1 ≤ v1.heap.size := by have := hb4.size; omega
   clear hb4 hcl HR4 HR5 hln HL hhl hc
   go_wp2
   go_roundw
   case rel => exact ⟨k + 1, _, _, _, by omega, by go_num, HO5.out, HR6.out, HB5.out, by simpa using hs5⟩
   case measure => simp [intOf]; omega
  ·have e : k = xs.length := by omega
   subst e
   go_wp2
   go_ret
   have h1 := HO.out
   rw [Nat.sub_self, List.replicate_zero, List.append_nil] at h1
   have h2 := HR.out
   rw [List.take_length] at h2
   have h3 : ∀ b, (Value.slice (some ⟨w.heap.size, 0, none⟩) xs.length xs.length).ownBlock = some b → b = w.heap.size := fun b e => (Option.some.inj e).symm
   have h4 : InT w.heap.size wr.heap.size wr (.slice (some ⟨w.heap.size, 0, none⟩) xs.length xs.length) xs := by
    refine ⟨hs, L, H, ⟨by rw [hhl]; exact h1, fun b e => ?_⟩, h2.mono (by omega) (Nat.le_refl _), fun i hi b e => ?_⟩
    ·have := h3 b e; omega
    ·have := h3 b e
     have := h2.bd i hi
     omega
   exact ⟨_, rfl, h4, HBr.out⟩

set_option maxRecDepth 100000 in
set_option maxHeartbeats 2000000 in
theorem toIntSSS_in (v : Value) (xs : List (List (List Int))) (w : World) (hR : RiR 0 w.heap.size w v xs) (hlen : xs.length ≤ 1048576) (hx : ∀ i, i < xs.length → (xs.getD i []).length ≤ 1048576) (hy : ∀ i, i < xs.length → ∀ j, j < (xs.getD i []).length → ((xs.getD i []).getD j []).length ≤ 1048576) :
  Calls Tryz.prog 108 #[v] w fun e w' => ∃ v', e = .returned v' ∧ InR w.heap.size w'.heap.size w' v' xs ∧ Below w.heap.size w w' := by
 obtain ⟨o, cap, ev⟩ : ∃ o c, v = .slice o xs.length c := by
  obtain ⟨hs, h0, ⟨o, c, e, _⟩, _⟩ := hR
  exact ⟨o, c, by rw [e, h0]⟩
 subst ev
 obtain ⟨i0, hi, hz0, hz1, hz2⟩ := info_parts infoIntSS
 have HR0 := hide hR
 clear hR
 go_enter Tryz.func108, Tryz.ntmps108
 go_wp2_with (at_make; refine wpList_make_full _ rfl _ _ 26 rfl w.heap.size 152 i0 (.slice none 0 0) 1 Tryz.underlying26 hi hz0 hz1 _ _ _ _ xs.length rfl rfl rfl rfl ?b2 ?b3 ?b4 ?_)
 case b2 => rw [hz2]; omega
 case b3 => unfold maxLen; omega
 case b4 => simp
 intro w3 hown hgrow
 have HB3 := hide (show Below w.heap.size w w3 from (Below.refl _ _).grown hgrow (Nat.le_refl _) (fun k h => by cases h))
 have HO3 : Hid (w3.ownsRow w.heap.size 152 1 (.slice (some ⟨w.heap.size, 0, none⟩) xs.length xs.length) xs.length ((([] : List Hd) ++ List.replicate (xs.length - 0) layH.d).flatMap layH.cs)) := by
  rw [List.nil_append, Nat.sub_zero, ← made_flat layH (.slice none 0 0) rfl, show layH.k = 1 from rfl, Nat.mul_one]; exact hown
 have hs3 : w.heap.size + 1 ≤ w3.heap.size := (hown.lt w.heap.size rfl).2
 clear hown hgrow
 go_wp2
 go_loopw [4] (fun iv wr => ∃ (k : Nat) (hs : List Hd) (L H : Nat → Nat), k ≤ xs.length ∧ iv = .int .i64 (k : Int) ∧ Hid (wr.ownsRow w.heap.size 152 1 (.slice (some ⟨w.heap.size, 0, none⟩) xs.length xs.length) xs.length ((hs ++ List.replicate (xs.length - k) layH.d).flatMap layH.cs)) ∧ Hid (Rw InT [] (xs.take k) (w.heap.size + 1) wr.heap.size wr hs L H) ∧ Hid (Below w.heap.size w wr) ∧ w.heap.size + 1 ≤ wr.heap.size)
  (fun iv _ => xs.length - (intOf iv).toNat)
 case atStart => exact ⟨0, [], fun _ => 0, fun _ => 0, Nat.zero_le _, rfl, HO3.out, by rw [List.take_zero]; exact Rw.nil _ _ _ _ _ _ _, HB3.out, hs3⟩
 case round =>
  obtain ⟨k, hs, L, H, hk8, rfl, HO, HR, HBr, hsr⟩ := hrel
  clear HO3 HB3 hs3
  have hhl : hs.length = k := by have h1 := HR.out.len; rw [List.length_take] at h1; omega
  by_cases hlt : k < xs.length
  ·have z1 : (k : Int) < (xs.length : Int) := by omega
   have HS := hide (show xs.take (k + 1) = xs.take k ++ [xs.getD k []] by rw [List.take_succ_eq_append_getElem hlt]; simp [hlt])
   obtain ⟨b, off, o', c', rfl, hbl0, hc0, hr0⟩ := (RiR.mon.go (RiR.stp.go HR0.out (lo := w.heap.size) (hi := w.heap.size + wr.heap.size) ⟨HBr.out.os, HBr.out.tape, HBr.out.output, HBr.out.size, fun k hk _ => HBr.out.block k hk⟩ (.inr (Nat.le_refl _))) (Nat.le_refl _) HBr.out.size).at (Nat.le_refl _) k hlt
   have hc := hc0
   have HL := hide (toIntSS_in (.slice o' (xs.getD k []).length c') (xs.getD k []) wr (RiT.of hr0) (hx k hlt) (hy k hlt))
   have HXL := hide hlen
   clear hc0 hr0
   have HHL := hide hhl
   have hxs := HXL.out
   clear hxs
   obtain ⟨row, hrow⟩ : ∃ r, xs.getD k [] = r := ⟨_, rfl⟩
   rw [hrow] at HL hc HS
   clear hrow
   obtain ⟨q, hq⟩ : ∃ q, row.length = q := ⟨_, rfl⟩
   rw [hq] at HL hc
   have HQ := hide hq
   clear hq
   go_wp2_with fail
   refine HL.out.mono ?_
   rintro e v1 ⟨v4, rfl, in4, hb4⟩
   obtain ⟨o4, c4, e4, _⟩ := RiT.rd (InT.ri in4)
   rw [HQ.out] at e4
   subst e4
   have HIN := hide in4
   clear in4
   have HO4 := hide (own_kept HO.out hb4)
   have hln : ((hs ++ List.replicate (xs.length - k) layH.d).flatMap layH.cs).length = xs.length := by rw [flat_length, List.length_append, List.length_replicate, HHL.out, show layH.k = 1 from rfl]; omega
   have hcl := HO4.out.cellAt k (by omega)
   have hfr := HO4.out.frozenAt k
   obtain ⟨u, hu⟩ : ∃ u, v1.cell? ⟨w.heap.size, k, none⟩ = some u := ⟨_, hcl.trans (List.getElem?_eq_getElem (by omega))⟩
   have HO5 := hide (fillU_step (o := o4) (m := q) (c := c4) hlt HHL.out HO4.out)
   have HR4 := (HR.out.kept InT.stp hb4).snoc (l2 := wr.heap.size) (h2 := v1.heap.size) (Nat.le_refl _) (by omega) hb4.size (x := row) (o := o4) (m := q) (c := c4) HIN.out
   rw [← HS.out] at HR4
   have HR5 := HR4.step InT.stp (stp_set v1 w.heap.size k (.slice o4 q c4)) (fun i hi => .inl (HR4.bd i hi).1)
   have HR6 : Hid (Rw InT [] (xs.take (k + 1)) (w.heap.size + 1) (v1.setCell ⟨w.heap.size, k, none⟩ (.slice o4 q c4)).heap.size (v1.setCell ⟨w.heap.size, k, none⟩ (.slice o4 q c4)) _ _ _) := HR5.mono (Nat.le_refl _) (by simp)
   have HB5 := hide ((HBr.out.trans (hb4.mono HBr.out.size)).setCell (p := ⟨w.heap.size, k, none⟩) (Nat.le_refl _) (.slice o4 q c4))
   have hs5 : w.heap.size + 1 ≤ v1.heap.size := by have := hb4.size; omega
   clear hb4 hcl HR4 HR5 hln HL hhl hc
   go_wp2
   go_roundw
   case rel => exact ⟨k + 1, _, _, _, by omega, by go_num, HO5.out, HR6.out, HB5.out, by simpa using hs5⟩
   case measure => simp [intOf]; omega
  ·have e : k = xs.length := by omega
   subst e
   go_wp2
   go_ret
   have h1 := HO.out
   rw [Nat.sub_self, List.replicate_zero, List.append_nil] at h1
   have h2 := HR.out
   rw [List.take_length] at h2
   have h3 : ∀ b, (Value.slice (some ⟨w.heap.size, 0, none⟩) xs.length xs.length).ownBlock = some b → b = w.heap.size := fun b e => (Option.some.inj e).symm
   have h4 : InR w.heap.size wr.heap.size wr (.slice (some ⟨w.heap.size, 0, none⟩) xs.length xs.length) xs := by
    refine ⟨hs, L, H, ⟨by rw [hhl]; exact h1, fun b e => ?_⟩, h2.mono (by omega) (Nat.le_refl _), fun i hi b e => ?_⟩
    ·have := h3 b e; omega
    ·have := h3 b e
     have := h2.bd i hi
     omega
   exact ⟨_, rfl, h4, HBr.out⟩

theorem leftTo_sum (ll : List (List Int)) (n : Int) : ∀ k, leftTo ll n k = n - (ll.length : Int) - (sumN (lenT ll) k : Int)
 | 0 => by simp [leftTo, sumN]
 | k + 1 => by
  rw [leftTo, leftTo_sum ll n k, show sumN (lenT ll) (k + 1) = sumN (lenT ll) k + (ll.getD k []).length from rfl]
  omega
set_option maxRecDepth 100000 in
set_option maxHeartbeats 1000000 in
theorem szIntSSS_any (v : Value) (lll : List (List (List Int))) (n : Int) (w : World) (hR : RiR 0 w.heap.size w v lll) (hl : lll.length ≤ maxLen) (hx : ∀ i, i < lll.length → (lll.getD i []).length ≤ maxLen) (hy : ∀ i, i < lll.length → ∀ j, j < (lll.getD i []).length → ((lll.getD i []).getD j []).length ≤ maxLen) (h0 : 0 ≤ n) (h1 : n ≤ 1048576) :
  Calls Tryz.prog 99 #[v, .int .i64 n] w fun e w' => (e = .returned (.int .i64 (-1)) ∨ ∃ z : Int, e = .returned (.int .i64 z) ∧ 0 ≤ z ∧ z ≤ n ∧ (lll.length : Int) + (szR lll : Int) ≤ n ∧ ∀ i, i < lll.length → ((lll.getD i []).length : Int) ≤ n) ∧ Below w.heap.size w w' := by
 obtain ⟨o, cap, ev⟩ : ∃ o c, v = .slice o lll.length c := by
  obtain ⟨hs, h0, ⟨o, c, e, _⟩, _⟩ := hR
  exact ⟨o, c, by rw [e, h0]⟩
 subst ev
 have hl' := hl
 unfold maxLen at hl'
 by_cases h : n - lll.length < 0
 ·go_enter Tryz.func99, Tryz.ntmps99
  go_wp2
  go_ret
  exact ⟨.inl rfl, Below.refl _ _⟩
 ·go_enter Tryz.func99, Tryz.ntmps99
  go_wp2
  go_loopw [1, 5] (fun n' i wr => ∃ (k : Nat) (z : Int), k ≤ lll.length ∧ i = .int .i64 (k : Int) ∧ n' = .int .i64 z ∧ 0 ≤ z ∧ z ≤ n - (lll.length : Int) - (sumN (lenR lll) k : Int) ∧ Hid (∀ i, i < k → ((lll.getD i []).length : Int) ≤ n) ∧ Hid (Below w.heap.size w wr))
   (fun _ i _ => lll.length - (intOf i).toNat)
  case atStart => exact ⟨0, n - lll.length, Nat.zero_le _, rfl, rfl, by omega, by simp [sumN], fun i hi => absurd hi (Nat.not_lt_zero _), Below.refl _ _⟩
  case round =>
   obtain ⟨k, z, hk, rfl, rfl, hz0, hz1, HLN, HBr⟩ := hrel
   by_cases hlt : k < lll.length
   ·obtain ⟨b, off, o', c', rfl, hb, hc, hr⟩ := (RiR.mon.go (RiR.stp.go hR (Stp.of (lo := 0) (hi := 0) HBr.out) (.inl (Nat.zero_le _))) (Nat.le_refl _) HBr.out.size).at (Nat.le_refl _) k hlt
    have hsn : (0 : Int) ≤ (sumN (lenR lll) k : Int) := by omega
    have HZ := hide (szIntSS_any o' (lll.getD k []) c' z wr hr (hx k hlt) (hy k hlt) hz0 (by omega))
    have HSU := hide (show sumN (lenR lll) (k + 1) = sumN (lenR lll) k + szT (lll.getD k []) from rfl)
    have HEL := hide (show leftLL (lll.getD k []) z = z - ((lll.getD k []).length : Int) - (szT (lll.getD k []) : Int) from leftTo_sum _ _ _)
    have hz1' := hz1
    obtain ⟨ll, hll⟩ : ∃ ll, lll.getD k [] = ll := ⟨_, rfl⟩
    rw [hll] at hc HZ HSU HEL
    have HLL := hide hll
    have HR := hide hR
    clear hr hll hR hx hy
    obtain ⟨m, hm⟩ : ∃ m, ll.length = m := ⟨_, rfl⟩
    rw [hm] at hc HZ HEL
    have HM := hide hm
    clear hm
    generalize sumN (lenR lll) k = sk at *
    go_wp2_with fail
    refine HZ.out.mono ?_
    rintro e w2 ⟨rfl | ⟨hfit, rfl⟩, hb2⟩
    ·have HB2 := hide (HBr.out.trans (hb2.mono HBr.out.size))
     clear hb2
     go_wp2
     go_ret
     exact ⟨.inl rfl, HB2.out⟩
    ·have HB2 := hide (HBr.out.trans (hb2.mono HBr.out.size))
     have hpos := hfit ll.length (Nat.le_refl _)
     have hpos' : 0 ≤ leftLL ll z := hpos
     have hE := HEL.out
     have hmz : (m : Int) ≤ n := by omega
     have HE2 := hide hE
     clear hfit hb2 hpos hE HEL
     generalize leftLL ll z = y at *
     go_wp2
     go_roundw
     case rel => exact ⟨k + 1, y, by omega, by go_num, rfl, hpos', by (have := HE2.out; rw [HSU.out]; push_cast; omega), fun i hi => (by rcases Nat.lt_succ_iff_lt_or_eq.1 hi with h' | h'; exact HLN.out i h'; rw [h', HLL.out, HM.out]; exact hmz), HB2.out⟩
     case measure => simp [intOf]; omega
   ·have e : k = lll.length := by omega
    subst e
    have hsz : sumN (lenR lll) lll.length = szR lll := rfl
    rw [hsz] at hz1
    clear hsz
    go_wp2
    go_ret
    exact ⟨.inr ⟨z, rfl, hz0, by omega, by omega, HLN.out⟩, HBr.out⟩
theorem row_le (ll : List (List Int)) (j : Nat) (h : j < ll.length) : (ll.getD j []).length ≤ szT ll := by
 have := sumN_at (lenT ll) h
 unfold szT; unfold lenT at *; omega
theorem tab_le (lll : List (List (List Int))) (i : Nat) (h : i < lll.length) : szT (lll.getD i []) ≤ szR lll := by
 have := sumN_at (lenR lll) h
 unfold szR; unfold lenR at *; omega
theorem fit_of {key : Int} {l : List Bk} {lll : List (List (List Int))} {n : Int} (hn : n ≤ 1048576) (hl : (l.length : Int) ≤ 1048576) (h1 : (lll.length : Int) + (szR lll : Int) ≤ n) (h2 : ∀ i, i < lll.length → ((lll.getD i []).length : Int) ≤ n) : fitPm ⟨key, l, lll⟩ :=
 ⟨by show l.length ≤ _; omega, by show lll.length ≤ _; omega, by show szR lll ≤ _; omega, fun i hi => by have := h2 i hi; show (lll.getD i []).length ≤ _; omega, fun i hi j hj => by
  have h3 := row_le (lll.getD i []) j hj
  have h4 := tab_le lll i hi
  show ((lll.getD i []).getD j []).length ≤ _
  omega⟩
/-- A pool's lengths may be lengths. -/
def lenPm (m : Pm) : Prop := m.l.length ≤ maxLen ∧ m.ring.length ≤ maxLen ∧ (∀ i, i < m.ring.length → (m.ring.getD i []).length ≤ maxLen) ∧ ∀ i, i < m.ring.length → ∀ j, j < (m.ring.getD i []).length → ((m.ring.getD i []).getD j []).length ≤ maxLen
set_option maxRecDepth 100000 in
set_option maxHeartbeats 1000000 in
theorem szPool_n (v : Value) (m : Pm) (n : Int) (w : World) (hR : RdPm w.heap.size w v m) (hl : lenPm m) (hn0 : 0 ≤ n) (hn1 : n ≤ 1048576) :
  Calls Tryz.prog 45 #[v, .int .i64 n] w fun e w' => (∃ z : Int, e = .returned (.int .i64 z) ∧ ((z < 0 ∧ -1 ≤ z) ∨ (0 ≤ z ∧ z ≤ n ∧ fitPm m))) ∧ Below w.heap.size w w' := by
 obtain ⟨vb, vr, rfl, ⟨o, c, rfl, b1⟩, r1⟩ := hR
 obtain ⟨oR, cR, rfl⟩ := RiR.len r1
 obtain ⟨l1, l2, l3, l4⟩ := hl
 have hs := fun W => szBackS_any o m.l.length c n W l1 hn0 hn1
 have HRG := hide (fun W (hb : Below w.heap.size w W) (z : Int) h0 h1 => szIntSSS_any (.slice oR m.ring.length cR) m.ring z W (RiR.mon.go (RiR.stp.go r1 (Stp.of (lo := 0) (hi := 0) hb) (.inl (Nat.zero_le _))) (Nat.le_refl _) hb.size) l2 l3 l4 h0 h1)
 clear b1 r1 l3 l4
 obtain ⟨W0, hW0⟩ : ∃ W, (w.alloc (.cells #[.int .i64 m.key, .slice o m.l.length c, .slice oR m.ring.length cR] 28)) = W := ⟨_, rfl⟩
 have hb_W0 : Below w.heap.size w W0 := by rw [← hW0]; exact ((Below.refl _ _).alloc (Nat.le_refl _) _)
 have HB := hide hb_W0
 clear hb_W0
 have zz : w.heap.size < W0.heap.size := by rw [← hW0]; simp
 have z0 : W0.cell? ⟨w.heap.size, 0, none⟩ = some (.int .i64 m.key) := by rw [← hW0]; simp [go_sem]
 have z1 : W0.cell? ⟨w.heap.size, 1, none⟩ = some (.slice o m.l.length c) := by rw [← hW0]; simp [go_sem]
 have z2 : W0.cell? ⟨w.heap.size, 2, none⟩ = some (.slice oR m.ring.length cR) := by rw [← hW0]; simp [go_sem]
 by_cases h : n - (m.l.length : Int) < 0
 ·rw [if_pos h] at hs
  go_enter Tryz.func45, Tryz.ntmps45
  go_wp2_with fail
  refine (hs _).mono ?_
  rintro e w1 ⟨rfl, rfl⟩
  go_wp2
  go_ret
  exact ⟨⟨_, rfl, .inl ⟨by decide, by decide⟩⟩, HB.out⟩
 ·rw [if_neg h] at hs
  have hz0 : (0 : Int) ≤ n - (m.l.length : Int) := by omega
  have HRG2 := hide (HRG.out W0 HB.out (n - (m.l.length : Int)) hz0 (by omega))
  go_enter Tryz.func45, Tryz.ntmps45
  go_wp2_with fail
  refine (hs _).mono ?_
  rintro e w1 ⟨rfl, rfl⟩
  go_wp2_with fail
  refine HRG2.out.mono ?_
  rintro e w2 ⟨rfl | ⟨z, rfl, hz1, hz2, hz3, hz4⟩, hb2⟩
  ·have HB2 := hide (HB.out.trans (hb2.mono HB.out.size))
   clear hb2
   go_wp2
   go_ret
   exact ⟨⟨_, rfl, .inl ⟨by decide, by decide⟩⟩, HB2.out⟩
  ·have HB2 := hide (HB.out.trans (hb2.mono HB.out.size))
   have HF : Hid (fitPm m) := fit_of (n := n - (m.l.length : Int)) (by omega) (by omega) hz3 hz4
   clear hb2 hz3 hz4
   go_wp2
   go_ret
   exact ⟨⟨_, rfl, .inr ⟨hz1, by omega, HF.out⟩⟩, HB2.out⟩

set_option maxRecDepth 100000 in
set_option maxHeartbeats 2000000 in
theorem toPool_sh (v : Value) (m : Pm) (w : World) (hR : RdPm w.heap.size w v m) (hf : fitPm m) :
  Calls Tryz.prog 52 #[v] w fun e w' => ∃ v', e = .returned v' ∧ InPm w.heap.size w'.heap.size w' v' m ∧ Below w.heap.size w w' := by
 obtain ⟨vb, vr, rfl, ⟨o, c, rfl, b1⟩, r1⟩ := hR
 obtain ⟨oR, cR, rfl⟩ := RiR.len r1
 obtain ⟨hf1, hf2, hf3, hf4, hf5⟩ := hf
 have HBK := hide (fun W (hb : Below w.heap.size w W) => toBackS_any o c m.l W ((b1.rd.kept hb (Nat.le_refl _)).le hb.size) hf1)
 have HRG := hide (fun W (hb : Below w.heap.size w W) => toIntSSS_in (.slice oR m.ring.length cR) m.ring W (RiR.mon.go (RiR.stp.go r1 (Stp.of (lo := 0) (hi := 0) hb) (.inl (Nat.zero_le _))) (Nat.le_refl _) hb.size) hf2 hf4 hf5)
 clear b1 r1 hf4 hf5
 obtain ⟨W0, hW0⟩ : ∃ W, (((w.alloc (.cells #[.int .i64 m.key, .slice o m.l.length c, .slice oR m.ring.length cR] 28)).alloc (.cells #[.int .i64 0, .slice none 0 0, .slice none 0 0] 41)).alloc (.cells #[.int .i64 0, .slice none 0 0, .slice none 0 0] 41)) = W := ⟨_, rfl⟩
 have hb_W0 : Below w.heap.size w W0 := by rw [← hW0]; exact ((((Below.refl _ _).alloc (Nat.le_refl _) _).alloc (by simp <;> omega) _).alloc (by simp <;> omega) _)
 have HB := hide hb_W0
 clear hb_W0
 have zz : w.heap.size < W0.heap.size := by rw [← hW0]; simp <;> omega
 have z0 : W0.cell? ⟨w.heap.size, 0, none⟩ = some (.int .i64 m.key) := by rw [← hW0]; simp [go_sem]
 have z1 : W0.cell? ⟨w.heap.size, 1, none⟩ = some (.slice o m.l.length c) := by rw [← hW0]; simp [go_sem]
 have z2 : W0.cell? ⟨w.heap.size, 2, none⟩ = some (.slice oR m.ring.length cR) := by rw [← hW0]; simp [go_sem]
 have zr : w.heap.size + 1 < W0.heap.size := by rw [← hW0]; simp <;> omega
 have r0 : W0.cell? ⟨w.heap.size + 1, 0, none⟩ = some (.int .i64 0) := by rw [← hW0]; simp [go_sem]
 have r1 : W0.cell? ⟨w.heap.size + 1, 1, none⟩ = some (.slice none 0 0) := by rw [← hW0]; simp [go_sem]
 have r2 : W0.cell? ⟨w.heap.size + 1, 2, none⟩ = some (.slice none 0 0) := by rw [← hW0]; simp [go_sem]
 have fr0 : W0.frozen? ⟨w.heap.size + 1, 0, none⟩ = false := by rw [← hW0]; simp [go_sem]
 have fr1 : W0.frozen? ⟨w.heap.size + 1, 1, none⟩ = false := by rw [← hW0]; simp [go_sem]
 have fr2 : W0.frozen? ⟨w.heap.size + 1, 2, none⟩ = false := by rw [← hW0]; simp [go_sem]
 have zx : w.heap.size + 1 + 1 < W0.heap.size := by rw [← hW0]; simp
 have x0 : W0.cell? ⟨w.heap.size + 1 + 1, 0, none⟩ = some (.int .i64 0) := by rw [← hW0]; simp [go_sem]
 have x1 : W0.cell? ⟨w.heap.size + 1 + 1, 1, none⟩ = some (.slice none 0 0) := by rw [← hW0]; simp [go_sem]
 have x2 : W0.cell? ⟨w.heap.size + 1 + 1, 2, none⟩ = some (.slice none 0 0) := by rw [← hW0]; simp [go_sem]
 have fx0 : W0.frozen? ⟨w.heap.size + 1 + 1, 0, none⟩ = false := by rw [← hW0]; simp [go_sem]
 have fx1 : W0.frozen? ⟨w.heap.size + 1 + 1, 1, none⟩ = false := by rw [← hW0]; simp [go_sem]
 have fx2 : W0.frozen? ⟨w.heap.size + 1 + 1, 2, none⟩ = false := by rw [← hW0]; simp [go_sem]
 have h0x : W0.heap[w.heap.size + 1 + 1]? = some (.cells #[.int .i64 0, .slice none 0 0, .slice none 0 0] 41 (0, 0)) := by rw [← hW0]; exact box_new3 w _ _ _ _
 have h0r : W0.heap[w.heap.size + 1]? = some (.cells #[.int .i64 0, .slice none 0 0, .slice none 0 0] 41 (0, 0)) := by rw [← hW0]; exact box_mid3 w _ _ _ _
 have hzx := zx
 have hw0 := HB.out.size
 obtain ⟨W1, hW1⟩ : ∃ W, W0.setCell ⟨w.heap.size + 1 + 1, 0, none⟩ (.int .i64 m.key) = W := ⟨_, rfl⟩
 have h1x := box_put h0x 0 (.int .i64 m.key)
 rw [hW1] at h1x
 have h1r : W1.heap[w.heap.size + 1]? = some (.cells #[.int .i64 0, .slice none 0 0, .slice none 0 0] 41 (0, 0)) := by rw [← hW1]; exact (far_block (by omega) _ _).trans h0r
 have hs1 : W1.heap.size = W0.heap.size := by rw [← hW1]; simp
 have hB1 : Below w.heap.size w W1 := by rw [← hW1]; exact HB.out.setCell (p := ⟨w.heap.size + 1 + 1, 0, none⟩) (show w.heap.size ≤ w.heap.size + 1 + 1 by omega) _
 have a0 : W1.cell? ⟨w.heap.size, 0, none⟩ = some (.int .i64 m.key) := by rw [← hW1]; exact (cell_far (by omega)).trans z0
 have a1 : W1.cell? ⟨w.heap.size, 1, none⟩ = some (.slice o m.l.length c) := by rw [← hW1]; exact (cell_far (by omega)).trans z1
 have a2 : W1.cell? ⟨w.heap.size, 2, none⟩ = some (.slice oR m.ring.length cR) := by rw [← hW1]; exact (cell_far (by omega)).trans z2
 have HB1 := hide hB1
 have HS1 := hide hs1
 have H1X := hide h1x
 have H1R := hide h1r
 clear hB1 hs1 h1x h1r h0x h0r z1 z2 r0 r1 r2 fr0 fr1 fr2 HB
 go_enter Tryz.func52, Tryz.ntmps52
 go_wp2_with fail
 refine (HBK.out W1 HB1.out).mono ?_
 rintro e v1 ⟨g1, rfl, ow1, hb1⟩
 have hsv := hb1.size
 have hx1 := (hb1.block _ (show w.heap.size + 1 + 1 < W1.heap.size by have := HS1.out; omega)).trans H1X.out
 have hr1 := (hb1.block _ (show w.heap.size + 1 < W1.heap.size by have := HS1.out; omega)).trans H1R.out
 have b0 := bC hb1 a0 (by have := HS1.out; omega)
 have b1 := bC hb1 a1 (by have := HS1.out; omega)
 have b2 := bC hb1 a2 (by have := HS1.out; omega)
 have p1 : v1.cell? ⟨w.heap.size + 1 + 1, 1, none⟩ = some (.slice none 0 0) := bx_cell hx1 1 _ rfl
 have q1 := bx_frozen hx1 1
 obtain ⟨og, hog⟩ : ∃ o : Option Addr, some ⟨g1, 0, none⟩ = o := ⟨_, rfl⟩
 rw [hog] at ow1 ⊢
 clear hog
 obtain ⟨W2, hW2⟩ : ∃ W, v1.setCell ⟨w.heap.size + 1 + 1, 1, none⟩ (.slice og m.l.length m.l.length) = W := ⟨_, rfl⟩
 have h2x := box_put hx1 1 (.slice og m.l.length m.l.length)
 rw [hW2] at h2x
 have h2r : W2.heap[w.heap.size + 1]? = some (.cells #[.int .i64 0, .slice none 0 0, .slice none 0 0] 41 (0, 0)) := by rw [← hW2]; exact (far_block (by omega) _ _).trans hr1
 have hs2 : W2.heap.size = v1.heap.size := by rw [← hW2]; simp
 have hB2 : Below w.heap.size w W2 := by rw [← hW2]; exact (HB1.out.trans (hb1.mono HB1.out.size)).setCell (p := ⟨w.heap.size + 1 + 1, 1, none⟩) (show w.heap.size ≤ w.heap.size + 1 + 1 by omega) _
 have HO2 : Hid (InL layK 150 W0.heap.size W2.heap.size W2 (.slice og m.l.length m.l.length) m.l) := by rw [← hW2]; exact InRow.of (own_low (own_mono ow1 (by have := HS1.out; omega)) hzx 1 _)
 have d0 : W2.cell? ⟨w.heap.size, 0, none⟩ = some (.int .i64 m.key) := by rw [← hW2]; exact (cell_far (by omega)).trans b0
 have d1 : W2.cell? ⟨w.heap.size, 1, none⟩ = some (.slice o m.l.length c) := by rw [← hW2]; exact (cell_far (by omega)).trans b1
 have d2 : W2.cell? ⟨w.heap.size, 2, none⟩ = some (.slice oR m.ring.length cR) := by rw [← hW2]; exact (cell_far (by omega)).trans b2
 have HB2 := hide hB2
 have HS2 := hide hs2
 have H2X := hide h2x
 have H2R := hide h2r
 clear hB2 hs2 h2x h2r hx1 hr1 ow1 hb1
 go_wp2_with fail
 refine (HRG.out W2 HB2.out).mono ?_
 rintro e v3 ⟨vr3, rfl, in3, hb3⟩
 obtain ⟨o3, c3, e3⟩ := RiR.len (InR.ri in3)
 subst e3
 have hsv3 := hb3.size
 have hx3 := (hb3.block _ (show w.heap.size + 1 + 1 < W2.heap.size by have := HS2.out; have := HS1.out; omega)).trans H2X.out
 have hr3 := (hb3.block _ (show w.heap.size + 1 < W2.heap.size by have := HS2.out; have := HS1.out; omega)).trans H2R.out
 have p2 : v3.cell? ⟨w.heap.size + 1 + 1, 2, none⟩ = some (.slice none 0 0) := bx_cell hx3 2 _ rfl
 have q2 := bx_frozen hx3 2
 obtain ⟨W4, hW4⟩ : ∃ W, v3.setCell ⟨w.heap.size + 1 + 1, 2, none⟩ (.slice o3 m.ring.length c3) = W := ⟨_, rfl⟩
 have h4x := box_put hx3 2 (.slice o3 m.ring.length c3)
 rw [hW4] at h4x
 have h4r : W4.heap[w.heap.size + 1]? = some (.cells #[.int .i64 0, .slice none 0 0, .slice none 0 0] 41 (0, 0)) := by rw [← hW4]; exact (far_block (by omega) _ _).trans hr3
 have hB4 : Below w.heap.size w W4 := by rw [← hW4]; exact (HB2.out.trans (hb3.mono HB2.out.size)).setCell (p := ⟨w.heap.size + 1 + 1, 2, none⟩) (show w.heap.size ≤ w.heap.size + 1 + 1 by omega) _
 have hs4 : W4.heap.size = v3.heap.size := by rw [← hW4]; simp
 have HIN : Hid (InPm W0.heap.size W4.heap.size W4 (plv m.key (.slice og m.l.length m.l.length) (.slice o3 m.ring.length c3)) m) := by
  rw [hs4, ← hW4]
  exact ⟨_, _, W2.heap.size, rfl, by have := HS2.out; have := HS1.out; omega, hsv3, InRow.step (InRow.step HO2.out (Stp.of (lo := 0) (hi := 0) hb3) (.inl (Nat.zero_le _))) (stp_set v3 (w.heap.size + 1 + 1) 2 _) (.inl (by omega)), InR.stp.go in3 (stp_set v3 (w.heap.size + 1 + 1) 2 _) (.inl (by have := HS2.out; have := HS1.out; omega))⟩
 obtain ⟨e0, e1, e2, g0, g1', g2⟩ := bx_allP h4x
 obtain ⟨t0, t1, t2, u0, u1, u2⟩ := bx_allP h4r
 have HB4 := hide hB4
 clear hB4 h4x h4r hx3 hr3 in3 hb3 hs4
 go_wp2
 refine bodyPost_ret (v := plv m.key (.slice og m.l.length m.l.length) (.slice o3 m.ring.length c3)) (by simp [results, Tryz.results52, go_sem, t0, t1, t2]) rfl ⟨_, rfl, ?_, setP_belowT HB4.out (Nat.le_succ _) _ _ _⟩
 rw [setP_sizeT]
 exact in_monoT (HIN.out.step (stp_setT W4 (w.heap.size + 1) _ _ _) (.inl (by omega))) (by omega)

end Go.Proofs.YtajfkcpifnpkeaaGreat

/- PoolOk, on both sides. -/
namespace Go.Proofs.YtajfkcpifnpkeaaGreat
open Go.ChangeShapes Go.WideShapes Go.ChangeAt Go.RowKit Go.Joins
set_option linter.unusedVariables false
set_option linter.unusedSimpArgs false

theorem pairOk_bad {l : List Int} {j : Nat} (hj : j < l.length) (h : idB (l.getD j 0) = false) : pairOkB l = false := by
 unfold pairOkB
 by_cases h2 : l.length = 2
 ·have h0 : ¬ (l.length = 0) := by omega
  match j, hj, h with
  | 0, _, h => simp only [h]; simp [h0]
  | 1, _, h => simp only [h]; simp [h0]
  | j + 2, hj, _ => omega
 ·have h0 : ¬ (l.length = 0) := by omega
  simp [h2, h0]

theorem moved_all {aa bb : List (List Int)} : ∀ k, movedTo aa bb k = 0 → ∀ i, i < k → aa.getD i [] = bb.getD i []
 | 0, _ => fun i hi => absurd hi (Nat.not_lt_zero _)
 | k + 1, h => fun i hi => by
  have hb := (movedTo_bd aa bb k).1
  by_cases e : aa.getD k [] = bb.getD k []
  ·have h1 := movedTo_same (aa := aa) (bb := bb) (k := k) rfl rfl e
   rcases Nat.lt_succ_iff_lt_or_eq.1 hi with h' | h'
   ·exact moved_all k (by omega) i h'
   ·rw [h']; exact e
  ·have h1 := movedTo_diff (aa := aa) (bb := bb) (k := k) rfl rfl e
   omega
theorem moved_none {aa bb : List (List Int)} : ∀ k, (∀ i, i < k → aa.getD i [] = bb.getD i []) → movedTo aa bb k = 0
 | 0, _ => rfl
 | k + 1, h => by
  rw [← movedTo_same (aa := aa) (bb := bb) (k := k) rfl rfl (h k (by omega))]
  exact moved_none k (fun i hi => h i (by omega))
theorem tab_pair {ll : List (List Int)} (h : tabOkB ll = true) : ll.length = 8 ∧ ∀ i, i < 8 → pairOkB (ll.getD i []) = true := by
 unfold tabOkB at h
 simp only [Bool.and_eq_true, decide_eq_true_eq, List.all_eq_true, List.mem_range] at h
 exact h
theorem moved_eq {key : Int} {l : List Bk} {ll : List (List Int)} (hl : backsOkB l = true) (h : tabOkB ll = true) : movedI ll (newT key l) = 0 ↔ eqPtB (tabF ll) (newF key l) = true := by
 obtain ⟨h8, hp⟩ := tab_pair h
 have hm : movedI ll (newT key l) = movedTo ll (newT key l) 8 := by rw [movedI, if_pos ⟨h8, newT_len key l⟩]
 rw [hm]
 have hn : ∀ i, i < 8 → (newT key l).getD i [] = pairI key i l := fun i hi => by unfold newT; rw [rowsOf_get _ _ _ hi]
 constructor
 ·intro h0
  unfold eqPtB
  rw [List.all_eq_true]
  intro i hi
  have hi' : i < 8 := by simpa using hi
  have h1 := moved_all 8 h0 i hi'
  unfold tabF newF
  rw [h1, hn i hi']
  exact beq_self_eq_true _
 ·intro h0
  unfold eqPtB at h0
  rw [List.all_eq_true] at h0
  refine moved_none 8 (fun i hi => ?_)
  have h1 := eq_of_beq (h0 i (by simpa using hi))
  unfold tabF newF at h1
  rw [hn i hi, ← ipList_of (hp i hi), h1, ipList_of (pairI_ok key i hl)]
theorem pool_rest {m : Pm} (h1 : keyB m.key = true) (h2 : backsOkB m.l = true) (h3 : 1 ≤ m.ring.length) (h4 : m.ring.length ≤ 3) (h5 : ∀ i, i < m.ring.length → tabOkB (m.ring.getD i []) = true) (h6 : movedI (m.ring.getD 0 []) (newT m.key m.l) = 0) : poolB m = true :=
 poolB_yes h1 h2 h3 h4 h5 ((moved_eq h2 (h5 0 (by omega))).1 h6)

end Go.Proofs.YtajfkcpifnpkeaaGreat

/- Pools whose slices of nothing have no room: how they read. -/
namespace Go.Proofs.YtajfkcpifnpkeaaGreat
open Go.ChangeShapes Go.WideShapes Go.ChangeAt Go.RowKit Go.Joins
set_option linter.unusedVariables false
set_option linter.unusedSimpArgs false

/-- As RdPm; a slice of nothing has no room. -/
def RcPm (lo hi : Nat) (w : World) (v : Value) (m : Pm) : Prop := ∃ vb vr, v = plv m.key vb vr ∧ RiV layK lo hi w vb m.l ∧ capV vb ∧ RcR lo hi w vr m.ring ∧ capV vr
theorem InT.rc {lo hi : Nat} {w : World} {v : Value} {ll : List (List Int)} (h : InT lo hi w v ll) : RcT lo hi w v ll := InRows.ri RcI.mon (fun q => ⟨InRow.ri q, InRow.cap q⟩) h
theorem InR.rc {lo hi : Nat} {w : World} {v : Value} {ll : List (List (List Int))} (h : InR lo hi w v ll) : RcR lo hi w v ll := InRows.ri RcT.mon (fun q => InT.rc q) h
theorem InPm.rc {lo hi : Nat} {w : World} {v : Value} {m : Pm} (h : InPm lo hi w v m) : RcPm 0 hi w v m := by
 obtain ⟨vb, vr, mid, e, k1, k2, h1, h2⟩ := h
 obtain ⟨hs, L, H, h3, _⟩ := id h2
 exact ⟨vb, vr, e, (InRow.ri h1).mono (Nat.zero_le _) k2, InRow.cap h1, RcR.mon.go (InR.rc h2) (Nat.zero_le _) (Nat.le_refl _), InRow.cap h3⟩
theorem RcPm.le {lo C D : Nat} {w : World} {v : Value} {m : Pm} (h : RcPm lo C w v m) (hc : C ≤ D) : RcPm lo D w v m := by
 obtain ⟨vb, vr, e, h1, h2, h3, h4⟩ := h
 exact ⟨vb, vr, e, h1.mono (Nat.le_refl _) hc, h2, RcR.mon.go h3 (Nat.le_refl _) hc, h4⟩
theorem RcPm.kept {lo C D : Nat} {w w' : World} {v : Value} {m : Pm} (h : RcPm lo C w v m) (hb : Below D w w') (hc : C ≤ D) : RcPm lo C w' v m := by
 obtain ⟨vb, vr, e, h1, h2, h3, h4⟩ := h
 have s : Stp C (w.heap.size + C) w w' := ⟨hb.os, hb.tape, hb.output, hb.size, fun k hk hn => hb.block k (by omega)⟩
 exact ⟨vb, vr, e, h1.step s (.inr (Nat.le_refl _)), h2, RcR.stp.go h3 s (.inr (Nat.le_refl _)), h4⟩
theorem RcPm.mono {a b a' b' : Nat} {w : World} {v : Value} {m : Pm} (h : RcPm a b w v m) (k1 : a' ≤ a) (k2 : b ≤ b') : RcPm a' b' w v m := by
 obtain ⟨vb, vr, e, h1, h2, h3, h4⟩ := h
 exact ⟨vb, vr, e, h1.mono k1 k2, h2, RcR.mon.go h3 k1 k2, h4⟩
theorem RcPm.step {a b lo hi : Nat} {w w' : World} {v : Value} {m : Pm} (h : RcPm a b w v m) (s : Stp lo hi w w') (hd : hi ≤ a ∨ b ≤ lo) : RcPm a b w' v m := by
 obtain ⟨vb, vr, e, h1, h2, h3, h4⟩ := h
 exact ⟨vb, vr, e, h1.step s hd, h2, RcR.stp.go h3 s hd, h4⟩
theorem RcPm.opn {lo hi : Nat} {w : World} {v : Value} {m : Pm} (h : RcPm lo hi w v m) : ∃ (o : Option Addr) (c : Nat) (oR : Option Addr) (cR : Nat), v = plv m.key (.slice o m.l.length c) (.slice oR m.ring.length cR) := by
 obtain ⟨vb, vr, e, ⟨o, c, e1, _⟩, _, h2, _⟩ := h
 obtain ⟨oR, cR, e2⟩ := RiR.len (RcR.ri h2)
 exact ⟨o, c, oR, cR, by rw [e, e1, e2]⟩
theorem RcPm.rd {lo hi : Nat} {w : World} {v : Value} {m : Pm} (h : RcPm lo hi w v m) : RdPm hi w v m := by
 obtain ⟨vb, vr, e, h1, _, h2, _⟩ := h
 exact ⟨vb, vr, e, h1.mono (Nat.zero_le _) (Nat.le_refl _), RiR.mon.go (RcR.ri h2) (Nat.zero_le _) (Nat.le_refl _)⟩
end Go.Proofs.YtajfkcpifnpkeaaGreat

/- The model's JournalOk. -/
namespace Go.Proofs.YtajfkcpifnpkeaaGreat
open Go.ChangeShapes Go.WideShapes Go.ChangeAt Go.RowKit Go.Joins
set_option linter.unusedVariables false
set_option linter.unusedSimpArgs false

/-- The box of a pool whose lists are the call's own. -/
structure PBox (w : World) (base B : Nat) (key : Int) (l : List Bk) (hs : List Hd) (o : Option Addr) (c : Nat) (oR : Option Addr) (cR : Nat) : Prop where
 box : w.heap[B]? = some (.cells #[.int .i64 key, .slice o l.length c, .slice oR hs.length cR] 41 (0, 0))
 backs : ownK w base (.slice o l.length c) l
 ring : ownL layH 152 w base (.slice oR hs.length cR) hs
theorem PBox.kept {w w' : World} {base B : Nat} {key : Int} {l : List Bk} {hs : List Hd} {o oR : Option Addr} {c cR : Nat} (h : PBox w base B key l hs o c oR cR) (hb : Below w.heap.size w w') : PBox w' base B key l hs o c oR cR :=
 ⟨(hb.block B (Array.getElem?_eq_some_iff.1 h.box).1).trans h.box, own_kept h.backs hb, own_kept h.ring hb⟩
/-- The box set anew. -/
theorem PBox.set {w : World} {base B : Nat} {key : Int} {l : List Bk} {hs : List Hd} {o oR : Option Addr} {c n cR : Nat} {z : Array Value} (hB : w.heap[B]? = some (.cells z 41 (0, 0))) (hz : z.size = 3) (h1 : ownK w base (.slice o l.length c) l) (h2 : ownL layH 152 w base (.slice oR n cR) hs) (hn : n = hs.length) : PBox (setP w B (.int .i64 key) (.slice o l.length c) (.slice oR n cR)) base B key l hs o c oR cR := by
 subst hn
 have b1 := box_put hB 0 (.int .i64 key)
 have b2 := box_put b1 1 (.slice o l.length c)
 have b3 := box_put b2 2 (.slice oR hs.length cR)
 refine ⟨?_, own_putB (own_putB (own_putB h1 hB neP4 0 _) b1 neP4 1 _) b2 neP4 2 _, own_putB (own_putB (own_putB h2 hB neP1 0 _) b1 neP1 1 _) b2 neP1 2 _⟩
 rw [b3]
 match z, hz with
 | ⟨[x, y, u]⟩, _ => rfl
theorem capH {w : World} {base : Nat} {o : Option Addr} {n c : Nat} {hs : List Hd} (h : ownL layH 152 w base (.slice o n c) hs) : o = none → c = 0 := fun e => (InRow.cap (InRow.of h)) n c (by rw [e])
theorem setP_below {C : Nat} {w W : World} {B : Nat} (h : Below C w W) (hB : C ≤ B) (x y z : Value) : Below C w (setP W B x y z) := ((h.setCell (p := ⟨B, 0, none⟩) hB _).setCell (p := ⟨B, 1, none⟩) hB _).setCell (p := ⟨B, 2, none⟩) hB _

theorem finJ {cur W : World} {base B : Nat} {key : Int} {m : List Bk} {hs2 : List Hd} {o2 oR2 : Option Addr} {c2 n2 cR2 : Nat} {z0 z1 z2 : Value} (hZ : W.heap[B]? = some (.cells #[z0, z1, z2] 41 (0, 0))) (hx : Below cur.heap.size cur W) (hB : cur.heap.size ≤ B) (h1 : ownK W base (.slice o2 m.length c2) m) (h2 : ownL layH 152 W base (.slice oR2 n2 cR2) hs2) (hn : n2 = hs2.length) (h3 : hs2.length ≤ 3) :
  ∃ B' hs' o' c' oR' cR', Value.pointer (some ⟨B, 0, none⟩) = .pointer (some ⟨B', 0, none⟩) ∧ Value.bool true = .bool true ∧ Hid (PBox (setP W B (.int .i64 key) (.slice o2 m.length c2) (.slice oR2 n2 cR2)) base B' key m hs' o' c' oR' cR') ∧ Hid (Below cur.heap.size cur (setP W B (.int .i64 key) (.slice o2 m.length c2) (.slice oR2 n2 cR2))) ∧ cur.heap.size ≤ B' ∧ Hid (hs'.length ≤ 3) :=
 ⟨B, hs2, o2, c2, oR2, cR2, rfl, rfl, PBox.set hZ rfl h1 h2 hn, setP_below hx hB _ _ _, hB, h3⟩
theorem finJn {cur W : World} {base : Nat} {key : Int} {m : List Bk} {hs2 : List Hd} {o2 oR2 : Option Addr} {c2 n2 cR2 : Nat} (hx : Below cur.heap.size cur W) (h1 : ownK W base (.slice o2 m.length c2) m) (h2 : ownL layH 152 W base (.slice oR2 n2 cR2) hs2) (hn : n2 = hs2.length) (h3 : hs2.length ≤ 3) :
  ∃ B' hs' o' c' oR' cR', Value.pointer (some ⟨W.heap.size, 0, none⟩) = .pointer (some ⟨B', 0, none⟩) ∧ Value.bool true = .bool true ∧ Hid (PBox (W.alloc (.cells #[.int .i64 key, .slice o2 m.length c2, .slice oR2 n2 cR2] 41)) base B' key m hs' o' c' oR' cR') ∧ Hid (Below cur.heap.size cur (W.alloc (.cells #[.int .i64 key, .slice o2 m.length c2, .slice oR2 n2 cR2] 41))) ∧ cur.heap.size ≤ B' ∧ Hid (hs'.length ≤ 3) := by
 subst hn
 exact ⟨W.heap.size, hs2, o2, c2, oR2, cR2, rfl, rfl, ⟨World.alloc_heap_new W _, World.ownsRow.alloc h1 _, World.ownsRow.alloc h2 _⟩, hx.alloc hx.size _, hx.size, h3⟩

set_option maxRecDepth 100000 in
set_option maxHeartbeats 16000000 in
theorem specJ_loop (key safe : Int) (b off cap : Nat) (cs : List Cd) (w : World) (hbl : cs.length ≠ 0 → b < w.heap.size) (hcell : ∀ i, i < cs.length → ∀ j, j < layC.k → w.cell? ⟨b, off + i * layC.k + j, none⟩ = (layC.cs (cs.getD i layC.d))[j]?) (hk : keyB key = true) (hl : cs.length ≤ 100) (h0 : 0 ≤ safe) (h1 : safe ≤ (cs.length : Int)) (ob : Option Addr) (hob : cs.length ≠ 0 → ob = some ⟨b, off, none⟩) :
  Calls Tryz.prog 47 #[jrn key (.slice ob cs.length cap) safe] w fun e w' => e = .returned (.bool (runTo cs cs.length).isSome) ∧ Below w.heap.size w w' := by
 have hik := l3key_any key
 rw [hk] at hik
 have HC := hide hcell
 have HOB := hide hob
 have HBL := hide hbl
 have q1 : decide (100 < (cs.length : Int)) = false := decide_eq_false (by omega)
 have q2 : decide (safe < 0) = false := decide_eq_false (by omega)
 have q3 : decide ((cs.length : Int) < safe) = false := decide_eq_false (by omega)
 have HN := hide hl
 clear hcell hob hbl h0 h1
 obtain ⟨W0, hW0⟩ : ∃ W, (w.alloc (.cells #[.int .i64 key, .slice ob cs.length cap, .int .i64 safe] 38)) = W := ⟨_, rfl⟩
 have hb_W0 : Below w.heap.size w W0 := by rw [← hW0]; exact ((Below.refl _ _).alloc (Nat.le_refl _) _)
 have HB := hide hb_W0
 clear hb_W0
 have zz : w.heap.size < W0.heap.size := by rw [← hW0]; simp
 have z0 : W0.cell? ⟨w.heap.size, 0, none⟩ = some (.int .i64 key) := by rw [← hW0]; simp [go_sem]
 have z1 : W0.cell? ⟨w.heap.size, 1, none⟩ = some (.slice ob cs.length cap) := by rw [← hW0]; simp [go_sem]
 have z2 : W0.cell? ⟨w.heap.size, 2, none⟩ = some (.int .i64 safe) := by rw [← hW0]; simp [go_sem]
 have HL := hide (l4new_any key W0 hk)
 have hz0 := zz
 go_enter Tryz.func47, Tryz.ntmps47
 go_wp2_with (go_at_call 101; refine (hik _).mono ?_; rintro e w9 ⟨rfl, rfl⟩)
 refine (HL.out).mono ?_
 rintro e v1 ⟨gR, rfl, hring, hb⟩
 have HRG := hide hring
 have hs1 := hb.size
 clear hring
 replace z0 := bC hb z0 zz
 replace z1 := bC hb z1 zz
 replace z2 := bC hb z2 zz
 replace zz := Nat.lt_of_lt_of_le zz hb.size
 replace HB := hide (HB.out.trans (hb.mono HB.out.size))
 clear hb
 have z1v := z1
 have zzv := zz
 have HB1W := HB
 obtain ⟨W1, hW1⟩ : ∃ W, (v1.alloc (.cells #[.int .i64 key, .slice none 0 0, .slice (some ⟨gR, 0, none⟩) 1 1] 41)) = W := ⟨_, rfl⟩
 have hb_W1 : Below v1.heap.size v1 W1 := by rw [← hW1]; exact ((Below.refl _ _).alloc (Nat.le_refl _) _)
 replace z0 := bC hb_W1 z0 zz
 replace z1 := bC hb_W1 z1 zz
 replace z2 := bC hb_W1 z2 zz
 replace zz := Nat.lt_of_lt_of_le zz hb_W1.size
 replace HB := hide (HB.out.trans (hb_W1.mono HB.out.size))
 clear hb_W1
 have zp : v1.heap.size < W1.heap.size := by rw [← hW1]; simp
 have p0 : W1.cell? ⟨v1.heap.size, 0, none⟩ = some (.int .i64 key) := by rw [← hW1]; simp [go_sem]
 have p1 : W1.cell? ⟨v1.heap.size, 1, none⟩ = some (.slice none 0 0) := by rw [← hW1]; simp [go_sem]
 have p2 : W1.cell? ⟨v1.heap.size, 2, none⟩ = some (.slice (some ⟨gR, 0, none⟩) 1 1) := by rw [← hW1]; simp [go_sem]
 obtain ⟨o3, c3, hs3, rg1, _, _⟩ := HRG.out
 have hb1 : Below v1.heap.size v1 W1 := by rw [← hW1]; exact (Below.refl _ _).alloc (Nat.le_refl _) _
 have HP : Hid (PBox W1 w.heap.size v1.heap.size key [] [(o3, 8, c3)] none 0 (some ⟨gR, 0, none⟩) 1) := ⟨by rw [← hW1]; exact World.alloc_heap_new v1 _, World.ownsRow_nil _ _ _ _, own_mono (own_kept rg1 hb1) (by omega)⟩
 clear rg1 HRG hb1
 go_wp2
 go_loopw [4] (fun iv wr => ∃ (t : Nat) (l : List Bk) (hs : List Hd) (o : Option Addr) (c : Nat) (oR : Option Addr) (cR : Nat), t ≤ cs.length ∧ iv = .int .i64 (t : Int) ∧ Hid (PBox wr w.heap.size v1.heap.size key l hs o c oR cR) ∧ Hid (runTo cs t = some l) ∧ Hid (hs.length ≤ 3) ∧ Hid (Below v1.heap.size v1 wr))
  (fun iv _ => cs.length - (intOf iv).toNat)
 case atStart => exact ⟨0, [], _, _, _, _, _, Nat.zero_le _, rfl, HP.out, rfl, (Nat.le_of_ble_eq_true rfl), by rw [← hW1]; exact (Below.refl _ _).alloc (Nat.le_refl _) _⟩
 case round =>
  obtain ⟨t, l, hs, o, c, oR, cR, htl, rfl, HPB, HRUN, HS3, HBR⟩ := hrel
  have hv1 := HBR.out.size
  have HBB : Hid (Below w.heap.size w wr) := (HB1W.out).trans (HBR.out.mono HB1W.out.size)
  have y1 := bC HBR.out z1v zzv
  by_cases hlt : t < cs.length
  ·skip
   clear z0 z1 z2 zz p0 p1 p2 zp hW0 hW1 HP hik HB
   have hlt' : (t : Int) < (cs.length : Int) := by omega
   have ht0 : (0 : Int) ≤ (t : Int) := by omega
   have hob := HOB.out (by omega)
   have hbl := HBL.out (by omega)
   subst hob
   obtain ⟨hbo, hll⟩ := runTo_ok t l (by omega) HRUN.out
   obtain ⟨c0, c1, c2⟩ := RdL.cmd (C := w.heap.size) HC.out t hlt
   replace c0 := (HBB.out.cell (p := ⟨b, off + t * 3, none⟩) hbl).trans c0
   replace c1 := (HBB.out.cell (p := ⟨b, off + t * 3 + 1, none⟩) hbl).trans c1
   replace c2 := (HBB.out.cell (p := ⟨b, off + t * 3 + 2, none⟩) hbl).trans c2
   have HNX := hide (runTo_succ hlt)
   obtain ⟨x, y, u, hxyu⟩ : ∃ x y u, cs.getD t (0, 0, 0) = (x, y, u) := ⟨_, _, _, rfl⟩
   rw [hxyu] at c0 c1 c2 HNX
   have HST := hide (fun h => run_stop hlt (hxyu ▸ h) : stepO (runTo cs t) (x, y, u) = none → (runTo cs cs.length).isSome = false)
   rw [HRUN.out] at HNX HST
   simp only [stepO, Option.bind_some] at c0 c1 c2 HNX HST
   clear hxyu HRUN
   have HPC := hide (specPoolCmdOk_any x y u)
   cases hc : cmdOkB x y u with
   | false =>
    rw [hc] at HST HPC
    have HEND := hide (HST.out (by simp))
    clear HST HNX
    have HB := HBB
    go_wp2_with fail
    refine (HPC.out _).mono ?_
    rintro e w2 ⟨rfl, hb⟩
    replace HB := hide (HB.out.trans (hb.mono HB.out.size))
    clear hb
    go_wp2
    go_ret
    exact ⟨by rw [HEND.out]; rfl, HB.out⟩
   | true =>
    rw [hc] at HST HNX HPC
    simp only [if_true] at HST HNX
    go_wp2_with fail
    refine (HPC.out _).mono ?_
    rintro e w2 ⟨rfl, hb⟩
    have hs2 := hb.size
    have HPB2 := hide (HPB.out.kept hb)
    have HBR2 := hide (HBR.out.trans (hb.mono hv1))
    have HBB2 := hide (HBB.out.trans (hb.mono HBB.out.size))
    replace y1 := bC hb y1 (show w.heap.size < wr.heap.size by have := HB1W.out.size; omega)
    replace c0 := bC hb c0 (show b < wr.heap.size by have := HBB.out.size; omega)
    replace c1 := bC hb c1 (show b < wr.heap.size by have := HBB.out.size; omega)
    replace c2 := bC hb c2 (show b < wr.heap.size by have := HBB.out.size; omega)
    clear hb HPB HBR HBB HPC
    have p0 : w2.cell? ⟨v1.heap.size, 0, none⟩ = some (.int .i64 key) := bx_cell HPB2.out.box 0 _ rfl
    have p1 : w2.cell? ⟨v1.heap.size, 1, none⟩ = some (.slice o l.length c) := bx_cell HPB2.out.box 1 _ rfl
    have p2 : w2.cell? ⟨v1.heap.size, 2, none⟩ = some (.slice oR hs.length cR) := bx_cell HPB2.out.box 2 _ rfl
    have hpz : v1.heap.size < w2.heap.size := (Array.getElem?_eq_some_iff.1 HPB2.out.box).1
    have hyz : w.heap.size < w2.heap.size := by have := HB1W.out.size; omega
    have hbz : b < w2.heap.size := by omega
    have hzv : v1.heap.size ≤ w2.heap.size := by omega
    have HRB := hide (ownL.rds (L := layK) HPB2.out.backs)
    have HRR := hide (ownL.rds (L := layH) HPB2.out.ring)
    have hcb := own_capK HPB2.out.backs
    have hcr := capH HPB2.out.ring
    cases hdo : doL l x y u with
    | none =>
     rw [hdo] at HST
     have HEND := hide (HST.out rfl)
     have HY := hide (fun W (hb : Below w2.heap.size w2 W) => l4do_no key o c l oR hs.length cR x y u W hbo hdo (by have := HN.out; omega) ((HRB.out.kept hb (Nat.le_refl _)).le hb.size))
     clear HST HNX hdo HRR hcb hcr
     go_upto_region 9 with fail
     go_cut [5, 6] from 47 to 56 (fun s5 s6 wx => s6 = .bool false ∧ Hid (Below w2.heap.size w2 wx))
     case first =>
      go_region_held3 (fun w' => w'.cell? ⟨v1.heap.size, 0, none⟩ = some (.int .i64 key) ∧ w'.cell? ⟨v1.heap.size, 1, none⟩ = some (.slice o l.length c) ∧ w'.cell? ⟨v1.heap.size, 2, none⟩ = some (.slice oR hs.length cR) ∧ w'.cell? ⟨w.heap.size, 1, none⟩ = some (.slice (some ⟨b, off, none⟩) cs.length cap) ∧ w'.cell? ⟨b, off + t * 3, none⟩ = some (.int .i64 x) ∧ w'.cell? ⟨b, off + t * 3 + 1, none⟩ = some (.int .i64 y) ∧ w'.cell? ⟨b, off + t * 3 + 2, none⟩ = some (.int .i64 u)) (first | with_reducible exact ⟨k0_0, k0_1, k0_2, k0_3, k0_4, k0_5, k0_6⟩ | with_reducible exact ⟨p0, p1, p2, y1, c0, c1, c2⟩ | with_reducible exact ⟨s0_0, s0_1, s0_2, s0_3, s0_4, s0_5, s0_6⟩ | go_keep) (first | (go_at_call 103; have hc_ := HY.out w2.drew (Below.drew (Below.refl _ _)); with_reducible refine hc_.mono ?_; clear hc_; rintro e x0 ⟨rfl, hb⟩; have hp0 : Below w2.heap.size w2 x0 := Below.trans (show Below w2.heap.size w2 w2.drew from (Below.drew (Below.refl _ _))) (hb.mono (by simp)); have sp0 := hp0.size; have k0_0 := bC hp0 p0 hpz; have k0_1 := bC hp0 p1 hpz; have k0_2 := bC hp0 p2 hpz; have k0_3 := bC hp0 y1 hyz; have k0_4 := bC hp0 c0 hbz; have k0_5 := bC hp0 c1 hbz; have k0_6 := bC hp0 c2 hbz; clear hb) | (go_at_call 103; have hc_ := HY.out (w2.alloc (.cells #[.int .i64 0, .slice none 0 0, .slice none 0 0] 41)).drew (Below.drew ((Below.refl _ _).alloc (Nat.le_refl _) _)); with_reducible refine hc_.mono ?_; clear hc_; rintro e x0 ⟨rfl, hb⟩; have hp0 : Below w2.heap.size w2 x0 := Below.trans (show Below w2.heap.size w2 (w2.alloc (.cells #[.int .i64 0, .slice none 0 0, .slice none 0 0] 41)).drew from (Below.drew ((Below.refl _ _).alloc (Nat.le_refl _) _))) (hb.mono (by simp)); have sp0 := hp0.size; have k0_0 := bC hp0 p0 hpz; have k0_1 := bC hp0 p1 hpz; have k0_2 := bC hp0 p2 hpz; have k0_3 := bC hp0 y1 hyz; have k0_4 := bC hp0 c0 hbz; have k0_5 := bC hp0 c1 hbz; have k0_6 := bC hp0 c2 hbz; have hZ0 := box_newA hb; have hzl0 := (Array.getElem?_eq_some_iff.1 hZ0).1; have hzc_0 := bx_cell hZ0 0 _ rfl; have hzf_0 := bx_frozen hZ0 0; have hzc_1 := bx_cell hZ0 1 _ rfl; have hzf_1 := bx_frozen hZ0 1; have hzc_2 := bx_cell hZ0 2 _ rfl; have hzf_2 := bx_frozen hZ0 2; have s0_0 : (((x0.setCell ⟨w2.heap.size, 0, none⟩ (.int .i64 key)).setCell ⟨w2.heap.size, 1, none⟩ (.slice o l.length c)).setCell ⟨w2.heap.size, 2, none⟩ (.slice oR hs.length cR)).cell? ⟨v1.heap.size, 0, none⟩ = some (.int .i64 key) := setP_cell k0_0 hpz; have s0_1 : (((x0.setCell ⟨w2.heap.size, 0, none⟩ (.int .i64 key)).setCell ⟨w2.heap.size, 1, none⟩ (.slice o l.length c)).setCell ⟨w2.heap.size, 2, none⟩ (.slice oR hs.length cR)).cell? ⟨v1.heap.size, 1, none⟩ = some (.slice o l.length c) := setP_cell k0_1 hpz; have s0_2 : (((x0.setCell ⟨w2.heap.size, 0, none⟩ (.int .i64 key)).setCell ⟨w2.heap.size, 1, none⟩ (.slice o l.length c)).setCell ⟨w2.heap.size, 2, none⟩ (.slice oR hs.length cR)).cell? ⟨v1.heap.size, 2, none⟩ = some (.slice oR hs.length cR) := setP_cell k0_2 hpz; have s0_3 : (((x0.setCell ⟨w2.heap.size, 0, none⟩ (.int .i64 key)).setCell ⟨w2.heap.size, 1, none⟩ (.slice o l.length c)).setCell ⟨w2.heap.size, 2, none⟩ (.slice oR hs.length cR)).cell? ⟨w.heap.size, 1, none⟩ = some (.slice (some ⟨b, off, none⟩) cs.length cap) := setP_cell k0_3 hyz; have s0_4 : (((x0.setCell ⟨w2.heap.size, 0, none⟩ (.int .i64 key)).setCell ⟨w2.heap.size, 1, none⟩ (.slice o l.length c)).setCell ⟨w2.heap.size, 2, none⟩ (.slice oR hs.length cR)).cell? ⟨b, off + t * 3, none⟩ = some (.int .i64 x) := setP_cell k0_4 hbz; have s0_5 : (((x0.setCell ⟨w2.heap.size, 0, none⟩ (.int .i64 key)).setCell ⟨w2.heap.size, 1, none⟩ (.slice o l.length c)).setCell ⟨w2.heap.size, 2, none⟩ (.slice oR hs.length cR)).cell? ⟨b, off + t * 3 + 1, none⟩ = some (.int .i64 y) := setP_cell k0_5 hbz; have s0_6 : (((x0.setCell ⟨w2.heap.size, 0, none⟩ (.int .i64 key)).setCell ⟨w2.heap.size, 1, none⟩ (.slice o l.length c)).setCell ⟨w2.heap.size, 2, none⟩ (.slice oR hs.length cR)).cell? ⟨b, off + t * 3 + 2, none⟩ = some (.int .i64 u) := setP_cell k0_6 hbz; clear hb))
      all_goals (go_wp2_with fail; go_meet)
      all_goals first
       | with_reducible exact ⟨rfl, hide (setP_below hp0 (Nat.le_refl _) _ _ _)⟩
       | with_reducible exact ⟨rfl, hide (hp0.alloc hp0.size _)⟩
     case rest =>
     obtain ⟨rfl, Hbl⟩ := hcut
     have HBw := hide (HBB2.out.trans (Hbl.out.mono HBB2.out.size))
     go_wp2
     go_ret
     exact ⟨by rw [HEND.out]; rfl, HBw.out⟩
    | some m =>
     rw [hdo] at HNX
     have hs3 := HS3.out
     have HY := hide (fun W (hb : Below w2.heap.size w2 W) => l4do_yes key o c l oR cR hs x y u m W hk hbo hc hdo (by have := HN.out; omega) ((HRB.out.kept hb (Nat.le_refl _)).le hb.size) ((HRR.out.kept hb (Nat.le_refl _)).le hb.size) hcr hs3)
     clear HST hdo hc HRB HRR hcb
     go_upto_region 9 with fail
     go_cut [5, 6] from 47 to 56 (fun s5 s6 wx => ∃ B hs' o' c' oR' cR', s5 = .pointer (some ⟨B, 0, none⟩) ∧ s6 = .bool true ∧ Hid (PBox wx w.heap.size B key m hs' o' c' oR' cR') ∧ Hid (Below w2.heap.size w2 wx) ∧ w2.heap.size ≤ B ∧ Hid (hs'.length ≤ 3))
     case first =>
      go_region_held3 (fun w' => w'.cell? ⟨v1.heap.size, 0, none⟩ = some (.int .i64 key) ∧ w'.cell? ⟨v1.heap.size, 1, none⟩ = some (.slice o l.length c) ∧ w'.cell? ⟨v1.heap.size, 2, none⟩ = some (.slice oR hs.length cR) ∧ w'.cell? ⟨w.heap.size, 1, none⟩ = some (.slice (some ⟨b, off, none⟩) cs.length cap) ∧ w'.cell? ⟨b, off + t * 3, none⟩ = some (.int .i64 x) ∧ w'.cell? ⟨b, off + t * 3 + 1, none⟩ = some (.int .i64 y) ∧ w'.cell? ⟨b, off + t * 3 + 2, none⟩ = some (.int .i64 u)) (first | with_reducible exact ⟨k0_0, k0_1, k0_2, k0_3, k0_4, k0_5, k0_6⟩ | with_reducible exact ⟨p0, p1, p2, y1, c0, c1, c2⟩ | with_reducible exact ⟨s0_0, s0_1, s0_2, s0_3, s0_4, s0_5, s0_6⟩ | go_keep) (first | (go_at_call 103; have hc_ := HY.out w2.drew (Below.drew (Below.refl _ _)); with_reducible refine hc_.mono ?_; clear hc_; rintro e x0 ⟨o2, d2, oR2, n2, dR2, o3, d3, hs3, rfl, hn2, ow2, owR, _, _, hb⟩; have hp0 : Below w2.heap.size w2 x0 := Below.trans (show Below w2.heap.size w2 w2.drew from (Below.drew (Below.refl _ _))) (hb.mono (by simp)); have sp0 := hp0.size; have ow2 := own_mono ow2 (show w.heap.size ≤ _ by (try simp) <;> omega); have owR := own_mono owR (show w.heap.size ≤ _ by (try simp) <;> omega); have hl3 := List.length_take_le 3 ((o3, 8, d3) :: hs); generalize List.take 3 ((o3, 8, d3) :: hs) = hs2 at hn2 owR hl3; subst hn2; have k0_0 := bC hp0 p0 hpz; have k0_1 := bC hp0 p1 hpz; have k0_2 := bC hp0 p2 hpz; have k0_3 := bC hp0 y1 hyz; have k0_4 := bC hp0 c0 hbz; have k0_5 := bC hp0 c1 hbz; have k0_6 := bC hp0 c2 hbz; clear hb) | (go_at_call 103; have hc_ := HY.out (w2.alloc (.cells #[.int .i64 0, .slice none 0 0, .slice none 0 0] 41)).drew (Below.drew ((Below.refl _ _).alloc (Nat.le_refl _) _)); with_reducible refine hc_.mono ?_; clear hc_; rintro e x0 ⟨o2, d2, oR2, n2, dR2, o3, d3, hs3, rfl, hn2, ow2, owR, _, _, hb⟩; have hp0 : Below w2.heap.size w2 x0 := Below.trans (show Below w2.heap.size w2 (w2.alloc (.cells #[.int .i64 0, .slice none 0 0, .slice none 0 0] 41)).drew from (Below.drew ((Below.refl _ _).alloc (Nat.le_refl _) _))) (hb.mono (by simp)); have sp0 := hp0.size; have ow2 := own_mono ow2 (show w.heap.size ≤ _ by (try simp) <;> omega); have owR := own_mono owR (show w.heap.size ≤ _ by (try simp) <;> omega); have hl3 := List.length_take_le 3 ((o3, 8, d3) :: hs); generalize List.take 3 ((o3, 8, d3) :: hs) = hs2 at hn2 owR hl3; subst hn2; have k0_0 := bC hp0 p0 hpz; have k0_1 := bC hp0 p1 hpz; have k0_2 := bC hp0 p2 hpz; have k0_3 := bC hp0 y1 hyz; have k0_4 := bC hp0 c0 hbz; have k0_5 := bC hp0 c1 hbz; have k0_6 := bC hp0 c2 hbz; have hZ0 := box_newA hb; have hzl0 := (Array.getElem?_eq_some_iff.1 hZ0).1; have hzc_0 := bx_cell hZ0 0 _ rfl; have hzf_0 := bx_frozen hZ0 0; have hzc_1 := bx_cell hZ0 1 _ rfl; have hzf_1 := bx_frozen hZ0 1; have hzc_2 := bx_cell hZ0 2 _ rfl; have hzf_2 := bx_frozen hZ0 2; have s0_0 : (((x0.setCell ⟨w2.heap.size, 0, none⟩ (.int .i64 key)).setCell ⟨w2.heap.size, 1, none⟩ (.slice o2 m.length d2)).setCell ⟨w2.heap.size, 2, none⟩ (.slice oR2 hs2.length dR2)).cell? ⟨v1.heap.size, 0, none⟩ = some (.int .i64 key) := setP_cell k0_0 hpz; have s0_1 : (((x0.setCell ⟨w2.heap.size, 0, none⟩ (.int .i64 key)).setCell ⟨w2.heap.size, 1, none⟩ (.slice o2 m.length d2)).setCell ⟨w2.heap.size, 2, none⟩ (.slice oR2 hs2.length dR2)).cell? ⟨v1.heap.size, 1, none⟩ = some (.slice o l.length c) := setP_cell k0_1 hpz; have s0_2 : (((x0.setCell ⟨w2.heap.size, 0, none⟩ (.int .i64 key)).setCell ⟨w2.heap.size, 1, none⟩ (.slice o2 m.length d2)).setCell ⟨w2.heap.size, 2, none⟩ (.slice oR2 hs2.length dR2)).cell? ⟨v1.heap.size, 2, none⟩ = some (.slice oR hs.length cR) := setP_cell k0_2 hpz; have s0_3 : (((x0.setCell ⟨w2.heap.size, 0, none⟩ (.int .i64 key)).setCell ⟨w2.heap.size, 1, none⟩ (.slice o2 m.length d2)).setCell ⟨w2.heap.size, 2, none⟩ (.slice oR2 hs2.length dR2)).cell? ⟨w.heap.size, 1, none⟩ = some (.slice (some ⟨b, off, none⟩) cs.length cap) := setP_cell k0_3 hyz; have s0_4 : (((x0.setCell ⟨w2.heap.size, 0, none⟩ (.int .i64 key)).setCell ⟨w2.heap.size, 1, none⟩ (.slice o2 m.length d2)).setCell ⟨w2.heap.size, 2, none⟩ (.slice oR2 hs2.length dR2)).cell? ⟨b, off + t * 3, none⟩ = some (.int .i64 x) := setP_cell k0_4 hbz; have s0_5 : (((x0.setCell ⟨w2.heap.size, 0, none⟩ (.int .i64 key)).setCell ⟨w2.heap.size, 1, none⟩ (.slice o2 m.length d2)).setCell ⟨w2.heap.size, 2, none⟩ (.slice oR2 hs2.length dR2)).cell? ⟨b, off + t * 3 + 1, none⟩ = some (.int .i64 y) := setP_cell k0_5 hbz; have s0_6 : (((x0.setCell ⟨w2.heap.size, 0, none⟩ (.int .i64 key)).setCell ⟨w2.heap.size, 1, none⟩ (.slice o2 m.length d2)).setCell ⟨w2.heap.size, 2, none⟩ (.slice oR2 hs2.length dR2)).cell? ⟨b, off + t * 3 + 2, none⟩ = some (.int .i64 u) := setP_cell k0_6 hbz; clear hb))
      all_goals (go_wp2_with fail; go_meet)
      all_goals first
       | with_reducible exact finJ hZ0 hp0 (Nat.le_refl _) ow2 owR rfl hl3
       | with_reducible exact finJn hp0 ow2 owR rfl hl3
     case rest =>
     obtain ⟨B, hs', o', c', oR', cR', rfl, rfl, HPX, Hbl, hB1, HS3'⟩ := hcut
     have HBw := hide (HBB2.out.trans (Hbl.out.mono HBB2.out.size))
     have hbp := (Hbl.out.block v1.heap.size hpz).trans HPB2.out.box
     have x0 := bx_cell HPX.out.box 0 _ rfl
     have x1 := bx_cell HPX.out.box 1 _ rfl
     have x2 := bx_cell HPX.out.box 2 _ rfl
     have d0 := bx_cell hbp 0 _ rfl
     have d1 := bx_cell hbp 1 _ rfl
     have d2 := bx_cell hbp 2 _ rfl
     have f0 := bx_frozen hbp 0
     have f1 := bx_frozen hbp 1
     have f2 := bx_frozen hbp 2
     have HPN := hide (PBox.set (key := key) hbp rfl HPX.out.backs HPX.out.ring rfl)
     have HBN := hide (setP_below (HBR2.out.trans (Hbl.out.mono hzv)) (Nat.le_refl _) (.int .i64 key) (.slice o' m.length c') (.slice oR' hs'.length cR'))
     clear p0 p1 p2 y1 c0 c1 c2 hbp
     go_wp2
     go_roundw
     case rel => exact ⟨t + 1, m, hs', o', c', oR', cR', by omega, by go_num, HPN.out, HNX.out, HS3'.out, HBN.out⟩
     case measure => simp [intOf]; omega
  ·have e : t = cs.length := by omega
   subst e
   have HRS := hide (show (runTo cs cs.length).isSome = true by rw [HRUN.out]; rfl)
   clear z0 z1 z2 zz p0 p1 p2 zp hW0 hW1 HP hik HB HRUN
   have hlz : ¬ ((cs.length : Int) < (cs.length : Int)) := by omega
   go_wp2
   go_ret
   exact ⟨by rw [HRS.out]; rfl, HBB.out⟩

set_option maxRecDepth 100000 in
set_option maxHeartbeats 4000000 in
theorem specJournalOk_any (key safe : Int) (o : Option Addr) (cap : Nat) (cs : List Cd) (w : World) (hR : RdC w.heap.size w o cs) (hl : cs.length ≤ 1048576) :
  Calls Tryz.prog 47 #[jrn key (.slice o cs.length cap) safe] w fun e w' => e = .returned (.bool (journalB key cs safe)) ∧ Below w.heap.size w w' := by
 by_cases hall : keyB key = true ∧ cs.length ≤ 100 ∧ 0 ≤ safe ∧ safe ≤ (cs.length : Int)
 ·obtain ⟨h1, h2, h3, h4⟩ := hall
  have e : journalB key cs safe = (runTo cs cs.length).isSome := by unfold journalB; simp [h1, h2, h3, h4]
  rw [e]
  rcases hR with hR | ⟨b, off, rfl, hbl, hcell⟩
  ·subst hR
   exact specJ_loop key safe 0 0 cap [] w (fun h => absurd rfl h) (fun i hi => absurd hi (Nat.not_lt_zero _)) h1 h2 h3 h4 o (fun h => absurd rfl h)
  ·exact specJ_loop key safe b off cap cs w (fun _ => hbl) hcell h1 h2 h3 h4 _ (fun _ => rfl)
 have HE := hide (show journalB key cs safe = false by
  rw [Bool.eq_false_iff]; intro h; unfold journalB at h; simp only [Bool.and_eq_true, decide_eq_true_eq] at h; exact hall ⟨h.1.1.1.1, h.1.1.1.2, h.1.1.2, h.1.2⟩)
 have hik := l3key_any key
 obtain ⟨W0, hW0⟩ : ∃ W, (w.alloc (.cells #[.int .i64 key, .slice o cs.length cap, .int .i64 safe] 38)) = W := ⟨_, rfl⟩
 have hb_W0 : Below w.heap.size w W0 := by rw [← hW0]; exact ((Below.refl _ _).alloc (Nat.le_refl _) _)
 have HB := hide hb_W0
 clear hb_W0
 have zz : w.heap.size < W0.heap.size := by rw [← hW0]; simp
 have z0 : W0.cell? ⟨w.heap.size, 0, none⟩ = some (.int .i64 key) := by rw [← hW0]; simp [go_sem]
 have z1 : W0.cell? ⟨w.heap.size, 1, none⟩ = some (.slice o cs.length cap) := by rw [← hW0]; simp [go_sem]
 have z2 : W0.cell? ⟨w.heap.size, 2, none⟩ = some (.int .i64 safe) := by rw [← hW0]; simp [go_sem]
 clear hR
 cases hk : keyB key with
 | false =>
  rw [hk] at hik
  clear hall
  go_enter Tryz.func47, Tryz.ntmps47
  go_wp2_with (go_at_call 101; refine (hik _).mono ?_; rintro e w9 ⟨rfl, rfl⟩)
  go_ret
  exact ⟨by rw [HE.out]; rfl, HB.out⟩
 | true =>
  by_cases h2 : cs.length ≤ 100
  ·by_cases h3 : 0 ≤ safe
   ·by_cases h4 : safe ≤ (cs.length : Int)
    ·exact absurd ⟨hk, h2, h3, h4⟩ hall
    ·skip
     rw [hk] at hik
     have q1 : decide (100 < (cs.length : Int)) = false := decide_eq_false (by omega)
     have q2 : decide (safe < 0) = false := decide_eq_false (by omega)
     have q3 : decide ((cs.length : Int) < safe) = true := decide_eq_true (by omega)
     clear hall
     go_enter Tryz.func47, Tryz.ntmps47
     go_wp2_with (go_at_call 101; refine (hik _).mono ?_; rintro e w9 ⟨rfl, rfl⟩)
     go_ret
     exact ⟨by rw [HE.out]; rfl, HB.out⟩
   ·skip
    rw [hk] at hik
    have q1 : decide (100 < (cs.length : Int)) = false := decide_eq_false (by omega)
    have q2 : decide (safe < 0) = true := decide_eq_true (by omega)
    clear hall
    go_enter Tryz.func47, Tryz.ntmps47
    go_wp2_with (go_at_call 101; refine (hik _).mono ?_; rintro e w9 ⟨rfl, rfl⟩)
    go_ret
    exact ⟨by rw [HE.out]; rfl, HB.out⟩
  ·skip
   rw [hk] at hik
   have q1 : decide (100 < (cs.length : Int)) = true := decide_eq_true (by omega)
   clear hall
   go_enter Tryz.func47, Tryz.ntmps47
   go_wp2_with (go_at_call 101; refine (hik _).mono ?_; rintro e w9 ⟨rfl, rfl⟩)
   go_ret
   exact ⟨by rw [HE.out]; rfl, HB.out⟩

end Go.Proofs.YtajfkcpifnpkeaaGreat

/- The model's l4replay: the pool that commands come to. -/
namespace Go.Proofs.YtajfkcpifnpkeaaGreat
open Go.ChangeShapes Go.WideShapes Go.ChangeAt Go.RowKit Go.Joins
set_option linter.unusedVariables false
set_option linter.unusedSimpArgs false

/-- Tables of the call's own: each is the one of a list of those who serve. -/
def PTabs (w : World) (base : Nat) (key : Int) (hs : List Hd) (R : List (List Bk)) : Prop := hs.length = R.length ∧ ∀ i, i < R.length → ∃ o3 c3 hs8, hs.getD i (none, 0, 0) = (o3, 8, c3) ∧ ownL layH 175 w base (.slice o3 8 c3) hs8 ∧ Tab (fun b => pairI key b (R.getD i [])) 8 w base hs8
theorem PTabs.kept {w w' : World} {base : Nat} {key : Int} {hs : List Hd} {R : List (List Bk)} (h : PTabs w base key hs R) (hb : Below w.heap.size w w') : PTabs w' base key hs R :=
 ⟨h.1, fun i hi => by obtain ⟨o3, c3, hs8, e, h1, h2⟩ := h.2 i hi; exact ⟨o3, c3, hs8, e, own_kept h1 hb, h2.kept hb⟩⟩
theorem PTabs.putB {w : World} {base : Nat} {key : Int} {hs : List Hd} {R : List (List Bk)} {B : Nat} {c : Array Value} (h : PTabs w base key hs R) (hB : w.heap[B]? = some (.cells c 41 (0, 0))) (j : Nat) (u : Value) : PTabs (w.setCell ⟨B, j, none⟩ u) base key hs R :=
 ⟨h.1, fun i hi => by obtain ⟨o3, c3, hs8, e, h1, h2⟩ := h.2 i hi; exact ⟨o3, c3, hs8, e, own_putB h1 hB neP2 j u, h2.grown (grown_set w B j u) (fun q hq => own_box (h2.row q hq) hB neP3)⟩⟩
theorem PTabs.setP {w : World} {base : Nat} {key : Int} {hs : List Hd} {R : List (List Bk)} {B : Nat} {c : Array Value} (h : PTabs w base key hs R) (hB : w.heap[B]? = some (.cells c 41 (0, 0))) (x y z : Value) : PTabs (Go.Proofs.YtajfkcpifnpkeaaGreat.setP w B x y z) base key hs R :=
 ((h.putB hB 0 x).putB (box_put hB 0 x) 1 y).putB (box_put (box_put hB 0 x) 1 y) 2 z
theorem PTabs.low {w : World} {base : Nat} {key : Int} {hs : List Hd} {R : List (List Bk)} {B : Nat} (h : PTabs w base key hs R) (hB : B < base) (j : Nat) (u : Value) : PTabs (w.setCell ⟨B, j, none⟩ u) base key hs R :=
 ⟨h.1, fun i hi => by
  obtain ⟨o3, c3, hs8, e, h1, h2⟩ := h.2 i hi
  refine ⟨o3, c3, hs8, e, own_low h1 hB j u, h2.grown (grown_set w B j u) (fun q hq => ?_)⟩
  cases hob : (hv hs8 q).ownBlock with
  | none => exact .inl rfl
  | some b => exact .inr (fun e => by have := ((h2.row q hq).lt b hob).1; injection e with e; omega)⟩
theorem PTabs.mono {w : World} {base b2 : Nat} {key : Int} {hs : List Hd} {R : List (List Bk)} (h : PTabs w base key hs R) (hb : b2 ≤ base) : PTabs w b2 key hs R :=
 ⟨h.1, fun i hi => by obtain ⟨o3, c3, hs8, e, h1, h2⟩ := h.2 i hi; exact ⟨o3, c3, hs8, e, own_mono h1 hb, Tab.mono h2 hb⟩⟩
theorem PTabs.cons {w : World} {base : Nat} {key : Int} {hs hs8 : List Hd} {R : List (List Bk)} {m : List Bk} {o3 : Option Addr} {c3 : Nat} (h : PTabs w base key hs R) (h1 : ownL layH 175 w base (.slice o3 8 c3) hs8) (h2 : Tab (fun b => pairI key b m) 8 w base hs8) : PTabs w base key ((o3, 8, c3) :: hs) (m :: R) :=
 ⟨by simp [h.1], fun i hi => by
  cases i with
  | zero => exact ⟨o3, c3, hs8, rfl, h1, h2⟩
  | succ i => simpa using h.2 i (by simpa using hi)⟩
theorem PTabs.take {w : World} {base : Nat} {key : Int} {hs : List Hd} {R : List (List Bk)} (n : Nat) (h : PTabs w base key hs R) : PTabs w base key (hs.take n) (R.take n) :=
 ⟨by simp [h.1], fun i hi => by
  have h1 : i < n := by simp at hi; omega
  have h2 : i < R.length := by simp at hi; omega
  have e1 : (hs.take n).getD i (none, 0, 0) = hs.getD i (none, 0, 0) := by simp [List.getD_eq_getElem?_getD, List.getElem?_take, h1]
  have e2 : (R.take n).getD i [] = R.getD i [] := by simp [List.getD_eq_getElem?_getD, List.getElem?_take, h1]
  rw [e1, e2]; exact h.2 i h2⟩
theorem ptabs_next {w x : World} {base b2 : Nat} {key : Int} {hs hs8 : List Hd} {R : List (List Bk)} {m : List Bk} {o3 : Option Addr} {c3 : Nat} (h : PTabs w base key hs R) (hb : Below w.heap.size w x) (h1 : ownL layH 175 x b2 (.slice o3 8 c3) hs8) (h2 : Tab (fun b => pairI key b m) 8 x b2 hs8) (hle : base ≤ b2) : PTabs x base key (((o3, 8, c3) :: hs).take 3) ((m :: R).take 3) :=
 ((h.kept hb).cons (own_mono h1 hle) (Tab.mono h2 hle)).take 3
/-- Those who served at the last times, the latest first. -/
def ringR (cs : List Cd) : Nat → List (List Bk)
 | 0 => [[]]
 | t + 1 => (servedOf cs (t + 1) :: ringR cs t).take 3
theorem runTo_back {cs : List Cd} {t : Nat} (h : (runTo cs cs.length).isSome = true) (ht : t ≤ cs.length) : ∃ l, runTo cs t = some l := by
 cases hr : runTo cs t with
 | some l => exact ⟨l, rfl⟩
 | none => rw [runTo_none hr ht] at h; cases h
theorem runTo_step {cs : List Cd} {t : Nat} {l : List Bk} (h : (runTo cs cs.length).isSome = true) (ht : t < cs.length) (hl : runTo cs t = some l) : ∃ m, cmdOkB (cs.getD t (0, 0, 0)).1 (cs.getD t (0, 0, 0)).2.1 (cs.getD t (0, 0, 0)).2.2 = true ∧ doL l (cs.getD t (0, 0, 0)).1 (cs.getD t (0, 0, 0)).2.1 (cs.getD t (0, 0, 0)).2.2 = some m ∧ runTo cs (t + 1) = some m := by
 obtain ⟨m, hm⟩ := runTo_back h (show t + 1 ≤ cs.length by omega)
 have hs := runTo_succ ht
 rw [hm, hl] at hs
 simp only [stepO, Option.bind_some] at hs
 split at hs
 ·next hc => exact ⟨m, hc, hs.symm, hm⟩
 ·cases hs

set_option maxRecDepth 100000 in
set_option maxHeartbeats 16000000 in
theorem l4replay_go (key : Int) (b off cap : Nat) (cs : List Cd) (w : World) (hbl : cs.length ≠ 0 → b < w.heap.size) (hcell : ∀ i, i < cs.length → ∀ j, j < layC.k → w.cell? ⟨b, off + i * layC.k + j, none⟩ = (layC.cs (cs.getD i layC.d))[j]?) (hk : keyB key = true) (hl : cs.length ≤ 100) (hrun : (runTo cs cs.length).isSome = true) (ob : Option Addr) (hob : cs.length ≠ 0 → ob = some ⟨b, off, none⟩) :
  Calls Tryz.prog 50 #[.int .i64 key, .slice ob cs.length cap] w fun e w' => ∃ o c oR cR hs, e = .returned (plv key (.slice o (servedOf cs cs.length).length c) (.slice oR hs.length cR)) ∧ ownK w' w.heap.size (.slice o (servedOf cs cs.length).length c) (servedOf cs cs.length) ∧ ownL layH 152 w' w.heap.size (.slice oR hs.length cR) hs ∧ PTabs w' w.heap.size key hs (ringR cs cs.length) ∧ hs.length ≤ 3 ∧ Below w.heap.size w w' := by
 have HC := hide hcell
 have HOB := hide hob
 have HBL := hide hbl
 have HN := hide hl
 have HRUN := hide hrun
 clear hcell hob hbl hrun
 obtain ⟨W0, hW0⟩ : ∃ W, (w.alloc (.cells #[.int .i64 0, .slice none 0 0, .slice none 0 0] 41)) = W := ⟨_, rfl⟩
 have hb_W0 : Below w.heap.size w W0 := by rw [← hW0]; exact ((Below.refl _ _).alloc (Nat.le_refl _) _)
 have HB := hide hb_W0
 clear hb_W0
 have zr : w.heap.size < W0.heap.size := by rw [← hW0]; simp
 have r0 : W0.cell? ⟨w.heap.size, 0, none⟩ = some (.int .i64 0) := by rw [← hW0]; simp [go_sem]
 have r1 : W0.cell? ⟨w.heap.size, 1, none⟩ = some (.slice none 0 0) := by rw [← hW0]; simp [go_sem]
 have r2 : W0.cell? ⟨w.heap.size, 2, none⟩ = some (.slice none 0 0) := by rw [← hW0]; simp [go_sem]
 have fr0 : W0.frozen? ⟨w.heap.size, 0, none⟩ = false := by rw [← hW0]; simp [go_sem]
 have fr1 : W0.frozen? ⟨w.heap.size, 1, none⟩ = false := by rw [← hW0]; simp [go_sem]
 have fr2 : W0.frozen? ⟨w.heap.size, 2, none⟩ = false := by rw [← hW0]; simp [go_sem]
 have hz0 := zr
 have HL := hide (l4new_any key W0 hk)
 go_enter Tryz.func50, Tryz.ntmps50
 go_wp2_with fail
 refine (HL.out).mono ?_
 rintro e v1 ⟨gR, rfl, hring, hb⟩
 have HRG := hide hring
 have hs1 := hb.size
 clear hring
 replace r0 := bC hb r0 zr
 replace r1 := bC hb r1 zr
 replace r2 := bC hb r2 zr
 replace fr0 := bF hb fr0 zr
 replace fr1 := bF hb fr1 zr
 replace fr2 := bF hb fr2 zr
 replace zr := Nat.lt_of_lt_of_le zr hb.size
 replace HB := hide (HB.out.trans (hb.mono HB.out.size))
 clear hb
 have r0v := r0
 have r1v := r1
 have r2v := r2
 have f0v := fr0
 have f1v := fr1
 have f2v := fr2
 have zrv := zr
 have HB1 := HB
 obtain ⟨W1, hW1⟩ : ∃ W, (v1.alloc (.cells #[.int .i64 key, .slice none 0 0, .slice (some ⟨gR, 0, none⟩) 1 1] 41)) = W := ⟨_, rfl⟩
 have hb_W1 : Below v1.heap.size v1 W1 := by rw [← hW1]; exact ((Below.refl _ _).alloc (Nat.le_refl _) _)
 replace r0 := bC hb_W1 r0 zr
 replace r1 := bC hb_W1 r1 zr
 replace r2 := bC hb_W1 r2 zr
 replace fr0 := bF hb_W1 fr0 zr
 replace fr1 := bF hb_W1 fr1 zr
 replace fr2 := bF hb_W1 fr2 zr
 replace zr := Nat.lt_of_lt_of_le zr hb_W1.size
 replace HB := hide (HB.out.trans (hb_W1.mono HB.out.size))
 clear hb_W1
 have zp : v1.heap.size < W1.heap.size := by rw [← hW1]; simp
 have p0 : W1.cell? ⟨v1.heap.size, 0, none⟩ = some (.int .i64 key) := by rw [← hW1]; simp [go_sem]
 have p1 : W1.cell? ⟨v1.heap.size, 1, none⟩ = some (.slice none 0 0) := by rw [← hW1]; simp [go_sem]
 have p2 : W1.cell? ⟨v1.heap.size, 2, none⟩ = some (.slice (some ⟨gR, 0, none⟩) 1 1) := by rw [← hW1]; simp [go_sem]
 obtain ⟨o3, c3, hs3, rg1, rg2, rg3⟩ := HRG.out
 have hb1 : Below v1.heap.size v1 W1 := by rw [← hW1]; exact (Below.refl _ _).alloc (Nat.le_refl _) _
 have HP : Hid (PBox W1 W0.heap.size v1.heap.size key [] [(o3, 8, c3)] none 0 (some ⟨gR, 0, none⟩) 1) := ⟨by rw [← hW1]; exact World.alloc_heap_new v1 _, World.ownsRow_nil _ _ _ _, own_kept rg1 hb1⟩
 have HPT : Hid (PTabs W1 W0.heap.size key [(o3, 8, c3)] (ringR cs 0)) := (PTabs.cons (R := []) (hs := []) ⟨rfl, fun i hi => absurd hi (Nat.not_lt_zero _)⟩ rg2 rg3).kept hb1
 clear rg1 rg2 rg3 HRG hb1
 go_wp2
 go_loopw [6] (fun iv wr => ∃ (t : Nat) (l : List Bk) (hs : List Hd) (o : Option Addr) (c : Nat) (oR : Option Addr) (cR : Nat), t ≤ cs.length ∧ iv = .int .i64 (t : Int) ∧ Hid (PBox wr W0.heap.size v1.heap.size key l hs o c oR cR) ∧ Hid (PTabs wr W0.heap.size key hs (ringR cs t)) ∧ Hid (runTo cs t = some l) ∧ Hid (hs.length ≤ 3) ∧ Hid (Below v1.heap.size v1 wr))
  (fun iv _ => cs.length - (intOf iv).toNat)
 case atStart => exact ⟨0, [], _, _, _, _, _, Nat.zero_le _, rfl, HP.out, HPT.out, rfl, (Nat.le_of_ble_eq_true rfl), by rw [← hW1]; exact (Below.refl _ _).alloc (Nat.le_refl _) _⟩
 case round =>
  obtain ⟨t, l, hs, o, c, oR, cR, htl, rfl, HPB, HPTB, HRT, HS3, HBR⟩ := hrel
  have hv1 := HBR.out.size
  clear r0 r1 r2 fr0 fr1 fr2 zr p0 p1 p2 zp hW0 hW1 HP HPT HB
  have HBB : Hid (Below w.heap.size w wr) := HB1.out.trans (HBR.out.mono HB1.out.size)
  have hpz : v1.heap.size < wr.heap.size := (Array.getElem?_eq_some_iff.1 HPB.out.box).1
  by_cases hlt : t < cs.length
  ·skip
   have hlt' : (t : Int) < (cs.length : Int) := by omega
   have ht0 : (0 : Int) ≤ (t : Int) := by omega
   have hob := HOB.out (by omega)
   have hbl := HBL.out (by omega)
   subst hob
   obtain ⟨hbo, hll⟩ := runTo_ok t l (by omega) HRT.out
   obtain ⟨m, hc, hdo, hnx⟩ := runTo_step HRUN.out hlt HRT.out
   obtain ⟨c0, c1, c2⟩ := RdL.cmd (C := w.heap.size) HC.out t hlt
   replace c0 := (HBB.out.cell (p := ⟨b, off + t * 3, none⟩) hbl).trans c0
   replace c1 := (HBB.out.cell (p := ⟨b, off + t * 3 + 1, none⟩) hbl).trans c1
   replace c2 := (HBB.out.cell (p := ⟨b, off + t * 3 + 2, none⟩) hbl).trans c2
   obtain ⟨x, y, u, hxyu⟩ : ∃ x y u, cs.getD t (0, 0, 0) = (x, y, u) := ⟨_, _, _, rfl⟩
   rw [hxyu] at c0 c1 c2 hc hdo
   dsimp only at c0 c1 c2 hc hdo
   clear hxyu
   have HNX := hide hnx
   have HRN := hide (show ringR cs (t + 1) = (m :: ringR cs t).take 3 by rw [ringR]; unfold servedOf; rw [hnx]; rfl)
   clear hnx
   have hs3 := HS3.out
   have hbz : b < wr.heap.size := by have := HBB.out.size; omega
   have hbp : b < v1.heap.size := by have := HB1.out.size; omega
   have HRB := hide (ownL.rds (L := layK) HPB.out.backs)
   have HRR := hide (ownL.rds (L := layH) HPB.out.ring)
   have hcr := capH HPB.out.ring
   have HY := hide (fun W (hb : Below wr.heap.size wr W) => l4do_yes key o c l oR cR hs x y u m W hk hbo hc hdo (by have := HN.out; omega) ((HRB.out.kept hb (Nat.le_refl _)).le hb.size) ((HRR.out.kept hb (Nat.le_refl _)).le hb.size) hcr hs3)
   clear hc hdo hcr HRB HRR
   have p0 : wr.cell? ⟨v1.heap.size, 0, none⟩ = some (.int .i64 key) := bx_cell HPB.out.box 0 _ rfl
   have p1 : wr.cell? ⟨v1.heap.size, 1, none⟩ = some (.slice o l.length c) := bx_cell HPB.out.box 1 _ rfl
   have p2 : wr.cell? ⟨v1.heap.size, 2, none⟩ = some (.slice oR hs.length cR) := bx_cell HPB.out.box 2 _ rfl
   have hW0v : W0.heap.size ≤ wr.heap.size := by omega
   go_wp2
   go_region_with (first | (go_at_call 103; have hc_ := HY.out wr.drew (Below.drew (Below.refl _ _)); with_reducible refine hc_.mono ?_; clear hc_; rintro e x0 ⟨o2, d2, oR2, n2, dR2, o3, d3, hs3', rfl, hn2, ow2, owR, ow3, tb3, hb⟩; have hp0 : Below wr.heap.size wr x0 := Below.trans (show Below wr.heap.size wr wr.drew from Below.drew (Below.refl _ _)) (hb.mono (by simp)); have sp0 := hp0.size; have ow2 := own_mono ow2 (show W0.heap.size ≤ _ by (try simp) <;> omega); have owR := own_mono owR (show W0.heap.size ≤ _ by (try simp) <;> omega); have pt := ptabs_next HPTB.out hp0 ow3 tb3 (show W0.heap.size ≤ _ by (try simp) <;> omega); rw [← HRN.out] at pt; have hl3 := List.length_take_le 3 ((o3, 8, d3) :: hs); generalize List.take 3 ((o3, 8, d3) :: hs) = hs2 at hn2 owR hl3 pt; subst hn2; have k0 := bC hp0 c0 hbz; have k1 := bC hp0 c1 hbz; have k2 := bC hp0 c2 hbz; have hbx := (hp0.block v1.heap.size hpz).trans HPB.out.box; have pc0 : x0.cell? ⟨v1.heap.size, 0, none⟩ = some (.int .i64 key) := bx_cell hbx 0 _ rfl; have pf0 := bx_frozen hbx 0; have pc1 : x0.cell? ⟨v1.heap.size, 1, none⟩ = some (.slice o l.length c) := bx_cell hbx 1 _ rfl; have pf1 := bx_frozen hbx 1; have pc2 : x0.cell? ⟨v1.heap.size, 2, none⟩ = some (.slice oR hs.length cR) := bx_cell hbx 2 _ rfl; have pf2 := bx_frozen hbx 2; have s0 : (((x0.setCell ⟨v1.heap.size, 0, none⟩ (.int .i64 key)).setCell ⟨v1.heap.size, 1, none⟩ (.slice o2 m.length d2)).setCell ⟨v1.heap.size, 2, none⟩ (.slice oR2 hs2.length dR2)).cell? ⟨b, off + t * 3, none⟩ = some (.int .i64 x) := setP_cell k0 hbp; have s1 : (((x0.setCell ⟨v1.heap.size, 0, none⟩ (.int .i64 key)).setCell ⟨v1.heap.size, 1, none⟩ (.slice o2 m.length d2)).setCell ⟨v1.heap.size, 2, none⟩ (.slice oR2 hs2.length dR2)).cell? ⟨b, off + t * 3 + 1, none⟩ = some (.int .i64 y) := setP_cell k1 hbp; have s2 : (((x0.setCell ⟨v1.heap.size, 0, none⟩ (.int .i64 key)).setCell ⟨v1.heap.size, 1, none⟩ (.slice o2 m.length d2)).setCell ⟨v1.heap.size, 2, none⟩ (.slice oR2 hs2.length dR2)).cell? ⟨b, off + t * 3 + 2, none⟩ = some (.int .i64 u) := setP_cell k2 hbp; have HPN := hide (PBox.set (key := key) hbx rfl ow2 owR rfl); have HPTN := hide (PTabs.setP pt hbx (.int .i64 key) (.slice o2 m.length d2) (.slice oR2 hs2.length dR2)); have HL3 := hide hl3; have HP0 := hide hp0; clear hb ow2 owR ow3 tb3 pt hl3 hp0 hbx))
   all_goals (have HBN := hide (setP_below (HBR.out.trans (HP0.out.mono hv1)) (Nat.le_refl _) (.int .i64 key) (.slice o2 m.length d2) (.slice oR2 hs2.length dR2)); go_wp2; go_roundw; (case rel => exact ⟨t + 1, m, hs2, o2, d2, oR2, dR2, by omega, by go_num, HPN.out, HPTN.out, HNX.out, HL3.out, HBN.out⟩); (case measure => (simp [intOf]; omega)))
  ·have e : t = cs.length := by omega
   subst e
   have hlz : ¬ ((cs.length : Int) < (cs.length : Int)) := by omega
   have hsv : servedOf cs cs.length = l := by unfold servedOf; rw [HRT.out]; rfl
   have HSV := hide hsv
   clear hsv
   have p0 : wr.cell? ⟨v1.heap.size, 0, none⟩ = some (.int .i64 key) := bx_cell HPB.out.box 0 _ rfl
   have p1 : wr.cell? ⟨v1.heap.size, 1, none⟩ = some (.slice o l.length c) := bx_cell HPB.out.box 1 _ rfl
   have p2 : wr.cell? ⟨v1.heap.size, 2, none⟩ = some (.slice oR hs.length cR) := bx_cell HPB.out.box 2 _ rfl
   have q0 := bC HBR.out r0v zrv
   have fq0 := bF HBR.out f0v zrv
   have q1 := bC HBR.out r1v zrv
   have fq1 := bF HBR.out f1v zrv
   have q2 := bC HBR.out r2v zrv
   have fq2 := bF HBR.out f2v zrv
   go_wp2
   refine bodyPost_ret (v := plv key (.slice o l.length c) (.slice oR hs.length cR)) (by simp [results, Tryz.results50, go_sem, q0, q1, q2]) rfl ⟨o, c, oR, cR, hs, by rw [HSV.out], ?_, ?_, ?_, HS3.out, setP_below HBB.out (Nat.le_refl _) _ _ _⟩
   ·rw [HSV.out]; exact own_mono (own_low (own_low (own_low HPB.out.backs hz0 0 _) hz0 1 _) hz0 2 _) (by omega)
   ·exact own_mono (own_low (own_low (own_low HPB.out.ring hz0 0 _) hz0 1 _) hz0 2 _) (by omega)
   ·exact PTabs.mono (((HPTB.out.low hz0 0 _).low hz0 1 _).low hz0 2 _) (by omega)

end Go.Proofs.YtajfkcpifnpkeaaGreat

/- A journal's own copy in the model; Cut, on both sides. -/
namespace Go.Proofs.YtajfkcpifnpkeaaGreat
open Go.ChangeShapes Go.WideShapes Go.ChangeAt Go.RowKit Go.Joins
set_option linter.unusedVariables false
set_option linter.unusedSimpArgs false

theorem journal_facts {key : Int} {cs : List Cd} {safe : Int} (h : journalB key cs safe = true) : keyB key = true ∧ cs.length ≤ 100 ∧ 0 ≤ safe ∧ safe ≤ (cs.length : Int) := by
 unfold journalB at h
 simp only [Bool.and_eq_true, decide_eq_true_eq] at h
 exact ⟨h.1.1.1.1, h.1.1.1.2, h.1.1.2, h.1.2⟩
/-- A journal whose list has room for itself; one of nothing has none. -/
def roomJm (v : Value) : Prop := ∃ k o n c s, v = jrn k (.slice o n c) s ∧ n ≤ c ∧ (o = none → c = 0)
theorem InJm.room {lo hi : Nat} {w : World} {v : Value} {m : Jm} (h : InJm lo hi w v m) : roomJm v := by
 obtain ⟨vl, e, h1⟩ := h
 rcases h1.1.2 with ⟨e1, e2⟩ | ⟨g, cap, cur, e1, hb, hc, h4, h5, h6, h7⟩
 ·exact ⟨_, none, 0, 0, _, by rw [e, e1], Nat.le_refl _, fun _ => rfl⟩
 ·exact ⟨_, some ⟨g, 0, none⟩, m.l.length, cap, _, by rw [e, e1], h4, fun h => by cases h⟩
theorem roomJm.two {k s : Int} {o : Option Addr} {n c : Nat} (h : roomJm (jrn k (.slice o n c) s)) : n ≤ c ∧ (o = none → c = 0) := by
 obtain ⟨k', o', n', c', s', e, h1, h2⟩ := h
 injection e with e
 simp at e
 obtain ⟨_, ⟨e2, e3, e4⟩, _⟩ := e
 subst e2 e3 e4
 exact ⟨h1, h2⟩
theorem cloneN_any (o : Option Addr) (cap : Nat) (l : List Cd) (n : Nat) (hnl : n = l.length) (w : World) (hR : RdC w.heap.size w o l) (hn : o = none → cap = 0) (hl : l.length ≤ 1048576) :
  Calls Tryz.prog 170 #[.slice o n cap] w fun e w' => ∃ o2 c2, e = .returned (.slice o2 n c2) ∧ ownC w' w.heap.size (.slice o2 n c2) l ∧ Below w.heap.size w w' := by
 subst hnl
 refine (cloneCmds_any o cap l w hR hn hl).mono ?_
 rintro e w' ⟨v, rfl, h1, h2⟩
 obtain ⟨o2, c2, e2, _⟩ := ownL.open (L := layC) h1
 subst e2
 exact ⟨o2, c2, rfl, h1, h2⟩

end Go.Proofs.YtajfkcpifnpkeaaGreat

/- Note, on both sides. -/
namespace Go.Proofs.YtajfkcpifnpkeaaGreat
open Go.ChangeShapes Go.WideShapes Go.ChangeAt Go.RowKit Go.Joins
set_option linter.unusedVariables false
set_option linter.unusedSimpArgs false

theorem journal_run {key : Int} {cs : List Cd} {safe : Int} (h : journalB key cs safe = true) : (runTo cs cs.length).isSome = true := by
 unfold journalB at h
 simp only [Bool.and_eq_true] at h
 exact h.2
theorem served_facts {key : Int} {cs : List Cd} {safe : Int} (h : journalB key cs safe = true) : backsOkB (servedOf cs cs.length) = true ∧ (servedOf cs cs.length).length ≤ 100 := by
 obtain ⟨l, hl⟩ := runTo_back (journal_run h) (Nat.le_refl _)
 have h1 := runTo_ok cs.length l (Nat.le_refl _) hl
 have h2 := (journal_facts h).2.1
 unfold servedOf
 rw [hl]
 exact ⟨h1.1, by simp only [Option.getD_some]; omega⟩
theorem l4replay_any (key : Int) (o : Option Addr) (cap : Nat) (cs : List Cd) (w : World) (hR : RdC w.heap.size w o cs) (hk : keyB key = true) (hl : cs.length ≤ 100) (hrun : (runTo cs cs.length).isSome = true) :
  Calls Tryz.prog 50 #[.int .i64 key, .slice o cs.length cap] w fun e w' => ∃ o c oR cR hs, e = .returned (plv key (.slice o (servedOf cs cs.length).length c) (.slice oR hs.length cR)) ∧ ownK w' w.heap.size (.slice o (servedOf cs cs.length).length c) (servedOf cs cs.length) ∧ ownL layH 152 w' w.heap.size (.slice oR hs.length cR) hs ∧ PTabs w' w.heap.size key hs (ringR cs cs.length) ∧ hs.length ≤ 3 ∧ Below w.heap.size w w' := by
 rcases hR with hR | ⟨b, off, rfl, hbl, hcell⟩
 ·subst hR
  exact l4replay_go key 0 0 cap [] w (fun h => absurd rfl h) (fun i hi => absurd hi (Nat.not_lt_zero _)) hk hl hrun o (fun h => absurd rfl h)
 ·exact l4replay_go key b off cap cs w (fun _ => hbl) hcell hk hl hrun _ (fun _ => rfl)

set_option maxRecDepth 100000 in
set_option maxHeartbeats 4000000 in
theorem cloneJournal_any (key safe : Int) (o : Option Addr) (cap : Nat) (l : List Cd) (w : World) (hR : RdC w.heap.size w o l) (hn : o = none → cap = 0) (hl : l.length ≤ 1048576) :
  Calls Tryz.prog 113 #[jrn key (.slice o l.length cap) safe] w fun e w' => ∃ o2 c2, e = .returned (jrn key (.slice o2 l.length c2) safe) ∧ ownC w' w.heap.size (.slice o2 l.length c2) l ∧ Below w.heap.size w w' := by
 obtain ⟨W0, hW0⟩ : ∃ W, ((w.alloc (.cells #[.int .i64 key, .slice o l.length cap, .int .i64 safe] 38)).alloc (.cells #[.int .i64 0, .slice none 0 0, .int .i64 0] 38)) = W := ⟨_, rfl⟩
 have hb_W0 : Below w.heap.size w W0 := by rw [← hW0]; exact (((Below.refl _ _).alloc (Nat.le_refl _) _).alloc (by simp <;> omega) _)
 have HB := hide hb_W0
 clear hb_W0
 have zz : w.heap.size < W0.heap.size := by rw [← hW0]; simp <;> omega
 have z0 : W0.cell? ⟨w.heap.size, 0, none⟩ = some (.int .i64 key) := by rw [← hW0]; simp [go_sem]
 have z1 : W0.cell? ⟨w.heap.size, 1, none⟩ = some (.slice o l.length cap) := by rw [← hW0]; simp [go_sem]
 have z2 : W0.cell? ⟨w.heap.size, 2, none⟩ = some (.int .i64 safe) := by rw [← hW0]; simp [go_sem]
 have fz0 : W0.frozen? ⟨w.heap.size, 0, none⟩ = false := by rw [← hW0]; simp [go_sem]
 have fz1 : W0.frozen? ⟨w.heap.size, 1, none⟩ = false := by rw [← hW0]; simp [go_sem]
 have fz2 : W0.frozen? ⟨w.heap.size, 2, none⟩ = false := by rw [← hW0]; simp [go_sem]
 have zr : w.heap.size + 1 < W0.heap.size := by rw [← hW0]; simp
 have r0 : W0.cell? ⟨w.heap.size + 1, 0, none⟩ = some (.int .i64 0) := by rw [← hW0]; simp [go_sem]
 have r1 : W0.cell? ⟨w.heap.size + 1, 1, none⟩ = some (.slice none 0 0) := by rw [← hW0]; simp [go_sem]
 have r2 : W0.cell? ⟨w.heap.size + 1, 2, none⟩ = some (.int .i64 0) := by rw [← hW0]; simp [go_sem]
 have fr0 : W0.frozen? ⟨w.heap.size + 1, 0, none⟩ = false := by rw [← hW0]; simp [go_sem]
 have fr1 : W0.frozen? ⟨w.heap.size + 1, 1, none⟩ = false := by rw [← hW0]; simp [go_sem]
 have fr2 : W0.frozen? ⟨w.heap.size + 1, 2, none⟩ = false := by rw [← hW0]; simp [go_sem]
 have hzr := zr
 have HCL := hide (cloneN_any o cap l l.length rfl W0 ((hR.kept HB.out (Nat.le_refl _)).le HB.out.size) hn hl)
 clear hR
 go_enter Tryz.func113, Tryz.ntmps113
 go_wp2_with fail
 refine (HCL.out).mono ?_
 rintro e v1 ⟨o2, c2, rfl, ow2, hb⟩
 have HO := hide ow2
 have hs1 := hb.size
 clear ow2
 replace z0 := bC hb z0 zz
 replace z1 := bC hb z1 zz
 replace z2 := bC hb z2 zz
 replace fz0 := bF hb fz0 zz
 replace fz1 := bF hb fz1 zz
 replace fz2 := bF hb fz2 zz
 replace zz := Nat.lt_of_lt_of_le zz hb.size
 replace r0 := bC hb r0 zr
 replace r1 := bC hb r1 zr
 replace r2 := bC hb r2 zr
 replace fr0 := bF hb fr0 zr
 replace fr1 := bF hb fr1 zr
 replace fr2 := bF hb fr2 zr
 replace zr := Nat.lt_of_lt_of_le zr hb.size
 replace HB := hide (HB.out.trans (hb.mono HB.out.size))
 clear hb
 have hzz : w.heap.size < W0.heap.size := by omega
 go_wp2
 refine bodyPost_ret (v := jrn key (.slice o2 l.length c2) safe) (by simp [results, Tryz.results113, go_sem, r0, r1, r2]) rfl ⟨o2, c2, rfl, own_mono (own_low (own_low (own_low (own_low HO.out hzz 1 _) hzr 0 _) hzr 1 _) hzr 2 _) (by omega), setP_below (HB.out.setCell (p := ⟨w.heap.size, 1, none⟩) (Nat.le_refl _) _) (Nat.le_succ _) _ _ _⟩

end Go.Proofs.YtajfkcpifnpkeaaGreat

/- Replay, on both sides. -/
namespace Go.Proofs.YtajfkcpifnpkeaaGreat
open Go.ChangeShapes Go.WideShapes Go.ChangeAt Go.RowKit Go.Joins
set_option linter.unusedVariables false
set_option linter.unusedSimpArgs false

def replayM (m : Jm) : Pm := if journalB m.key m.l m.safe = true then ⟨m.key, servedOf m.l m.l.length, ringT m.key (ringR m.l m.l.length)⟩ else pm0
theorem ringR_len (cs : List Cd) : ∀ n, (ringR cs n).length ≤ 3
 | 0 => by simp [ringR]
 | n + 1 => by rw [ringR, List.length_take]; omega
theorem replay_fit (m : Jm) : fitPm (replayM m) := by
 unfold replayM
 split
 ·next h => exact ringT_fit m.key _ _ (by have := (served_facts h).2; omega) (ringR_len _ _)
 ·exact ⟨by simp [pm0], by simp [pm0], by simp [pm0, szR, sumN], fun i hi => absurd hi (Nat.not_lt_zero _), fun i hi => absurd hi (Nat.not_lt_zero _)⟩
theorem ptabs_g {w : World} {base : Nat} {key : Int} {hs : List Hd} {R : List (List Bk)} (h : PTabs w base key hs R) : GTabs w base hs (ringT key R) := by
 refine ⟨by rw [h.1]; simp [ringT], fun i hi => ?_⟩
 have hi' : i < R.length := by simpa [ringT] using hi
 obtain ⟨o3, c3, hs8, e, h1, h2⟩ := h.2 i hi'
 rw [ringT_get _ _ _ hi']
 exact ⟨o3, c3, hs8, by rw [newT_len]; exact e, by rw [newT_len]; exact h1, tab_new h2⟩
/-- Those who served from the a-th time on, the latest first. -/
def lastS (cs : List Cd) (a : Nat) : Nat → List (List Bk)
 | 0 => []
 | j + 1 => servedOf cs (a + j) :: lastS cs a j
theorem lastS_len (cs : List Cd) (a : Nat) : ∀ j, (lastS cs a j).length = j
 | 0 => rfl
 | j + 1 => by simp [lastS, lastS_len cs a j]
theorem lastS_step (cs : List Cd) (a j : Nat) (key : Int) (hj : j ≤ 2) : newF key (servedOf cs (a + j)) :: ((lastS cs a j).map (newF key)).take 2 = (lastS cs a (j + 1)).map (newF key) := by
 rw [List.take_of_length_le (by rw [List.length_map, lastS_len]; exact hj)]
 rfl
theorem ringR_three (cs : List Cd) : ∀ n, ringR cs (n + 2) = [servedOf cs (n + 2), servedOf cs (n + 1), servedOf cs n]
 | 0 => rfl
 | n + 1 => by rw [ringR, ringR_three cs n]; rfl
theorem ringR_last (cs : List Cd) (n : Nat) : ringR cs n = lastS cs (n + 1 - 3) (n + 1 - (n + 1 - 3)) := by
 match n with
 | 0 => rfl
 | 1 => rfl
 | n + 2 =>
  rw [ringR_three, show n + 2 + 1 - 3 = n by omega, show n + 2 + 1 - n = 3 by omega]
  simp [lastS]
theorem lastS_ok {cs : List Cd} {a : Nat} (h : ∀ q, q < cs.length + 1 → backsOkB (servedOf cs q) = true) : ∀ j, a + j ≤ cs.length + 1 → ∀ l ∈ lastS cs a j, backsOkB l = true
 | 0, _ => fun l hl => by simp [lastS] at hl
 | j + 1, hj => fun l hl => by
  rcases List.mem_cons.1 hl with rfl | hl
  ·exact h _ (by omega)
  ·exact lastS_ok h j (by omega) l hl
theorem last_tabs {key : Int} {L : List (List Bk)} (h : ∀ l ∈ L, backsOkB l = true) : (L.map (newF key)).map ptLL = ringT key L := by
 rw [List.map_map]
 exact List.map_congr_left (fun l hl => ptLL_new key (h l hl))
theorem served_each {key safe : Int} {cs : List Cd} (h : journalB key cs safe = true) : ∀ q, q < cs.length + 1 → backsOkB (servedOf cs q) = true ∧ (servedOf cs q).length ≤ 100 := fun q hq => by
 obtain ⟨l, hl⟩ := runTo_back (journal_run h) (show q ≤ cs.length by omega)
 have h1 := runTo_ok q l (by omega) hl
 have h2 := (journal_facts h).2.1
 unfold servedOf
 rw [hl]
 exact ⟨h1.1, by simp only [Option.getD_some]; omega⟩

end Go.Proofs.YtajfkcpifnpkeaaGreat

/- The program's Replay. -/
namespace Go.Proofs.YtajfkcpifnpkeaaGreat
open Go.ChangeShapes Go.WideShapes Go.ChangeAt Go.RowKit Go.Joins
set_option linter.unusedVariables false
set_option linter.unusedSimpArgs false

/-- The backs of the pool that is turned: none at first. -/
def bvS (hs : List Hd) (a : Nat) : Nat → Value
 | 0 => .slice none 0 0
 | j + 1 => hv hs (a + j)
theorem bvS_last (hs : List Hd) (a : Nat) : ∀ (j n : Nat), 1 ≤ j → a + (j - 1) = n → bvS hs a j = hv hs n
 | 0, n, h, _ => absurd h (by omega)
 | j + 1, n, _, h => by
  rw [← h]
  rfl
theorem own_roomT {α : Type} {L : Lay α} {T : TypeId} {w : World} {base : Nat} {o : Option Addr} {n c : Nat} {fs : List α} (h : ownL L T w base (.slice o n c) fs) : fs.length ≤ c ∧ (o = none → c = 0) := by
 rcases h.2 with ⟨e, h0⟩ | ⟨g, cap, cur, e, _, _, h1, _⟩
 ·injection e with e1 e2 e3
  exact ⟨by omega, fun _ => e3⟩
 ·injection e with e1 e2 e3
  exact ⟨by omega, fun h => by rw [h] at e1; cases e1⟩

set_option maxRecDepth 100000 in
set_option maxHeartbeats 8000000 in
theorem implReplay_sh (v : Value) (m : Jm) (w : World) (hR : RdJm w.heap.size w v m) (hcp : capJm v) (hf : fitJm m) :
  Calls Tryz.prog 110 #[v] w fun e w' => ∃ v', e = .returned (.tuple #[v', .bool (journalB m.key m.l m.safe)]) ∧ InPm w.heap.size w'.heap.size w' v' (replayM m) ∧ Below w.heap.size w w' := by
 have hR0 := hR
 obtain ⟨vl, rfl, ⟨o, c, rfl, r⟩⟩ := hR0
 clear hcp hR
 obtain ⟨key, l, safe⟩ := m
 dsimp only at *
 have HPM := hide (show replayM ⟨key, l, safe⟩ = if journalB key l safe = true then ⟨key, servedOf l l.length, ringT key (ringR l l.length)⟩ else pm0 from rfl)
 have HFA := hide (fun h : journalB key l safe = true => And.intro (journal_facts h) (And.intro (journal_run h) (And.intro (served_each h) (replay_fit ⟨key, l, safe⟩))))
 unfold fitJm at hf
 dsimp only at hf
 obtain ⟨W0, hW0⟩ : ∃ W, ((w.alloc (.cells #[.int .i64 key, .slice o l.length c, .int .i64 safe] 38)).alloc (.cells #[.int .i64 0, .slice none 0 0, .slice none 0 0] 41)) = W := ⟨_, rfl⟩
 have hb_W0 : Below w.heap.size w W0 := by rw [← hW0]; exact (((Below.refl _ _).alloc (Nat.le_refl _) _).alloc (by simp <;> omega) _)
 have HB := hide hb_W0
 clear hb_W0
 have zz : w.heap.size < W0.heap.size := by rw [← hW0]; simp <;> omega
 have z0 : W0.cell? ⟨w.heap.size, 0, none⟩ = some (.int .i64 key) := by rw [← hW0]; simp [go_sem]
 have z1 : W0.cell? ⟨w.heap.size, 1, none⟩ = some (.slice o l.length c) := by rw [← hW0]; simp [go_sem]
 have z2 : W0.cell? ⟨w.heap.size, 2, none⟩ = some (.int .i64 safe) := by rw [← hW0]; simp [go_sem]
 have zr : w.heap.size + 1 < W0.heap.size := by rw [← hW0]; simp
 have r0 : W0.cell? ⟨w.heap.size + 1, 0, none⟩ = some (.int .i64 0) := by rw [← hW0]; simp [go_sem]
 have r1 : W0.cell? ⟨w.heap.size + 1, 1, none⟩ = some (.slice none 0 0) := by rw [← hW0]; simp [go_sem]
 have r2 : W0.cell? ⟨w.heap.size + 1, 2, none⟩ = some (.slice none 0 0) := by rw [← hW0]; simp [go_sem]
 have fr0 : W0.frozen? ⟨w.heap.size + 1, 0, none⟩ = false := by rw [← hW0]; simp [go_sem]
 have fr1 : W0.frozen? ⟨w.heap.size + 1, 1, none⟩ = false := by rw [← hW0]; simp [go_sem]
 have fr2 : W0.frozen? ⟨w.heap.size + 1, 2, none⟩ = false := by rw [← hW0]; simp [go_sem]
 have HR0 := hide (show W0.heap[w.heap.size + 1]? = some (.cells #[.int .i64 0, .slice none 0 0, .slice none 0 0] 41 (0, 0)) by rw [← hW0]; exact box_new2 w _ _ _)
 have hzr := zr
 have HTU := hide (turns_any key safe o c l W0 ((r.kept HB.out (Nat.le_refl _)).le HB.out.size) hf)
 clear r
 cases hj : journalB key l safe with
 | false =>
  rw [hj] at HTU HPM
  clear HFA hj
  go_enter Tryz.func110, Tryz.ntmps110
  go_wp2_with fail
  refine (HTU.out).mono ?_
  rintro e v1 ⟨v9, rfl, _, hb⟩
  replace z0 := bC hb z0 zz
  replace z1 := bC hb z1 zz
  replace z2 := bC hb z2 zz
  replace zz := Nat.lt_of_lt_of_le zz hb.size
  replace r0 := bC hb r0 zr
  replace r1 := bC hb r1 zr
  replace r2 := bC hb r2 zr
  replace fr0 := bF hb fr0 zr
  replace fr1 := bF hb fr1 zr
  replace fr2 := bF hb fr2 zr
  replace zr := Nat.lt_of_lt_of_le zr hb.size
  replace HB := hide (HB.out.trans (hb.mono HB.out.size))
  clear hb
  go_wp2
  refine bodyPost_ret (v := .tuple #[plv 0 (.slice none 0 0) (.slice none 0 0), .bool false]) (by simp [results, Tryz.results110, go_sem, r0, r1, r2]) rfl ⟨_, rfl, ?_, setQ_below HB.out (Nat.le_succ _) _ _ _⟩
  rw [HPM.out, if_neg (by simp)]
  exact pm0_in _ _ _ (setQ_below HB.out (Nat.le_succ _) _ _ _).size
 | true =>
  obtain ⟨⟨hk, hl, h0, h1⟩, hrun, hse, hfi⟩ := HFA.out hj
  have HSE := hide hse
  have HK := hide hk
  rw [hj] at HTU HPM
  clear HFA hj hse hk hfi hrun
  go_enter Tryz.func110, Tryz.ntmps110
  go_wp2_with fail
  refine (HTU.out).mono ?_
  rintro e v1 ⟨v9, rfl, hown9, hb⟩
  obtain ⟨hs, ho9, hs9⟩ := hown9 (by simp)
  have HO9 := hide ho9
  have HS9 := hide hs9
  have hs1 := hb.size
  have HBLK := hide ((hb.block _ hzr).trans HR0.out)
  clear hown9 ho9 hs9
  replace z0 := bC hb z0 zz
  replace z1 := bC hb z1 zz
  replace z2 := bC hb z2 zz
  replace zz := Nat.lt_of_lt_of_le zz hb.size
  replace r0 := bC hb r0 zr
  replace r1 := bC hb r1 zr
  replace r2 := bC hb r2 zr
  replace fr0 := bF hb fr0 zr
  replace fr1 := bF hb fr1 zr
  replace fr2 := bF hb fr2 zr
  replace zr := Nat.lt_of_lt_of_le zr hb.size
  replace HB := hide (HB.out.trans (hb.mono HB.out.size))
  clear hb
  have HLN := hide HS9.out.len
  obtain ⟨g9, c9, e9⟩ := own_someH HO9.out (by rw [HLN.out]; omega)
  subst e9
  have hc9 : hs.length ≤ c9 := (own_roomT HO9.out).1
  have hgl : g9 < v1.heap.size := (HO9.out.lt g9 rfl).2
  have hgb : W0.heap.size ≤ g9 := (HO9.out.lt g9 rfl).1
  obtain ⟨N, hN⟩ : ∃ N, hs.length = N := ⟨_, rfl⟩
  have HN := hide (show N = l.length + 1 by rw [← hN]; exact HLN.out)
  have HNS := hide hN
  rw [hN] at hc9 ⊢
  have hN1 : 1 ≤ N := by have := HN.out; omega
  clear hN
  obtain ⟨a, ha⟩ : ∃ a, N - 3 = a := ⟨_, rfl⟩
  have haN : a < N := by omega
  have haN' : (a : Int) < (N : Int) := by omega
  have hac : ¬ (c9 = a) := by omega
  have hac' : (a : Int) ≤ (c9 : Int) := by omega
  have haN2 : (a : Int) ≤ (N : Int) := by omega
  have hmx : max (0 : Int) ((N : Int) - 3) = (a : Int) := by omega
  have HA := hide ha
  have hN101 : N ≤ 101 := by have := HN.out; omega
  clear ha
  go_wp2
  obtain ⟨W1, hW1⟩ : ∃ W, v1.alloc (.cells #[.int .i64 key, .slice none 0 0, .slice none 0 0] 213) = W := ⟨_, rfl⟩
  rw [hW1]
  have hx1 : W1.heap[v1.heap.size]? = some (.cells #[.int .i64 key, .slice none 0 0, .slice none 0 0] 213 (0, 0)) := by rw [← hW1]; exact World.alloc_heap_new v1 _
  have hb1 : Below v1.heap.size v1 W1 := by rw [← hW1]; exact (Below.refl _ _).alloc (Nat.le_refl _) _
  have HX1 := hide hx1
  have hs2 : v1.heap.size < W1.heap.size := (Array.getElem?_eq_some_iff.1 HX1.out).1
  have HB1 := hide hb1
  clear hx1 hb1 hW1 z0 z1 z2 r0 r1 r2 fr0 fr1 fr2
  obtain ⟨M, hM⟩ : ∃ M, N - a = M := ⟨_, rfl⟩
  rw [hM]
  have HM := hide hM
  have hM3 : M ≤ 3 := by have := HA.out; omega
  have hM1 : 1 ≤ M := by omega
  have haM : a + M = N := by omega
  clear hM hmx
  go_loopw [27] (fun iv wr => ∃ (j : Nat) (oR : Option Addr) (cR : Nat) (ob : Option Addr) (nb cb : Nat), j ≤ M ∧ iv = .int .i64 (j : Int) ∧ Hid (wr.heap[v1.heap.size]? = some (.cells #[.int .i64 key, .slice ob nb cb, .slice oR j cR] 213 (0, 0))) ∧ Hid (bvS hs a j = .slice ob nb cb) ∧ Hid (ownL layT 240 wr W1.heap.size (.slice oR j cR) ((lastS l a j).map (newF key))) ∧ Hid (Stp v1.heap.size (v1.heap.size + 1) W1 wr) ∧ W1.heap.size ≤ wr.heap.size)
   (fun iv _ => M - (intOf iv).toNat)
  case atStart => exact ⟨0, none, 0, none, 0, 0, Nat.zero_le _, rfl, HX1.out, rfl, World.ownsRow_nil _ _ _ _, Stp.refl _, Nat.le_refl _⟩
  case round =>
   obtain ⟨j, oR, cR, ob, nb, cb, hj, rfl, HBX, HBV, HOW, HST, hsr⟩ := hrel
   have HBV1 := hide (HB1.out.trans (HST.out.below (Nat.le_refl _) (Nat.le_of_lt hs2)))
   have p0 : wr.cell? ⟨v1.heap.size, 0, none⟩ = some (.int .i64 key) := bx_cell HBX.out 0 _ rfl
   have p1 : wr.cell? ⟨v1.heap.size, 1, none⟩ = some (.slice ob nb cb) := bx_cell HBX.out 1 _ rfl
   have p2 : wr.cell? ⟨v1.heap.size, 2, none⟩ = some (.slice oR j cR) := bx_cell HBX.out 2 _ rfl
   have hroom := own_roomT HOW.out
   rw [List.length_map, lastS_len] at hroom
   by_cases hlt : j < M
   ·skip
    have hlt' : (j : Int) < (M : Int) := by omega
    have haj : a + j < l.length + 1 := by have := HN.out; omega
    have hrow := HS9.out.row (a + j) haj
    obtain ⟨oK, cK, eK, rK⟩ := ownL.open (L := layK) hrow
    have hcap := own_capK (eK ▸ hrow)
    have hcl := bC HBV1.out (head_cell HO9.out (a + j) (by rw [HLN.out]; exact haj)) hgl
    rw [eK] at hcl
    have HEK := hide eK
    have hsv := HSE.out (a + j) haj
    have hw := with_any key ob nb cb oR cR oK cK (servedOf l (a + j)) wr ((lastS l a j).map (newF key)) (by rw [List.length_map, lastS_len]; omega) (ownL.rds (L := layT) HOW.out) (by rw [List.length_map, lastS_len]; exact hroom.1) hroom.2 ((rK.kept HBV1.out (Nat.le_refl _)).le (Nat.le_trans (Nat.le_of_lt hs2) hsr)) (by omega) HK.out hsv.1
    rw [lastS_step l a j key (by omega)] at hw
    simp only [List.length_map, lastS_len] at hw
    have HW := hide hw
    clear hw hsv rK hrow eK
    obtain ⟨nk, hnk⟩ : ∃ n, (servedOf l (a + j)).length = n := ⟨_, rfl⟩
    rw [hnk] at hcl HW HEK
    clear hnk
    go_wp2_with fail
    refine HW.out.mono ?_
    rintro e v2 ⟨o2, c2, rfl, ow2, hb2⟩
    have hsz2 := hb2.size
    have hx2 := (hb2.block _ (show v1.heap.size < wr.heap.size by omega)).trans HBX.out
    have a0 : v2.cell? ⟨v1.heap.size, 0, none⟩ = some (.int .i64 key) := bx_cell hx2 0 _ rfl
    have f0 := bx_frozen hx2 0
    have a1 : v2.cell? ⟨v1.heap.size, 1, none⟩ = some (.slice ob nb cb) := bx_cell hx2 1 _ rfl
    have f1 := bx_frozen hx2 1
    have a2 : v2.cell? ⟨v1.heap.size, 2, none⟩ = some (.slice oR j cR) := bx_cell hx2 2 _ rfl
    have f2 := bx_frozen hx2 2
    have HX9 : Hid ((setP v2 v1.heap.size (.int .i64 key) (.slice oK nk cK) (.slice o2 (j + 1) c2)).heap[v1.heap.size]? = some (.cells #[.int .i64 key, .slice oK nk cK, .slice o2 (j + 1) c2] 213 (0, 0))) := box_put (box_put (box_put hx2 0 _) 1 _) 2 _
    have HO9' := hide (own_low (own_low (own_low (own_mono ow2 hsr) hs2 0 (.int .i64 key)) hs2 1 (.slice oK nk cK)) hs2 2 (.slice o2 (j + 1) c2))
    have HS9' := hide ((HST.out.trans (Stp.of hb2)).trans (stp_setQ v2 v1.heap.size (.int .i64 key) (.slice oK nk cK) (.slice o2 (j + 1) c2)))
    have hs9 : W1.heap.size ≤ v2.heap.size := by omega
    clear ow2 hb2 hx2 p0 p1 p2
    go_wp2
    go_roundw
    case rel => exact ⟨j + 1, o2, c2, oK, nk, cK, by omega, by go_num, HX9.out, HEK.out, HO9'.out, HS9'.out, by simpa using hs9⟩
    case measure => simp [intOf]; omega
   ·skip
    have e : j = M := by omega
    subst e
    have hln : a + (j - 1) = l.length := by have := HN.out; omega
    have hrow := HS9.out.row l.length (by omega)
    obtain ⟨oK, cK, eK, rK⟩ := ownL.open (L := layK) hrow
    have hcap := own_capK (eK ▸ hrow)
    have hbv := bvS_last hs a j l.length hM1 hln
    rw [HBV.out, eK] at hbv
    injection hbv with e1 e2 e3
    subst e1 e2 e3
    have hsv := HSE.out l.length (by omega)
    have hp := plain_any key ob cb (servedOf l l.length) oR cR ((lastS l a j).map (newF key)) wr ((rK.kept HBV1.out (Nat.le_refl _)).le (Nat.le_trans (Nat.le_of_lt hs2) hsr)) hcap (by omega) (ownL.rds (L := layT) HOW.out) (by rw [List.length_map, lastS_len]; omega)
    rw [last_tabs (lastS_ok (fun q hq => (HSE.out q hq).1) j (by have := HN.out; omega))] at hp
    simp only [List.length_map, lastS_len] at hp
    have hring : lastS l a j = ringR l l.length := by rw [ringR_last, ← HN.out, HA.out, HM.out]
    rw [hring] at hp
    have HP := hide hp
    clear hp hring hrow eK rK hsv
    obtain ⟨sv, hsv⟩ : ∃ s, servedOf l l.length = s := ⟨_, rfl⟩
    rw [hsv] at HP HPM p1
    obtain ⟨rg, hrg⟩ : ∃ s, ringT key (ringR l l.length) = s := ⟨_, rfl⟩
    rw [hrg] at HP HPM
    clear hsv hrg
    go_wp2_with fail
    refine HP.out.mono ?_
    rintro e v3 ⟨v9, rfl, hin, hb3⟩
    have HIN := hide hin
    have hs4 := hb3.size
    clear hin
    obtain ⟨o9, c9', oR9, cR9, e9⟩ : ∃ (o9 : Option Addr) (c9 : Nat) (oR9 : Option Addr) (cR9 : Nat), v9 = plv key (.slice o9 sv.length c9) (.slice oR9 rg.length cR9) := HIN.out.opn
    subst e9
    have hrb := (hb3.block _ (show w.heap.size + 1 < wr.heap.size by omega)).trans ((HBV1.out.block _ (show w.heap.size + 1 < v1.heap.size by omega)).trans HBLK.out)
    have r0 : v3.cell? ⟨w.heap.size + 1, 0, none⟩ = some (.int .i64 0) := bx_cell hrb 0 _ rfl
    have fr0 := bx_frozen hrb 0
    have r1 : v3.cell? ⟨w.heap.size + 1, 1, none⟩ = some (.slice none 0 0) := bx_cell hrb 1 _ rfl
    have fr1 := bx_frozen hrb 1
    have r2 : v3.cell? ⟨w.heap.size + 1, 2, none⟩ = some (.slice none 0 0) := bx_cell hrb 2 _ rfl
    have fr2 := bx_frozen hrb 2
    have HBF := hide ((HB.out.trans (HBV1.out.mono HB.out.size)).trans (hb3.mono (by omega)))
    clear hb3 hrb
    go_wp2
    refine bodyPost_ret (v := .tuple #[plv key (.slice o9 sv.length c9') (.slice oR9 rg.length cR9), .bool true]) (by simp [results, Tryz.results110, go_sem, r0, r1, r2]) rfl ⟨_, rfl, ?_, setQ_below HBF.out (Nat.le_succ _) _ _ _⟩
    rw [HPM.out, if_pos trivial, setQ_size]
    exact InPm.mono (HIN.out.step (stp_setQ v3 (w.heap.size + 1) _ _ _) (.inl (by omega))) (by omega)

end Go.Proofs.YtajfkcpifnpkeaaGreat

