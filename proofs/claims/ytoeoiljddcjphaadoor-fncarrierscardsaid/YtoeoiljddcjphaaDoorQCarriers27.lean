/- The program's CarrierRead: where the reader gives up, what was read is taken back. -/
import Derived.Defers
import Derived.Recover
import Derived.Test.YtoeoiljddcjphaaDoorQCarriers26
import Derived.Test.YtoeoiljddcjphaaDoorQCarriers24
namespace Go.Proofs.YtoeoiljddcjphaaDoor
open Go.ChangeShapes Go.WideShapes Go.ChangeAt Go.RowKit Go.Joins
set_option linter.unusedVariables false
set_option linter.unusedSimpArgs false

abbrev crC (a b f s : Int) (v g : Value) (pl st : Int) : Array Value := #[.int .i64 a, .int .i64 b, .int .i64 f, .int .i64 s, v, g, .int .i64 pl, .int .i64 st]
theorem bx8c {W : World} {k : Nat} {c0 c1 c2 c3 c4 c5 c6 c7 : Value} {T : TypeId} (h : W.heap[k]? = some (.cells #[c0, c1, c2, c3, c4, c5, c6, c7] T (0, 0))) : W.cell? ⟨k, 0, none⟩ = some c0 ∧ W.cell? ⟨k, 1, none⟩ = some c1 ∧ W.cell? ⟨k, 2, none⟩ = some c2 ∧ W.cell? ⟨k, 3, none⟩ = some c3 ∧ W.cell? ⟨k, 4, none⟩ = some c4 ∧ W.cell? ⟨k, 5, none⟩ = some c5 ∧ W.cell? ⟨k, 6, none⟩ = some c6 ∧ W.cell? ⟨k, 7, none⟩ = some c7 ∧ (∀ j, W.frozen? ⟨k, j, none⟩ = false) :=
 ⟨block_cell h 0 _ rfl, block_cell h 1 _ rfl, block_cell h 2 _ rfl, block_cell h 3 _ rfl, block_cell h 4 _ rfl, block_cell h 5 _ rfl, block_cell h 6 _ rfl, block_cell h 7 _ rfl, fun j => block_frozen h j⟩

set_option maxRecDepth 100000 in
set_option maxHeartbeats 1000000 in
theorem catch_panicking (k : Nat) (c0 c1 c2 c3 c4 c5 c6 c7 b : Value) (W : World) (hb : W.heap[k]? = some (.cells #[c0, c1, c2, c3, c4, c5, c6, c7] 29 (0, 0))) (ho : W.heap[k + 1]? = some (.cells #[b] 4 (0, 0))) (u : TypeId) (pv : Value) (older : List PanicEntry) :
  CallsD Tryd.prog 67 #[.pointer (some ⟨k, 0, none⟩), .pointer (some ⟨k + 1, 0, none⟩)] (.panicking ({ v := .iface u pv, recovered := false } :: older)) W fun e u' w' =>
   e = .returned (.tuple #[]) ∧ u' = .panicking ({ v := .iface u pv, recovered := true } :: older) ∧ w'.heap[k]? = some (.cells (crC 0 0 0 0 (.slice none 0 0) (.slice none 0 0) 0 0) 29 (0, 0)) ∧ w'.heap[k + 1]? = some (.cells #[.bool false] 4 (0, 0)) ∧ Below k W w' := by
 obtain ⟨x0, x1, x2, x3, x4, x5, x6, x7, xf⟩ := bx8c hb
 have y0 : W.cell? ⟨k + 1, 0, none⟩ = some b := block_cell ho 0 _ rfl
 have yf : W.frozen? ⟨k + 1, 0, none⟩ = false := block_frozen ho 0
 refine callsD_of_wpS Tryd.func67 rfl fun c₀ cs hu => ?_
 apply wpS_seq
 apply wpS_region
 simp [wpOpsS, go_sem, recoverD, hu, Tryd.ntmps67, Exit.thenS]
 refine wpS_cond (t := true) (by simp [Act.eval, Array.replicate]) ?_
 simp only [if_true]
 apply wpS_region
 simp [wpOpsS, go_sem, x0, x1, x2, x3, x4, x5, x6, x7, xf, y0, yf, bodyPostS, results, Tryd.results67]
 have g0 := box_set W k 0 _ _ (.int .i64 0) hb
 have g1 := box_set _ k 1 _ _ (.int .i64 0) g0
 have g2 := box_set _ k 2 _ _ (.int .i64 0) g1
 have g3 := box_set _ k 3 _ _ (.int .i64 0) g2
 have g4 := box_set _ k 4 _ _ (.slice none 0 0) g3
 have g5 := box_set _ k 5 _ _ (.slice none 0 0) g4
 have g6 := box_set _ k 6 _ _ (.int .i64 0) g5
 have g7 := box_set _ k 7 _ _ (.int .i64 0) g6
 have hB := put_at (put_at (put_at (put_at (put_at (put_at (put_at (put_at (Below.refl k W) 0 (.int .i64 0)) 1 (.int .i64 0)) 2 (.int .i64 0)) 3 (.int .i64 0)) 4 (.slice none 0 0)) 5 (.slice none 0 0)) 6 (.int .i64 0)) 7 (.int .i64 0)
 have hy : ((((((((W.setCell ⟨k, 0, none⟩ (.int .i64 0)).setCell ⟨k, 1, none⟩ (.int .i64 0)).setCell ⟨k, 2, none⟩ (.int .i64 0)).setCell ⟨k, 3, none⟩ (.int .i64 0)).setCell ⟨k, 4, none⟩ (.slice none 0 0)).setCell ⟨k, 5, none⟩ (.slice none 0 0)).setCell ⟨k, 6, none⟩ (.int .i64 0)).setCell ⟨k, 7, none⟩ (.int .i64 0)).heap[k + 1]? = some (.cells #[b] 4 (0, 0)) := by
  repeat (refine (Below.heap_setCell _ ⟨k, _, none⟩ _ _ (by simp)).trans ?_)
  exact ho
 refine ⟨(Below.heap_setCell _ ⟨k + 1, 0, none⟩ _ k (by simp)).trans (by simpa using g7), ?_, hB.setCell (p := ⟨k + 1, 0, none⟩) (Nat.le_succ k) (.bool false)⟩
 simpa using box_set _ (k + 1) 0 _ _ (.bool false) hy
set_option maxRecDepth 100000 in
set_option maxHeartbeats 1000000 in
theorem catch_idle (k : Nat) (W : World) :
  CallsD Tryd.prog 67 #[.pointer (some ⟨k, 0, none⟩), .pointer (some ⟨k + 1, 0, none⟩)] .returning W fun e u' w' => e = .returned (.tuple #[]) ∧ u' = .returning ∧ w' = W := by
 refine callsD_of_wpS Tryd.func67 rfl fun c₀ cs hu => ?_
 apply wpS_seq
 apply wpS_region
 simp [wpOpsS, go_sem, recoverD, hu, Tryd.ntmps67, Exit.thenS]
 refine wpS_cond (t := false) (by simp [Act.eval, Array.replicate]) ?_
 simp only [Bool.false_eq_true, if_false]
 refine wpS_of_wp (wp_skip ?_)
 cases c₀
 simp_all [bodyPostS, results, Tryd.results67]

/-- What is read so far. -/
structure UC (w : World) (L : List Int) (vg : Value) (g : List (Int × Int)) (pl st : Int) (k : Nat) (W : World) : Prop where
 box : W.heap[w.heap.size]? = some (.cells (crC 0 0 0 0 (.slice none 0 0) vg pl st) 29 (0, 0))
 okb : W.heap[w.heap.size + 1]? = some (.cells #[.bool false] 4 (0, 0))
 rdr : RdrAt w.heap.size (w.heap.size + 2) W (L.drop k)
 seg : ownL layG 62 W w.heap.size vg g
 bel : Below w.heap.size w W
theorem UC.ne {w W : World} {L : List Int} {vg : Value} {g : List (Int × Int)} {pl st : Int} {k : Nat} (h : UC w L vg g pl st k W) : vg.ownBlock ≠ some (w.heap.size + 2) := by
 obtain ⟨o, cap, hb, _⟩ := h.rdr.at_
 exact fun e => box_no hb (by decide) h.seg e.symm
theorem UC.ne0 {w W : World} {L : List Int} {vg : Value} {g : List (Int × Int)} {pl st : Int} {k : Nat} (h : UC w L vg g pl st k W) : vg.ownBlock ≠ some w.heap.size := fun e => box_no h.box (by decide) h.seg e.symm
theorem UC.ne1 {w W : World} {L : List Int} {vg : Value} {g : List (Int × Int)} {pl st : Int} {k : Nat} (h : UC w L vg g pl st k W) : vg.ownBlock ≠ some (w.heap.size + 1) := fun e => box_no h.okb (by decide) h.seg e.symm
theorem UC.num {w W W' : World} {L : List Int} {vg : Value} {g : List (Int × Int)} {pl st : Int} {k k' : Nat} (h : UC w L vg g pl st k W) (hr : RdrAt w.heap.size (w.heap.size + 2) W' (L.drop k')) (hg : W.grownBy W' (some (w.heap.size + 2))) : UC w L vg g pl st k' W' :=
 ⟨box_gr h.box hg (by omega), box_gr h.okb hg (by omega), hr, World.ownsRow.kept h.seg hg (.inr h.ne), h.bel.grown hg h.bel.size (fun q e => by cases e; omega)⟩
theorem UC.set {w W : World} {L : List Int} {vg : Value} {g : List (Int × Int)} {pl st : Int} {k : Nat} (h : UC w L vg g pl st k W) (j : Nat) (u : Value) :
  (W.setCell ⟨w.heap.size, j, none⟩ u).heap[w.heap.size]? = some (.cells ((crC 0 0 0 0 (.slice none 0 0) vg pl st).setIfInBounds j u) 29 (0, 0)) ∧ (W.setCell ⟨w.heap.size, j, none⟩ u).heap[w.heap.size + 1]? = some (.cells #[.bool false] 4 (0, 0)) ∧ RdrAt w.heap.size (w.heap.size + 2) (W.setCell ⟨w.heap.size, j, none⟩ u) (L.drop k) ∧ ownL layG 62 (W.setCell ⟨w.heap.size, j, none⟩ u) w.heap.size vg g ∧ Below w.heap.size w (W.setCell ⟨w.heap.size, j, none⟩ u) :=
 ⟨box_set W _ j _ _ u h.box, (Below.heap_setCell W ⟨w.heap.size, j, none⟩ u _ (by simp)).trans h.okb, h.rdr.set (by omega) (Nat.le_refl _) u, own_set h.seg _ j u (fun b e h' => h.ne0 (by rw [e, h'])), put_at h.bel j u⟩
theorem UC.setPl {w W : World} {L : List Int} {vg : Value} {g : List (Int × Int)} {pl st : Int} {k : Nat} (h : UC w L vg g pl st k W) (x : Int) : UC w L vg g x st k (W.setCell ⟨w.heap.size, 6, none⟩ (.int .i64 x)) := by
 obtain ⟨h1, h2, h3, h4, h5⟩ := h.set 6 (.int .i64 x)
 exact ⟨by simpa using h1, h2, h3, h4, h5⟩
theorem UC.setSt {w W : World} {L : List Int} {vg : Value} {g : List (Int × Int)} {pl st : Int} {k : Nat} (h : UC w L vg g pl st k W) (x : Int) : UC w L vg g pl x k (W.setCell ⟨w.heap.size, 7, none⟩ (.int .i64 x)) := by
 obtain ⟨h1, h2, h3, h4, h5⟩ := h.set 7 (.int .i64 x)
 exact ⟨by simpa using h1, h2, h3, h4, h5⟩
/-- One seg more: the row has grown, and is laid into the box. -/
theorem UC.app {w W W2 : World} {L : List Int} {vg vg' : Value} {g g' : List (Int × Int)} {pl st : Int} {k : Nat} (h : UC w L vg g pl st k W) (ho : ownL layG 62 W2 w.heap.size vg' g') (hg : W.grownBy W2 vg.ownBlock) :
  UC w L vg' g' pl st k (W2.setCell ⟨w.heap.size, 5, none⟩ vg') := by
 have hb : Below w.heap.size W W2 := (Below.refl _ _).grown hg h.bel.size (fun q e => (h.seg.lt q e).1)
 have hx := (hg.block _ (box_lt h.box) (fun e => h.ne0 e.symm)).trans h.box
 have hy := (hg.block _ (box_lt h.okb) (fun e => h.ne1 e.symm)).trans h.okb
 have hn : some w.heap.size ≠ vg'.ownBlock := box_no hx (by decide) ho
 have hr : RdrAt w.heap.size (w.heap.size + 2) W2 (L.drop k) := by
  obtain ⟨⟨o, cap, h1, h2, h3, h6, h7⟩, h8, h4, h5⟩ := h.rdr
  refine ⟨⟨o, cap, (hg.block _ (box_lt h1) (fun e => h.ne e.symm)).trans h1, ?_, h3, h6, h7⟩, h8, h4, h5⟩
  rcases h2 with h2 | ⟨b, off, ho', hbl, hc⟩
  ·exact .inl h2
  ·exact .inr ⟨b, off, ho', Nat.lt_of_lt_of_le hbl hg.size, fun i hi => (hb.cell (p := ⟨b, off + i, none⟩) (h7 (fun e => by rw [e] at hi; exact absurd hi (Nat.not_lt_zero _)) b off ho')).trans (hc i hi)⟩
 exact ⟨by simpa using box_set W2 _ 5 _ _ vg' hx, (Below.heap_setCell W2 ⟨w.heap.size, 5, none⟩ vg' _ (by simp)).trans hy, hr.set (by omega) (Nat.le_refl _) vg', own_set ho _ 5 vg' (fun b e h' => hn (by rw [e, h'])), put_at (h.bel.trans (hb.mono (Nat.le_refl _))) 5 vg'⟩
theorem UC.alloc {w W : World} {L : List Int} {vg : Value} {g : List (Int × Int)} {pl st : Int} {k : Nat} (h : UC w L vg g pl st k W) (O : Obj) : UC w L vg g pl st k (W.alloc O) :=
 ⟨box_al h.box O, box_al h.okb O, h.rdr.kept ((Below.refl _ _).alloc (Nat.le_refl _) O), World.ownsRow.alloc h.seg O, h.bel.alloc h.bel.size O⟩
theorem UC.drew {w W : World} {L : List Int} {vg : Value} {g : List (Int × Int)} {pl st : Int} {k : Nat} (h : UC w L vg g pl st k W) : UC w L vg g pl st k W.drew :=
 ⟨h.box, h.okb, h.rdr.kept (Below.drew (Below.refl _ _)), h.seg, Below.drew h.bel⟩

theorem UC.on {w W W' : World} {L : List Int} {vg : Value} {g : List (Int × Int)} {pl st : Int} {k : Nat} (h : UC w L vg g pl st k W) (hb : Below W.heap.size W W') : UC w L vg g pl st k W' :=
 ⟨(hb.block _ (box_lt h.box)).trans h.box, (hb.block _ (box_lt h.okb)).trans h.okb, h.rdr.kept hb, own_kept h.seg hb, h.bel.trans (hb.mono h.bel.size)⟩
/-- The packet is laid into the box. -/
theorem UC.setP {w W : World} {L : List Int} {vg : Value} {g : List (Int × Int)} {pl st : Int} {k : Nat} (h : UC w L vg g pl st k W) {a b f s : Int} {v : Value} {l : List Int} {base : Nat} (hv : ownB W base v l) (hn : w.heap.size < base) :
  ∃ W', W' = ((((W.setCell ⟨w.heap.size, 0, none⟩ (.int .i64 a)).setCell ⟨w.heap.size, 1, none⟩ (.int .i64 b)).setCell ⟨w.heap.size, 2, none⟩ (.int .i64 f)).setCell ⟨w.heap.size, 3, none⟩ (.int .i64 s)).setCell ⟨w.heap.size, 4, none⟩ v ∧ W'.heap[w.heap.size]? = some (.cells (crC a b f s v vg pl st) 29 (0, 0)) ∧ W'.heap[w.heap.size + 1]? = some (.cells #[.bool false] 4 (0, 0)) ∧ ownB W' w.heap.size v l ∧ ownL layG 62 W' w.heap.size vg g ∧ Below w.heap.size w W' := by
 refine ⟨_, rfl, ?_, ?_, ?_, ?_, put_at (put_at (put_at (put_at (put_at h.bel 0 _) 1 _) 2 _) 3 _) 4 _⟩
 ·simpa using box_set _ w.heap.size 4 _ _ v (box_set _ w.heap.size 3 _ _ (.int .i64 s) (box_set _ w.heap.size 2 _ _ (.int .i64 f) (box_set _ w.heap.size 1 _ _ (.int .i64 b) (box_set W w.heap.size 0 _ _ (.int .i64 a) h.box))))
 ·repeat (refine (Below.heap_setCell _ ⟨w.heap.size, _, none⟩ _ _ (by simp)).trans ?_)
  exact h.okb
 ·refine own_mono (base := base) ?_ (by omega)
  repeat (refine ownsRow_setCell_below ?_ hn _)
  exact hv
 ·have hne : ∀ b, vg.ownBlock = some b → b ≠ w.heap.size := fun b e h' => h.ne0 (by rw [e, h'])
  exact own_set (own_set (own_set (own_set (own_set h.seg _ 0 _ hne) _ 1 _ hne) _ 2 _ hne) _ 3 _ hne) _ 4 _ hne

theorem UC.new (w : World) (o : Option Addr) (cap : Nat) (L : List Int) (hR : Rd w o L) (hB8 : isB L) (hlen : L.length ≤ 1048576) (hcap : L.length ≤ cap) (hcm : cap ≤ maxLen) :
  UC w L (.slice none 0 0) [] 0 0 0 (((w.alloc (.cells (crC 0 0 0 0 (.slice none 0 0) (.slice none 0 0) 0 0) 29)).alloc (.cells #[.bool false] 4)).alloc (.cells #[.slice o L.length cap] 94)) := by
 have hb1 : Below w.heap.size w (w.alloc (.cells (crC 0 0 0 0 (.slice none 0 0) (.slice none 0 0) 0 0) 29)) := (Below.refl _ _).alloc (Nat.le_refl _) _
 have hb2 := hb1.alloc hb1.size (.cells #[.bool false] 4)
 have hb3 := hb2.alloc hb2.size (.cells #[.slice o L.length cap] 94)
 refine ⟨?_, ?_, ⟨⟨o, cap, ?_, hR.kept hb3, hcap, hcm, fun hne b off e => ?_⟩, by omega, hB8, hlen⟩, World.ownsRow_nil _ _ _ _, hb3⟩
 ·exact box_al (box_al (World.alloc_heap_new w _) _) _
 ·have h := World.alloc_heap_new (w.alloc (.cells (crC 0 0 0 0 (.slice none 0 0) (.slice none 0 0) 0 0) 29)) (.cells #[.bool false] 4)
  rw [World.size_alloc] at h
  exact box_al h _
 ·have h := World.alloc_heap_new ((w.alloc (.cells (crC 0 0 0 0 (.slice none 0 0) (.slice none 0 0) 0 0) 29)).alloc (.cells #[.bool false] 4)) (.cells #[.slice o L.length cap] 94)
  rw [World.size_alloc, World.size_alloc] at h
  exact h
 ·subst e
  rcases hR with h | ⟨b', off', e, hbl, _⟩
  ·exact absurd h hne
  ·injection e with e; injection e with e1 _ _; omega

set_option maxRecDepth 100000 in
set_option maxHeartbeats 1000000 in
/-- Where the reader gives up: nothing is told. -/
theorem gave_up {w W : World} {L : List Int} {tmps : Array Value} {c0 c1 c2 c3 c4 c5 c6 c7 b : Value} (hb : W.heap[w.heap.size]? = some (.cells #[c0, c1, c2, c3, c4, c5, c6, c7] 29 (0, 0))) (ho : W.heap[w.heap.size + 1]? = some (.cells #[b] 4 (0, 0))) (hB : Below w.heap.size w W) (hno : crOk L = false)
  (ht2 : tmps[2]? = some (.pointer (some ⟨w.heap.size, 0, none⟩))) (ht3 : tmps[3]? = some (.pointer (some ⟨w.heap.size + 1, 0, none⟩))) :
  bodyPostD Tryd.prog Tryd.f36 (fun e w' => crPost L w e w') (Exit.panic gaveL) { tmps := tmps, defers := [{ target := .fn (.func 67) #[.pointer (some ⟨w.heap.size, 0, none⟩), .pointer (some ⟨w.heap.size + 1, 0, none⟩)], args := #[] }] } W := by
 refine leaves_cons (f := 67) (args := #[.pointer (some ⟨w.heap.size, 0, none⟩), .pointer (some ⟨w.heap.size + 1, 0, none⟩)]) (by simp) (by simp [go_sem]) ?_
 refine (catch_panicking w.heap.size c0 c1 c2 c3 c4 c5 c6 c7 b W hb ho _ _ []).mono ?_
 rintro e u' w'' ⟨rfl, rfl, hb2, ho2, hB2⟩
 obtain ⟨x0, x1, x2, x3, x4, x5, x6, x7, xf⟩ := bx8c hb2
 have y0 : w''.cell? ⟨w.heap.size + 1, 0, none⟩ = some (.bool false) := block_cell ho2 0 _ rfl
 simp [Leaves, settle, results, Tryd.results36, go_sem, ht2, ht3, x0, x1, x2, x3, x4, x5, x6, x7, y0]
 exact crPost_no hno (hB.trans hB2)

set_option maxRecDepth 100000 in
set_option maxHeartbeats 1000000 in
theorem told {w W : World} {L : List Int} {tmps : Array Value} {c0 c1 c2 c3 c4 c5 c6 c7 : Value} (hb : W.heap[w.heap.size]? = some (.cells #[c0, c1, c2, c3, c4, c5, c6, c7] 29 (0, 0))) (ho : W.heap[w.heap.size + 1]? = some (.cells #[.bool true] 4 (0, 0)))
  (ht2 : tmps[2]? = some (.pointer (some ⟨w.heap.size, 0, none⟩))) (ht3 : tmps[3]? = some (.pointer (some ⟨w.heap.size + 1, 0, none⟩))) (h : crPost L w (.returned (.tuple #[.agg #[c0, c1, c2, c3, c4, c5, c6, c7], .bool true])) W) :
  bodyPostD Tryd.prog Tryd.f36 (fun e w' => crPost L w e w') Exit.ret { tmps := tmps, defers := [{ target := .fn (.func 67) #[.pointer (some ⟨w.heap.size, 0, none⟩), .pointer (some ⟨w.heap.size + 1, 0, none⟩)], args := #[] }] } W := by
 refine leaves_cons (f := 67) (args := #[.pointer (some ⟨w.heap.size, 0, none⟩), .pointer (some ⟨w.heap.size + 1, 0, none⟩)]) (by simp) (by simp [go_sem]) ?_
 refine (catch_idle w.heap.size W).mono ?_
 rintro e u' w'' ⟨rfl, rfl, rfl⟩
 obtain ⟨x0, x1, x2, x3, x4, x5, x6, x7, xf⟩ := bx8c hb
 have y0 : w''.cell? ⟨w.heap.size + 1, 0, none⟩ = some (.bool true) := block_cell ho 0 _ rfl
 simp [Leaves, settle, results, Tryd.results36, go_sem, ht2, ht3, x0, x1, x2, x3, x4, x5, x6, x7, y0]
 exact h

set_option maxRecDepth 100000 in
set_option maxHeartbeats 4000000 in
theorem unpackC_any (o : Option Addr) (cap : Nat) (L : List Int) (w : World) (hR : Rd w o L) (hB8 : isB L) (hlen : L.length ≤ 1048576) (hcap : L.length ≤ cap) (hcm : cap ≤ maxLen) :
  Calls Tryd.prog 36 #[.slice o L.length cap] w fun e w' => crPost L w e w' := by
 have hmf : ∀ (fn : Fn) (first cap : Array Value) (w : World), (Instr.makeFunc fn first cap).run Tryd.prog w = .ok (.func fn first cap) w := fun _ _ _ _ => rfl
 have h0 := UC.new w o cap L hR hB8 hlen hcap hcm
 go_enter_defers Tryd.func36, Tryd.ntmps36
 go_wp2_with fail
 generalize hw0 : ((w.alloc (.cells (crC 0 0 0 0 (.slice none 0 0) (.slice none 0 0) 0 0) 29)).alloc (.cells #[.bool false] 4)).alloc (.cells #[.slice o L.length cap] 94) = w0 at *
 clear hw0
 have hsz : w0.heap.size = w0.heap.size := rfl
 obtain ⟨x0, hx0⟩ : ∃ x, L.getD 0 0 = x := ⟨_, rfl⟩
 have hq0 := hB8.get 0
 rw [hx0] at hq0
 obtain ⟨N, rfl⟩ := Int.eq_ofNat_of_zero_le hq0.1
 have HN := hide (show crN L = N by unfold crN; rw [hx0]; simp)
 have HE0 := hide (show numTo (L.drop 0) 1 = (N : Int) by rw [← hx0]; simp [numTo])
 obtain ⟨x1, hx1⟩ : ∃ x, L.getD 1 0 = x := ⟨_, rfl⟩
 have HE1 := hide (show numTo (L.drop 1) 1 = x1 by rw [← hx1]; simp [numTo, List.getD_eq_getElem?_getD])
 obtain ⟨st, hst⟩ : ∃ x, crSt L = x := ⟨_, rfl⟩
 have HE2 := hide (show numTo (L.drop 2) 3 = st by rw [← hst]; simp [numTo, crSt, List.getD_eq_getElem?_getD]; omega)
 have HX1 := hide hx1
 have HST := hide hst
 clear hx0 hx1 hst hcap hcm hR
 have Hlen := hide hlen
 have HB8 := hide hB8
 clear hlen hB8
 refine (number_any _ _ 1 _ _ h0.rdr (by omega) (by omega)).mono ?_
 rintro e w1 (⟨hlt, rfl, rfl⟩ | ⟨hle, rfl, hr1, hg1⟩)
 ·exact gave_up h0.box h0.okb h0.bel (crOk_short (fun h5 => by rw [List.length_drop] at hlt; omega)) rfl rfl
 rw [HE0.out]
 have h1 := h0.num (k' := 1) (by simpa [List.drop_drop] using hr1) hg1
 clear h0 hr1 hg1 hle
 go_wp2_with fail
 refine (number_any _ _ 1 _ _ h1.rdr (by omega) (by omega)).mono ?_
 rintro e w2 (⟨hlt, rfl, rfl⟩ | ⟨hle, rfl, hr2, hg2⟩)
 ·exact gave_up h1.box h1.okb h1.bel (crOk_short (fun h5 => by rw [List.length_drop] at hlt; omega)) rfl rfl
 rw [HE1.out]
 have h2 := h1.num (k' := 2) (by simpa [List.drop_drop] using hr2) hg2
 clear h1 hr2 hg2 hle
 have H2 := hide h2
 have c6 : w2.cell? ⟨w.heap.size, 6, none⟩ = some (.int .i64 0) := block_cell h2.box 6 _ rfl
 have f6 : w2.frozen? ⟨w.heap.size, 6, none⟩ = false := block_frozen h2.box 6
 clear h2
 go_wp2_with fail
 have h3 := H2.out.setPl x1
 clear c6 f6 H2
 generalize w2.setCell ⟨w.heap.size, 6, none⟩ (.int .i64 x1) = w3 at *
 refine (number_any _ _ 3 _ _ h3.rdr (by omega) (by omega)).mono ?_
 rintro e w4 (⟨hlt, rfl, rfl⟩ | ⟨hle, rfl, hr4, hg4⟩)
 ·exact gave_up h3.box h3.okb h3.bel (crOk_short (fun h5 => by rw [List.length_drop] at hlt; omega)) rfl rfl
 rw [HE2.out]
 have h4 := h3.num (k' := 5) (by simpa [List.drop_drop] using hr4) hg4
 have HL5 : Hid (5 ≤ L.length) := by unfold Hid; rw [List.length_drop] at hle; omega
 clear h3 hr4 hg4 hle
 have H4 := hide h4
 have c7 : w4.cell? ⟨w.heap.size, 7, none⟩ = some (.int .i64 0) := block_cell h4.box 7 _ rfl
 have f7 : w4.frozen? ⟨w.heap.size, 7, none⟩ = false := block_frozen h4.box 7
 clear h4
 go_wp2
 have h5 := hide (H4.out.setSt st)
 clear c7 f7 H4
 generalize w4.setCell ⟨w.heap.size, 7, none⟩ (.int .i64 st) = w5 at *
 go_loopw [15] (fun iv wr => ∃ (i : Nat) (vg : Value), i ≤ N ∧ iv = .int .i64 (i : Int) ∧ Hid (UC w L vg (crG L i) x1 st (5 + i) wr))
  (fun iv _ => N - (intOf iv).toNat)
 case atStart => exact ⟨0, _, Nat.zero_le _, rfl, h5.out⟩
 case round =>
  obtain ⟨i, vg, hi, rfl, HU⟩ := hrel
  by_cases hlt : i < N
  ·have z1 : (i : Int) < (N : Int) := by omega
   obtain ⟨og, cg, hge, _⟩ := (ownG_lay.2 HU.out.seg).open
   rw [crG_len] at hge
   subst hge
   have c5 : wr.cell? ⟨w.heap.size, 5, none⟩ = some (.slice og i cg) := block_cell HU.out.box 5 _ rfl
   by_cases hs : (L.drop (5 + i)).length < 1
   ·have HS : Hid (∀ W, UC w L (.slice og i cg) (crG L i) x1 st (5 + i) W → Calls Tryd.prog 69 #[.pointer (some ⟨w.heap.size + 1 + 1, 0, none⟩)] W fun e w' => e = .panicked gaveL ∧ W.grownBy w' (some (w.heap.size + 2))) := fun W hW => by
     obtain ⟨o', cap', hb', _⟩ := hW.rdr.at_
     refine (seg_any _ _ _ W hW.rdr (box_lt hb')).mono ?_
     rintro e w' (⟨_, rfl, hg⟩ | ⟨hle, _⟩)
     ·exact ⟨rfl, hg⟩
     ·exact absurd hs (by omega)
    have HNO := hide (crOk_few (b := L) (by rw [HN.out]; rw [List.length_drop] at hs; omega))
    clear hs
    go_wp2
    refine wp_region_any (by kernel_rfl) ?_
    try (change wpAny _ _ _ _ _ _ _ (World.drew _))
    refine wpAny_ready (rs := [0, 2]) (by kernel_rfl) (by simp) ?_
    refine AllReady.cons rfl (fun K hK => ?_) ?_
    ·go_simp
     refine hK _ _ ?_
     clear hK K
     refine wpAny_ready (rs := [1, 2]) (by kernel_rfl) (by simp) ?_
     refine AllReady.cons rfl (fun K hK => ?_) ?_
     ·go_simp
      refine hK _ _ ?_
      clear hK K
      refine wpAny_ready (rs := [2]) (by kernel_rfl) (by simp) ?_
      refine AllReady.cons rfl (fun K hK => ?_) AllReady.nil
      go_simp
      go_at_call 69
      refine (HS.out _ HU.out.drew).mono ?_
      rintro e w7 ⟨rfl, hg7⟩
      exact gave_up (box_gr (W := wr.drew) HU.out.box hg7 (by omega)) (box_gr (W := wr.drew) HU.out.okb hg7 (by omega)) (HU.out.drew.bel.grown hg7 HU.out.drew.bel.size (fun q e => by cases e; omega)) HNO.out rfl rfl
     ·refine AllReady.cons rfl (fun K hK => ?_) AllReady.nil
      go_simp
      go_at_call 69
      refine (HS.out _ HU.out.drew).mono ?_
      rintro e w7 ⟨rfl, hg7⟩
      exact gave_up (box_gr (W := wr.drew) HU.out.box hg7 (by omega)) (box_gr (W := wr.drew) HU.out.okb hg7 (by omega)) (HU.out.drew.bel.grown hg7 HU.out.drew.bel.size (fun q e => by cases e; omega)) HNO.out rfl rfl
    ·refine AllReady.cons rfl (fun K hK => ?_) AllReady.nil
     go_simp
     go_at_call 69
     refine (HS.out _ HU.out.drew).mono ?_
     rintro e w7 ⟨rfl, hg7⟩
     exact gave_up (box_gr (W := wr.drew) HU.out.box hg7 (by omega)) (box_gr (W := wr.drew) HU.out.okb hg7 (by omega)) (HU.out.drew.bel.grown hg7 HU.out.drew.bel.size (fun q e => by cases e; omega)) HNO.out rfl rfl
   ·obtain ⟨y, hy⟩ : ∃ y, L.getD (5 + i) 0 = y := ⟨_, rfl⟩
    have HS : Hid (∀ W, UC w L (.slice og i cg) (crG L i) x1 st (5 + i) W → Calls Tryd.prog 69 #[.pointer (some ⟨w.heap.size + 1 + 1, 0, none⟩)] W fun e w' => e = .returned (seg (y % 16) (y / 16)) ∧ UC w L (.slice og i cg) (crG L i) x1 st (5 + (i + 1)) w') := fun W hW => by
     obtain ⟨o', cap', hb', _⟩ := hW.rdr.at_
     refine (seg_any _ _ _ W hW.rdr (box_lt hb')).mono ?_
     rintro e w' (⟨hl, _⟩ | ⟨hle, rfl, hr, hg⟩)
     ·exact absurd hl hs
     ·have e0 : (L.drop (5 + i)).getD 0 0 = y := by rw [← hy]; simp [List.getD_eq_getElem?_getD]
      rw [e0]
      exact ⟨rfl, hW.num (by simpa [List.drop_drop, Nat.add_assoc] using hr) hg⟩
    have HY := hide (show crG L (i + 1) = crG L i ++ [(y % 16, y / 16)] by rw [crG_succ, hy]; rfl)
    clear hs hy
    go_wp2
    refine wp_region_noPanic ?_
    go_region_law (first | (go_simp; go_at_call 69; refine (HS.out _ HU.out.drew).mono ?_; rintro e w7 ⟨rfl, h7⟩; have H7 := hide h7; clear h7; have c7 : w7.cell? ⟨w.heap.size, 5, none⟩ = some (.slice og i cg) := block_cell H7.out.box 5 _ rfl; have c7a : ∀ O, (w7.alloc O).cell? ⟨w.heap.size, 5, none⟩ = some (.slice og i cg) := (fun O => block_cell (box_al H7.out.box O) 5 _ rfl); dsimp only) | (refine step_append_lay appG rfl (.tmp 18) (.tmp 20) rfl w.heap.size (.slice og i cg) (crG L i) rfl (H7.out.alloc (.cells #[.int .i64 (y % 16), .int .i64 (y / 16)] 62)).seg (some ⟨w7.heap.size, 0, none⟩) 1 _ [(y % 16, y / 16)] 1 rfl rfl (fun h => by cases h) (rd_seg1 w7 (y % 16) (y / 16)) (by rw [crG_len]; simp; omega) (H7.out.alloc (.cells #[.int .i64 (y % 16), .int .i64 (y / 16)] 62)).bel.size ?_; intro v8 w8 hv8 hg8 _; rw [← HY.out] at hv8; obtain ⟨o8, k8, e8, _⟩ := (ownG_lay.2 hv8).open; rw [crG_len] at e8; subst e8; have R := hide ((H7.out.alloc (.cells #[.int .i64 (y % 16), .int .i64 (y / 16)] 62)).app hv8 hg8); have b8 := (hg8.block _ (box_lt (H7.out.alloc (.cells #[.int .i64 (y % 16), .int .i64 (y / 16)] 62)).box) (fun e => (H7.out.alloc (.cells #[.int .i64 (y % 16), .int .i64 (y / 16)] 62)).ne0 e.symm)).trans (H7.out.alloc (.cells #[.int .i64 (y % 16), .int .i64 (y / 16)] 62)).box; have c8 : w8.cell? ⟨w.heap.size, 5, none⟩ = some (.slice og i cg) := block_cell b8 5 _ rfl; have f8 : w8.frozen? ⟨w.heap.size, 5, none⟩ = false := block_frozen b8 5; clear b8 hv8 hg8))
    all_goals (
     refine NoPanic.normal ?_
     clear c7 c7a c5
     go_wp2
     go_roundw
     case rel => exact ⟨i + 1, _, by omega, by go_num, R.out⟩
     case measure => simp [intOf]; omega)
  ·have e : i = N := by omega
   subst e
   have z1 : ¬ ((i : Int) < (i : Int)) := by omega
   obtain ⟨og, cg, hge, _⟩ := (ownG_lay.2 HU.out.seg).open
   rw [crG_len] at hge
   subst hge
   obtain ⟨o', cap', hb', _⟩ := HU.out.rdr.at_
   have HPK := hide (packet_any _ _ _ wr HU.out.rdr (box_lt hb'))
   have HCP := hide (show crP L = L.drop (5 + i) by unfold crP; rw [HN.out])
   rw [← HCP.out] at HPK
   clear hb'
   go_wp2_with fail
   refine HPK.out.mono ?_
   rintro e w6 (⟨hno, rfl, hb6⟩ | ⟨hok, v6, rfl, hv6, hb6⟩)
   ·exact gave_up ((hb6.block _ (box_lt HU.out.box)).trans HU.out.box) ((hb6.block _ (box_lt HU.out.okb)).trans HU.out.okb) (HU.out.bel.trans (hb6.mono HU.out.bel.size)) (crOk_pkt hno) rfl rfl
   have h6 := HU.out.on hb6
   have hpos : w.heap.size < wr.heap.size := box_lt HU.out.box
   have HOK := hide (show crOk L = (crM L).ok by unfold crOk; rw [show decide (5 ≤ L.length) = true by simpa using HL5.out, show decide (5 + crN L ≤ L.length) = true by (have := HU.out.rdr; have hq := hok; simp [okR] at hq; have h9 := hq.1.1; rw [HCP.out, List.length_drop] at h9; rw [HN.out]; simp; omega), hok]; simp)
   have HM := hide (show crM L = ⟨rdN (crP L) (pairLS (crP L) 0), rdN (crP L) (pairLS (crP L) 2), rdN (crP L) ((crP L).getD 6 0), rdN (crP L) (pairLS (crP L) 4), rdL (crP L), crG L i, x1, st⟩ by unfold crM; rw [HN.out, HX1.out, HST.out])
   obtain ⟨pa, hpa⟩ : ∃ x, rdN (crP L) (pairLS (crP L) 0) = x := ⟨_, rfl⟩
   obtain ⟨pb, hpb⟩ : ∃ x, rdN (crP L) (pairLS (crP L) 2) = x := ⟨_, rfl⟩
   obtain ⟨pf, hpf⟩ : ∃ x, rdN (crP L) ((crP L).getD 6 0) = x := ⟨_, rfl⟩
   obtain ⟨ps, hps⟩ : ∃ x, rdN (crP L) (pairLS (crP L) 4) = x := ⟨_, rfl⟩
   obtain ⟨B, hBd⟩ : ∃ x, rdL (crP L) = x := ⟨_, rfl⟩
   have hBl : Hid (B.length ≤ 1048576) := by
    have h1 : (rdL (crP L)).length ≤ (crP L).length := by unfold rdL; split <;> simp
    have h2 : (crP L).length ≤ L.length := by unfold crP; simp
    have := Hlen.out
    unfold Hid; rw [← hBd]; omega
   rw [hpa, hpb, hpf, hps, hBd] at HM
   rw [hBd] at hv6
   rw [hpa, hpb, hpf, hps]
   obtain ⟨ov, cv, ev, _⟩ := hv6.open
   subst ev
   obtain ⟨n6, hn6⟩ : ∃ n, B.length = n := ⟨_, rfl⟩
   have HN6 := hide hn6
   rw [hn6] at hv6 ⊢
   obtain ⟨y0, y1, y2, y3, y4, _, _, _, yf⟩ := bx8c h6.box
   obtain ⟨w7, hw7, hb7, ho7, hv7, hg7, hB7⟩ := h6.setP (a := pa) (b := pb) (f := pf) (s := ps) hv6 hpos
   have HW7 := hide hw7
   have H7 := hide (And.intro hb7 (And.intro ho7 (And.intro hv7 (And.intro hg7 hB7))))
   clear hw7 hb7 ho7 hv7 hg7 hB7 h6 hv6 hb6 hpa hpb hpf hps hBd hn6 hok HPK
   have f0 := yf 0
   have f1 := yf 1
   have f2 := yf 2
   have f3 := yf 3
   have f4 := yf 4
   have S7 := HW7.out
   obtain ⟨z0, z1, z2, z3, z4, z5, z6, z7, zf⟩ := bx8c H7.out.1
   rw [S7] at z0 z1 z2 z3 z4 z5 z6 z7 zf
   have HC := hide (implCarrierOk_any pa pb pf ps ov og n6 cv cg (crG L i) x1 st w7 (by have := hBl.out; have := HN6.out; unfold maxLen; omega) (by rw [crG_len]; unfold maxLen; omega) (ownG.rdo (ownG_lay.2 H7.out.2.2.2.1)))
   rw [crG_len, S7] at HC
   have HKK : Hid ((crM L).ok = carrierOkB pa pb pf ps n6 (crG L i) x1 st) := by unfold Hid; rw [HM.out, ← HN6.out]; rfl
   go_wp2_with fail
   refine HC.out.mono ?_
   rintro e w8 ⟨rfl, hb8⟩
   rw [← S7] at hb8
   have b8 := (hb8.block _ (box_lt H7.out.1)).trans H7.out.1
   have o8 := (hb8.block _ (box_lt H7.out.2.1)).trans H7.out.2.1
   have H8 := hide (And.intro b8 (And.intro o8 (And.intro (own_kept H7.out.2.2.1 hb8) (And.intro (own_kept H7.out.2.2.2.1 hb8) (H7.out.2.2.2.2.trans (hb8.mono H7.out.2.2.2.2.size))))))
   clear hb8 b8 o8 HC z0 z1 z2 z3 z4 z5 z6 z7 zf y0 y1 y2 y3 y4 yf f0 f1 f2 f3 f4 S7
   obtain ⟨q, hq⟩ : ∃ q, carrierOkB pa pb pf ps n6 (crG L i) x1 st = q := ⟨_, rfl⟩
   have HQ := hide hq
   rw [hq]
   clear hq
   cases q with
   | false =>
    go_wp2_with fail
    refine (want_no (w.heap.size + 1 + 1) w8).mono ?_
    rintro e w9 ⟨rfl, rfl⟩
    exact gave_up H8.out.1 H8.out.2.1 H8.out.2.2.2.2 (by rw [HOK.out, HKK.out, HQ.out]) rfl rfl
   | true =>
    obtain ⟨y0, y1, y2, y3, y4, y5, y6, y7, yf⟩ := bx8c H8.out.1
    have f0 := yf 0
    have f1 := yf 1
    have f2 := yf 2
    have f3 := yf 3
    have f4 := yf 4
    have f5 := yf 5
    have f6 := yf 6
    have f7 := yf 7
    have p0 : w8.cell? ⟨w.heap.size + 1, 0, none⟩ = some (.bool false) := block_cell H8.out.2.1 0 _ rfl
    have pf0 : w8.frozen? ⟨w.heap.size + 1, 0, none⟩ = false := block_frozen H8.out.2.1 0
    clear yf
    go_wp2_with fail
    refine (want_yes (w.heap.size + 1 + 1) w8).mono ?_
    rintro e w9 ⟨rfl, rfl⟩
    go_wp2
    obtain ⟨hb9, ho9, hv9, hg9, hB9⟩ := H8.out
    have g0 := box_set _ w.heap.size 0 _ _ (.int .i64 pa) hb9
    have g1 := box_set _ w.heap.size 1 _ _ (.int .i64 pb) g0
    have g2 := box_set _ w.heap.size 2 _ _ (.int .i64 pf) g1
    have g3 := box_set _ w.heap.size 3 _ _ (.int .i64 ps) g2
    have g4 := box_set _ w.heap.size 4 _ _ (.slice ov n6 cv) g3
    have g5 := box_set _ w.heap.size 5 _ _ (.slice og i cg) g4
    have g6 := box_set _ w.heap.size 6 _ _ (.int .i64 x1) g5
    have g7 := box_set _ w.heap.size 7 _ _ (.int .i64 st) g6
    have hnv : ∀ b, (Value.slice ov n6 cv).ownBlock = some b → b ≠ w.heap.size := fun b e h' => box_no hb9 (by decide) hv9 (by rw [e, h'])
    have hng : ∀ b, (Value.slice og i cg).ownBlock = some b → b ≠ w.heap.size := fun b e h' => box_no hb9 (by decide) hg9 (by rw [e, h'])
    have hnv1 : ∀ b, (Value.slice ov n6 cv).ownBlock = some b → b ≠ w.heap.size + 1 := fun b e h' => box_no ho9 (by decide) hv9 (by rw [e, h'])
    have hng1 : ∀ b, (Value.slice og i cg).ownBlock = some b → b ≠ w.heap.size + 1 := fun b e h' => box_no ho9 (by decide) hg9 (by rw [e, h'])
    have HG7 := hide g7
    clear g0 g1 g2 g3 g4 g5 g6 g7
    refine told (c0 := .int .i64 pa) (c1 := .int .i64 pb) (c2 := .int .i64 pf) (c3 := .int .i64 ps) (c4 := .slice ov n6 cv) (c5 := .slice og i cg) (c6 := .int .i64 x1) (c7 := .int .i64 st) ((Below.heap_setCell _ ⟨w.heap.size + 1, 0, none⟩ _ _ (by simp)).trans (by simpa using HG7.out)) ?_ rfl rfl ?_
    ·refine (box_set _ (w.heap.size + 1) 0 _ _ (.bool true) (show _ = some (Obj.cells #[.bool false] 4 (0, 0)) from ?_)).trans rfl
     repeat (refine (Below.heap_setCell _ ⟨w.heap.size, _, none⟩ _ _ (by simp)).trans ?_)
     exact ho9
    ·have hok9 : crOk L = true := by rw [HOK.out, HKK.out, HQ.out]
     refine ⟨_, by rw [hok9], ?_, ?_⟩
     ·rw [show crR L = crM L by unfold crR; rw [hok9]; rfl, HM.out]
      refine ⟨.slice ov n6 cv, .slice og i cg, rfl, ?_, ownG_lay.2 ?_⟩
      ·refine own_set ?_ _ _ _ hnv1
       repeat (refine own_set ?_ _ _ _ hnv)
       exact hv9
      ·refine own_set ?_ _ _ _ hng1
       repeat (refine own_set ?_ _ _ _ hng)
       exact hg9
     ·refine Below.setCell (p := ⟨w.heap.size + 1, 0, none⟩) ?_ (Nat.le_succ _) _
      exact put_at (put_at (put_at (put_at (put_at (put_at (put_at (put_at hB9 0 _) 1 _) 2 _) 3 _) 4 _) 5 _) 6 _) 7 _

set_option maxHeartbeats 1000000 in
theorem implCRead_any (o : Option Addr) (cap : Nat) (L : List Int) (w : World) (hR : Rd w o L) (hB8 : isB L) (hlen : L.length ≤ 1048576) (hcap : L.length ≤ cap) (hcm : cap ≤ maxLen) :
  Calls Tryd.prog 10 #[.slice o L.length cap] w fun e w' => crPost L w e w' := by
 have hb0 : Below w.heap.size w (w.alloc (.cells (crC 0 0 0 0 (.slice none 0 0) (.slice none 0 0) 0 0) 29)) := (Below.refl _ _).alloc (Nat.le_refl _) _
 have hx0 := World.alloc_heap_new w (.cells (crC 0 0 0 0 (.slice none 0 0) (.slice none 0 0) 0 0) 29)
 have hs0 : w.heap.size < (w.alloc (.cells (crC 0 0 0 0 (.slice none 0 0) (.slice none 0 0) 0 0) 29)).heap.size := by simp
 have HU := hide (unpackC_any o cap L _ (hR.kept hb0) hB8 hlen hcap hcm)
 go_enter Tryd.func10, Tryd.ntmps10
 go_wp2_with fail
 refine HU.out.mono ?_
 rintro e w1 ⟨v, rfl, ⟨vl, vg, rfl, hvl, hvg⟩, hb1⟩
 have hx1 := (hb1.block _ hs0).trans hx0
 have HB : Hid (Below w.heap.size w w1) := hb0.trans (hb1.mono (Nat.le_of_lt hs0))
 obtain ⟨ol, cl, el, _⟩ := hvl.open
 obtain ⟨og, cg, eg, _⟩ := hvg.open
 subst el eg
 obtain ⟨x0, x1, x2, x3, x4, x5, x6, x7, xf⟩ := bx8c hx1
 have f0 := xf 0
 have f1 := xf 1
 have f2 := xf 2
 have f3 := xf 3
 have f4 := xf 4
 have f5 := xf 5
 have f6 := xf 6
 have f7 := xf 7
 have HO := hide (And.intro hvl hvg)
 clear hx1 hb1 hvl hvg xf hb0 hx0 HU
 obtain ⟨q, hq⟩ : ∃ q, crOk L = q := ⟨_, rfl⟩
 obtain ⟨m, hm⟩ : ∃ m, crR L = m := ⟨_, rfl⟩
 have HE := hide (And.intro hq hm)
 rw [hm] at HO
 rw [hq, hm]
 clear hq hm
 go_wp2
 have hs1 : w.heap.size < (w.alloc (.cells (crC 0 0 0 0 (.slice none 0 0) (.slice none 0 0) 0 0) 29)).heap.size := by simp
 refine bodyPost_ret (v := .tuple #[crr m.a m.b m.f m.s (.slice ol m.l.length cl) (.slice og m.g.length cg) m.pl m.st, .bool q]) (by simp [results, Tryd.results10, go_sem, x0, x1, x2, x3, x4, x5, x6, x7]) rfl ⟨_, by rw [HE.out.1], ?_, ?_⟩
 rw [HE.out.2]
 refine ⟨_, _, rfl, ?_, ?_⟩
 ·refine own_mono (base := w.heap.size + 1) ?_ (Nat.le_succ _)
  repeat (refine ownsRow_setCell_below ?_ (Nat.lt_succ_self _) _)
  have h := HO.out.1
  simp at h
  exact h
 ·refine own_mono (base := w.heap.size + 1) ?_ (Nat.le_succ _)
  repeat (refine ownsRow_setCell_below ?_ (Nat.lt_succ_self _) _)
  have h := HO.out.2
  simp at h
  exact h
 ·exact put_at (put_at (put_at (put_at (put_at (put_at (put_at (put_at HB.out 0 _) 1 _) 2 _) 3 _) 4 _) 5 _) 6 _) 7 _

end Go.Proofs.YtoeoiljddcjphaaDoor

