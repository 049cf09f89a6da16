/- Tables, as a shape: how they read, what owns its memory, and the laws' own helpers over them. -/
import Derived.Test.YtiijecnhbioehaaLMarkS
namespace Go.Proofs.Ytiijecnhbioehaa
open Go.ChangeShapes Go.WideShapes Go.ChangeAt Go.RowKit Go.Joins
set_option linter.unusedVariables false
set_option linter.unusedSimpArgs false

abbrev tab (v : Value) : Value := .agg #[v]
theorem block_cell1 {W : World} {B : Nat} {c : Array Value} {t : TypeId} (h : W.heap[B]? = some (.cells c t (0, 0))) (j : Nat) (u : Value) (hj : c[j]? = some u) : W.cell? ⟨B, j, none⟩ = some u := by
  simp [World.cell?, h, hj]
def RdT (C : Nat) (w : World) (v : Value) (l : List Sl) : Prop := ∃ vl, v = tab vl ∧ RdV layS C w vl l
def InT (lo hi : Nat) (w : World) (v : Value) (l : List Sl) : Prop := ∃ vl, v = tab vl ∧ InS lo hi w vl l
theorem RdT.kept {C D : Nat} {w w' : World} {v : Value} {m : List Sl} (h : RdT C w v m) (hb : Below D w w') (hc : C ≤ D) : RdT C w' v m := by
  obtain ⟨vl, e, h1⟩ := h
  exact ⟨vl, e, h1.kept hb hc⟩
theorem RdT.le {C D : Nat} {w : World} {v : Value} {m : List Sl} (h : RdT C w v m) (hc : C ≤ D) : RdT D w v m := by
  obtain ⟨vl, e, h1⟩ := h
  exact ⟨vl, e, h1.le hc⟩
theorem InT.rd {lo hi : Nat} {w : World} {v : Value} {m : List Sl} (h : InT lo hi w v m) : RdT hi w v m := by
  obtain ⟨vl, e, h1⟩ := h
  exact ⟨vl, e, InL.rd (L := layS) h1⟩
theorem InT.step {a b lo hi : Nat} {w w' : World} {v : Value} {m : List Sl} (h : InT a b w v m) (s : Stp lo hi w w') (hd : hi ≤ a ∨ b ≤ lo) : InT a b w' v m := by
  obtain ⟨vl, e, h1⟩ := h
  exact ⟨vl, e, InRow.step h1 s hd⟩
theorem InT.mono {a b a' b' : Nat} {w : World} {v : Value} {m : List Sl} (h : InT a b w v m) (h1 : a' ≤ a) (h2 : b ≤ b') : InT a' b' w v m := by
  obtain ⟨vl, e, h3⟩ := h
  exact ⟨vl, e, InRow.mono h3 h1 h2⟩
def capT (v : Value) : Prop := ∃ vl, v = tab vl ∧ capV vl
theorem InT.cap {lo hi : Nat} {w : World} {v : Value} {m : List Sl} (h : InT lo hi w v m) : capT v := by
  obtain ⟨vl, e, h1⟩ := h
  exact ⟨vl, e, InRow.cap h1⟩
theorem capT.one {o : Option Addr} {n c : Nat} (h : capT (tab (.slice o n c))) : o = none → c = 0 := by
  obtain ⟨vl, e, h1⟩ := h
  injection e with e
  simp at e
  exact fun h => h1 n c (by rw [← e, h])
theorem InT.row {lo hi : Nat} {w : World} {v : Value} {l : List Sl} (h : InT lo hi w (tab v) l) : InS lo hi w v l := by
  obtain ⟨vl, e, h1⟩ := h
  injection e with e
  simp at e
  subst e
  exact h1

theorem array1 {α : Type} {cs : Array α} (h : cs.size = 1) : ∃ c0, cs = #[c0] := by
  obtain ⟨l⟩ := cs
  match l, h with
  | [c0], _ => exact ⟨c0, rfl⟩
theorem cellsLawsT : Try.prog.cellsOf 59 = 1 := by kernel_rfl
theorem cellsLawsSlotS : Try.prog.cellsOf 57 = 1 := by kernel_rfl
theorem open_table_cells {H : Type} {enc : TypeId × Value → H} {W : World} {fuel : Nat} {cs : List Value} {x : DataW H × List MemPlace} (hl : cs.length = 1) (h : DataW.trod enc Try.prog W 0 (fun _ => true) true fuel 59 cs = some x) :
    ∃ (o : Option Addr) (cap : Nat) (l : List Sl), cs = [.slice o l.length cap] ∧ l.length ≤ maxLen ∧ RdS W.heap.size W o l := by
  match cs, hl with
  | [c0], _ =>
    obtain ⟨y0, n, _, _, h0⟩ := trod_struct1 Try.underlying59 h
    simp [cellsLawsSlotS] at h0
    exact open_slots_cells h0
set_option maxRecDepth 100000 in
theorem open_table {H : Type} {enc : TypeId × Value → H} {W : World} {base : Nat} {v : Value} {d : DataW H} {p : List MemPlace}
    (hv : Value.okWide Try.prog W .any base 59 v) (h : DataW.Trod enc Try.prog W 0 (fun _ => true) true 59 v d p) :
    ∃ (o : Option Addr) (cap : Nat) (l : List Sl), v = tab (.slice o l.length cap) ∧ l.length ≤ maxLen ∧ RdS W.heap.size W o l := by
  obtain ⟨cs, rfl, hsz⟩ := okWide_struct Try.underlying59 hv
  obtain ⟨c0, rfl⟩ := array1 (hsz.trans cellsLawsT)
  obtain ⟨fuel, hf⟩ := h
  obtain ⟨o, cap, l, e, r⟩ := open_table_cells (cs := [c0]) rfl (by simpa [Value.cells] using hf)
  simp at e
  subst e
  exact ⟨o, cap, l, rfl, r.1, r.2⟩

set_option maxHeartbeats 400000 in
theorem szTable_n (o : Option Addr) (len c : Nat) (n : Int) (w : World) (hl : len ≤ maxLen) (h0 : 0 ≤ n) (h1 : n ≤ 1048576) :
    Calls Try.prog 41 #[tab (.slice o len c), .int .i64 n] w fun e w' => e = .returned (.int .i64 (if n - len < 0 then -1 else n - len)) ∧ Below w.heap.size w w' := by
  have hB : Below w.heap.size w w := Below.refl _ _
  have hs := fun W => szSlotS_any o len c n W hl h0 h1
  by_cases h : n - len < 0
  · rw [if_pos h] at hs
    rw [if_pos h]
    go_enter Try.func41, Try.ntmps41
    go_wp2_with (go_at_call 82; refine (hs _).mono ?_; rintro e w1 ⟨rfl, rfl⟩)
    go_ret
    exact ⟨rfl, by (repeat (first | with_reducible exact hB | with_reducible exact Below.refl _ _ | with_reducible refine Below.drew ?_ | with_reducible refine below_drewN ?_ _ | with_reducible refine Below.alloc ?_ ?_ _ | with_reducible refine Below.setCell ?_ ?_ _ | (focus (simp; done)) | (focus (simp; omega)) | omega))⟩
  · rw [if_neg h] at hs
    rw [if_neg h]
    have h' : 0 ≤ n - (len : Int) := by omega
    go_enter Try.func41, Try.ntmps41
    go_wp2_with (go_at_call 82; refine (hs _).mono ?_; rintro e w1 ⟨rfl, rfl⟩)
    go_ret
    exact ⟨rfl, by (repeat (first | with_reducible exact hB | with_reducible exact Below.refl _ _ | with_reducible refine Below.drew ?_ | with_reducible refine below_drewN ?_ _ | with_reducible refine Below.alloc ?_ ?_ _ | with_reducible refine Below.setCell ?_ ?_ _ | (focus (simp; done)) | (focus (simp; omega)) | omega))⟩

set_option maxHeartbeats 400000 in
theorem szTable_sh (v : Value) (m : List Sl) (C : Nat) (w : World) (hR : RdT C w v m) (hl : m.length ≤ maxLen) :
    Calls Try.prog 41 #[v, .int .i64 1048576] w fun e w' => (∃ n : Int, e = .returned (.int .i64 n) ∧ (m.length ≤ 1048576 → 0 ≤ n) ∧ (¬ m.length ≤ 1048576 → n < 0) ∧ -1 ≤ n ∧ n ≤ 1048576) ∧ Below w.heap.size w w' := by
  obtain ⟨vl, rfl, o, c, rfl, _⟩ := hR
  have hB : Below w.heap.size w w := Below.refl _ _
  have hs := fun W => szSlotS_any o m.length c 1048576 W hl (by decide) (by decide)
  by_cases h : (1048576 : Int) - m.length < 0
  · rw [if_pos h] at hs
    go_enter Try.func41, Try.ntmps41
    go_wp2_with (go_at_call 82; refine (hs _).mono ?_; rintro e w1 ⟨rfl, rfl⟩)
    go_ret
    exact ⟨⟨_, rfl, by omega, by omega, by omega, by omega⟩, by (repeat (first | with_reducible exact hB | with_reducible exact Below.refl _ _ | with_reducible refine Below.drew ?_ | with_reducible refine below_drewN ?_ _ | with_reducible refine Below.alloc ?_ ?_ _ | with_reducible refine Below.setCell ?_ ?_ _ | (focus (simp; done)) | (focus (simp; omega)) | omega))⟩
  · rw [if_neg h] at hs
    go_enter Try.func41, Try.ntmps41
    go_wp2_with (go_at_call 82; refine (hs _).mono ?_; rintro e w1 ⟨rfl, rfl⟩)
    go_ret
    exact ⟨⟨_, rfl, by omega, by omega, by omega, by omega⟩, by (repeat (first | with_reducible exact hB | with_reducible exact Below.refl _ _ | with_reducible refine Below.drew ?_ | with_reducible refine below_drewN ?_ _ | with_reducible refine Below.alloc ?_ ?_ _ | with_reducible refine Below.setCell ?_ ?_ _ | (focus (simp; done)) | (focus (simp; omega)) | omega))⟩

set_option maxHeartbeats 2000000 in
theorem toTable_sh (v : Value) (m : List Sl) (w : World) (hR : RdT w.heap.size w v m) (hf : m.length ≤ 1048576) :
    Calls Try.prog 42 #[v] w fun e w' => ∃ v', e = .returned v' ∧ InT w.heap.size w'.heap.size w' v' m ∧ Below w.heap.size w w' := by
  obtain ⟨vl, rfl, o, c, rfl, hr⟩ := hR
  have hB : Below w.heap.size w w := Below.refl _ _
  go_enter Try.func42, Try.ntmps42
  go_wp2_with (first | (go_at_call 83; refine (toSlotS_any o c m _ ((hr.kept (D := w.heap.size) (by (repeat (first | with_reducible exact hB | with_reducible exact Below.refl _ _ | with_reducible refine Below.drew ?_ | with_reducible refine below_drewN ?_ _ | with_reducible refine Below.alloc ?_ ?_ _ | with_reducible refine Below.setCell ?_ ?_ _ | (focus (simp; done)) | (focus (simp; omega)) | omega))) (Nat.le_refl _)).le (by (try simp) <;> omega)) hf).mono ?_; rintro e w1a ⟨g, rfl, hown, hba⟩; obtain ⟨hca, hfa⟩ := bcell hba; have hz0a : w.heap.size < w1a.heap.size := (by have hz := hba.size; (try simp at hz); omega); have hz1a : w.heap.size + 1 < w1a.heap.size := (by have hz := hba.size; (try simp at hz); omega); have hz2a : w.heap.size + 1 + 1 < w1a.heap.size := (by have hz := hba.size; (try simp at hz); omega); have hB : Below w.heap.size w w1a := (by refine Below.trans ?_ (hba.mono (by have hs := hB.size; (try simp) <;> omega)); (repeat (first | with_reducible exact hB | with_reducible exact Below.refl _ _ | with_reducible refine Below.drew ?_ | with_reducible refine below_drewN ?_ _ | with_reducible refine Below.alloc ?_ ?_ _ | with_reducible refine Below.setCell ?_ ?_ _ | (focus (simp; done)) | (focus (simp; omega)) | omega)))))
  have hown' : ownS w1a (w.heap.size + 1 + 1 + 1) (.slice (some ⟨g, 0, none⟩) m.length m.length) m := by simpa using hown
  clear hown hba
  refine bodyPost_ret (v := tab (.slice (some ⟨g, 0, none⟩) m.length m.length)) (by simp [results, Try.results42, go_sem, hca, hz0a, hz1a, hz2a]) rfl ⟨_, rfl, ⟨_, rfl, InRow.of ?_⟩, ?_⟩
  · refine own_mono (base := w.heap.size + 1 + 1 + 1) ?_ (by omega)
    repeat (refine ownsRow_setCell_below ?_ (by simp <;> omega) _)
    exact hown'
  · (repeat (first | with_reducible exact hB | with_reducible exact Below.refl _ _ | with_reducible refine Below.drew ?_ | with_reducible refine below_drewN ?_ _ | with_reducible refine Below.alloc ?_ ?_ _ | with_reducible refine Below.setCell ?_ ?_ _ | (focus (simp; done)) | (focus (simp; omega)) | omega))

set_option maxHeartbeats 1000000 in
theorem eqTable_sh (v1 v2 : Value) (m : List Sl) (w : World) (h1 : RdT w.heap.size w v1 m) (h2 : RdT w.heap.size w v2 m) (hl : m.length ≤ 1048576) :
    Calls Try.prog 38 #[v1, v2] w fun e w' => e = .returned (.bool true) ∧ Below w.heap.size w w' := by
  obtain ⟨vl, rfl, o, c, rfl, r1⟩ := h1
  obtain ⟨vl2, rfl, o2, c2, rfl, r2⟩ := h2
  have hB : Below w.heap.size w w := Below.refl _ _
  go_enter Try.func38, Try.ntmps38
  go_wp2_with (first | (go_at_call 79; refine (eqSlotS_same o o2 c c2 m _ ((r1.kept (D := w.heap.size) (by (repeat (first | with_reducible exact hB | with_reducible exact Below.refl _ _ | with_reducible refine Below.drew ?_ | with_reducible refine below_drewN ?_ _ | with_reducible refine Below.alloc ?_ ?_ _ | with_reducible refine Below.setCell ?_ ?_ _ | (focus (simp; done)) | (focus (simp; omega)) | omega))) (Nat.le_refl _)).le (by (try simp) <;> omega)) ((r2.kept (D := w.heap.size) (by (repeat (first | with_reducible exact hB | with_reducible exact Below.refl _ _ | with_reducible refine Below.drew ?_ | with_reducible refine below_drewN ?_ _ | with_reducible refine Below.alloc ?_ ?_ _ | with_reducible refine Below.setCell ?_ ?_ _ | (focus (simp; done)) | (focus (simp; omega)) | omega))) (Nat.le_refl _)).le (by (try simp) <;> omega)) hl).mono ?_; rintro e w1 ⟨rfl, hb⟩; obtain ⟨hc, hf⟩ := bcell hb; have hz0 : w.heap.size < w1.heap.size := (by have hz := hb.size; (try simp at hz); omega); have hz1 : w.heap.size + 1 < w1.heap.size := (by have hz := hb.size; (try simp at hz); omega); have hB : Below w.heap.size w w1 := (by refine Below.trans ?_ (hb.mono (by have hs := hB.size; (try simp) <;> omega)); (repeat (first | with_reducible exact hB | with_reducible exact Below.refl _ _ | with_reducible refine Below.drew ?_ | with_reducible refine below_drewN ?_ _ | with_reducible refine Below.alloc ?_ ?_ _ | with_reducible refine Below.setCell ?_ ?_ _ | (focus (simp; done)) | (focus (simp; omega)) | omega)))))
  go_ret
  exact ⟨rfl, by (repeat (first | with_reducible exact hB | with_reducible exact Below.refl _ _ | with_reducible refine Below.drew ?_ | with_reducible refine below_drewN ?_ _ | with_reducible refine Below.alloc ?_ ?_ _ | with_reducible refine Below.setCell ?_ ?_ _ | (focus (simp; done)) | (focus (simp; omega)) | omega))⟩

/-- The marks of a table. -/
def mkT (k : Int) (m : List Sl) : List Sl := mkL mkSl 5 k m.length
set_option maxHeartbeats 1000000 in
theorem markTable_sh (lo hi : Nat) (v : Value) (m : List Sl) (k : Int) (w : World) (hv : InT lo hi w v m) (h0 : 0 ≤ k) (h1 : k ≤ 100000000) (hl : m.length ≤ 1048576) :
    Calls Try.prog 39 #[v, .int .i64 k] w fun e w' => e = .returned (.int .i64 (k + 5 * m.length)) ∧ InT lo hi w' v (mkT k m) ∧ Stp lo hi w w' := by
  obtain ⟨vl, rfl, iv⟩ := hv
  obtain ⟨ol, cl, hle, _⟩ := InL.rd (L := layS) iv
  subst hle
  have s1 : Hid (Stp lo hi w (w.alloc (.cells #[.slice ol m.length cl] 25))) := Stp.of ((Below.refl _ _).alloc (Nat.le_refl _) _)
  have i1 : Hid (InS lo hi (w.alloc (.cells #[.slice ol m.length cl] 25)) (.slice ol m.length cl) m) := ⟨World.ownsRow.alloc iv.1 _, iv.2⟩
  clear iv
  go_enter Try.func39, Try.ntmps39
  go_wp2_with fail
  generalize w.alloc (.cells #[.slice ol m.length cl] 25) = w1 at *
  refine (markSlotS_any lo _ m k w1 i1.out.1 h0 (by omega) hl).mono ?_
  rintro e w2 ⟨rfl, hown, hgr⟩
  have H : Hid (InT lo hi w2 (tab (.slice ol m.length cl)) (mkT k m) ∧ Stp lo hi w w2) := ⟨⟨_, rfl, hown, i1.out.2⟩, s1.out.trans (Stp.grown hgr (fun b e => ⟨(i1.out.1.lt b e).1, i1.out.2 b e⟩))⟩
  clear hown hgr s1 i1
  go_wp2
  go_ret
  exact ⟨rfl, H.out.1, H.out.2⟩
set_option maxHeartbeats 1000000 in
theorem heldTable_sh (v : Value) (m : List Sl) (k : Int) (w : World) (hR : RdT w.heap.size w v (mkT k m)) (h0 : 0 ≤ k) (h1 : k ≤ 100000000) (hl : m.length ≤ 1048576) :
    Calls Try.prog 40 #[v, .int .i64 k] w fun e w' => e = .returned (.int .i64 (k + 5 * m.length)) ∧ Below w.heap.size w w' := by
  obtain ⟨vl, rfl, o, c, rfl, r⟩ := hR
  have e1 : (mkT k m).length = m.length := mkL_length _ _ _ _
  rw [e1]
  have hb0 : Hid (Below w.heap.size w (w.alloc (.cells #[.slice o m.length c] 25))) := (Below.refl _ _).alloc (Nat.le_refl _) _
  have hR0 : RdL layS w.heap.size w o (mkL mkSl 5 k m.length) := r
  clear r e1
  have hn : (0 : Int) ≤ k + 5 * m.length := by omega
  show Calls Try.prog 40 #[tab (.slice o m.length c), .int .i64 k] w _
  go_enter Try.func40, Try.ntmps40
  go_wp2_with fail
  generalize w.alloc (.cells #[.slice o m.length c] 25) = w1 at *
  refine (heldSlotS_any o c m.length w.heap.size k w1 (hR0.kept hb0.out (Nat.le_refl _)) h0 (by omega) hl).mono ?_
  rintro e _ ⟨rfl, rfl⟩
  go_wp2
  go_ret
  exact ⟨rfl, hb0.out⟩

end Go.Proofs.Ytiijecnhbioehaa
