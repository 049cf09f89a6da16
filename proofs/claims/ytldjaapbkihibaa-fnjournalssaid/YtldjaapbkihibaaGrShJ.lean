/- Several texts in one: MarkL, LMarkC, Fr, ShJ. -/
import Derived.Test.YtldjaapbkihibaaLists
import Derived.Test.YtldjaapbkihibaaLCmds
/- The laws' marks in a row of records of whole numbers, whatever their layout: what stands there behind them. -/
namespace Go.Proofs.Ytldjaapbkihibaa
open Go.ChangeShapes Go.WideShapes Go.ChangeAt Go.RowKit Go.Joins
set_option linter.unusedVariables false
set_option linter.unusedSimpArgs false

variable {α : Type}

/-- n records, marked from k on, m numbers each. -/
def mkL (f : Int → α) (m : Nat) (k : Int) (n : Nat) : List α := (List.range n).map (fun (i : Nat) => f (k + (m : Int) * (i : Int)))
theorem mkL_length (f : Int → α) (m : Nat) (k : Int) (n : Nat) : (mkL f m k n).length = n := by simp [mkL]
theorem mkL_get (f : Int → α) (m : Nat) (k : Int) (n i : Nat) (d : α) (h : i < n) : (mkL f m k n).getD i d = f (k + (m : Int) * (i : Int)) := by simp [mkL, h]
theorem mkL_succ (f : Int → α) (m : Nat) (k : Int) (n : Nat) : mkL f m k (n + 1) = mkL f m k n ++ [f (k + (m : Int) * (n : Int))] := by simp [mkL, List.range_succ]
def mkTo (f : Int → α) (m : Nat) (l : List α) (k : Int) (i : Nat) : List α := mkL f m k i ++ l.drop i
theorem mkTo_zero (f : Int → α) (m : Nat) (l : List α) (k : Int) : mkTo f m l k 0 = l := by simp [mkTo, mkL]
theorem mkTo_all (f : Int → α) (m : Nat) (l : List α) (k : Int) : mkTo f m l k l.length = mkL f m k l.length := by simp [mkTo]
theorem mkTo_length (f : Int → α) (m : Nat) (l : List α) (k : Int) (i : Nat) (h : i ≤ l.length) : (mkTo f m l k i).length = l.length := by simp [mkTo, mkL_length]; omega
theorem mkTo_set (f : Int → α) (m : Nat) (l : List α) (k : Int) (i : Nat) (h : i < l.length) : (mkTo f m l k i).set i (f (k + (m : Int) * (i : Int))) = mkTo f m l k (i + 1) := by
  unfold mkTo
  rw [List.drop_eq_getElem_cons h, List.set_append_right _ _ (by rw [mkL_length]; exact Nat.le_refl _), mkL_length, Nat.sub_self, List.set_cons_zero, mkL_succ, List.append_assoc]
  rfl
theorem flat_set2 (L : Lay α) (hk : L.k = 2) {v0 v1 : Value} {a : α} (ha : L.cs a = [v0, v1]) : ∀ (l : List α) (i : Nat), ((l.flatMap L.cs).set (i * 2) v0).set (i * 2 + 1) v1 = (l.set i a).flatMap L.cs
  | [], i => by simp
  | q :: l, 0 => by
    have hq := (L.len q).trans hk
    match hc : L.cs q, hq with
    | [q0, q1], _ => simp [ha, hc]
  | q :: l, i + 1 => by
    have hq := (L.len q).trans hk
    match hc : L.cs q, hq with
    | [q0, q1], _ =>
      rw [show (i + 1) * 2 = i * 2 + 1 + 1 by omega]
      simp only [List.flatMap_cons, hc, List.cons_append, List.nil_append, List.set_cons_succ]
      rw [flat_set2 L hk ha l i]
theorem grown_set1 {w wr : World} {base g c n : Nat} {e : TypeId} {size : Nat} {xs : List Value} {j : Nat} {u : Value} (hown : wr.ownsRow base e size (.slice (some ⟨g, 0, none⟩) n c) n xs) (hg : w.grownBy wr (some g)) :
    (wr.setCell ⟨g, j, none⟩ u).ownsRow base e size (.slice (some ⟨g, 0, none⟩) n c) n (xs.set j u) ∧ w.grownBy (wr.setCell ⟨g, j, none⟩ u) (some g) := by
  have h := hown.stored j u
  exact ⟨h.1, ⟨hg.os, hg.tape, hg.output, by have := h.2.size; have := hg.size; omega, fun i hi hne => (h.2.block i (Nat.lt_of_lt_of_le hi hg.size) hne).trans (hg.block i hi hne)⟩⟩

end Go.Proofs.Ytldjaapbkihibaa

/- The laws' marks in a row of impl.PoolCmd. -/
namespace Go.Proofs.Ytldjaapbkihibaa
open Go.ChangeShapes Go.WideShapes Go.ChangeAt Go.RowKit Go.Joins
set_option linter.unusedVariables false
set_option linter.unusedSimpArgs false

def mkCd (k : Int) := ((k, k + 1, k + 1 + 1) : _)

set_option maxHeartbeats 2000000 in
theorem markPoolCmdS_any (base : Nat) (v : Value) (l : List _) (k : Int) (w : World) (hv : ownL layC 28 w base v l) (h0 : 0 ≤ k) (h1 : k ≤ 1073741824) (hlen : l.length ≤ 1048576) :
    Calls Try.prog 100 #[v, .int .i64 k] w fun e w' => e = .returned (.int .i64 (k + 3 * l.length)) ∧ ownL layC 28 w' base v (mkL mkCd 3 k l.length) ∧ w.grownBy w' v.ownBlock := by
  rcases hv.2 with ⟨rfl, h2⟩ | ⟨g, cap, cur, rfl, hg, _⟩
  · have e : l = [] := List.eq_nil_of_length_eq_zero h2
    subst e
    go_enter Try.func100, Try.ntmps100
    go_wp2
    refine wp_loop_rounds 1 ?_
    rw [rounds_succ]
    go_wp2
    go_ret
    exact ⟨by simp, by simpa [mkL] using hv, World.grownBy.refl _ _⟩
  · have hv0 : w.ownsRow base 28 3 (.slice (some ⟨g, 0, none⟩) l.length cap) l.length ((mkTo mkCd 3 l k 0).flatMap layC.cs) := by rw [mkTo_zero]; exact hv
    go_enter Try.func100, Try.ntmps100
    go_wp2
    go_loopw [1, 5] (fun q j wr => ∃ i : Nat, i ≤ l.length ∧ j = .int .i64 i ∧ q = .int .i64 (k + 3 * (i : Int)) ∧ wr.ownsRow base 28 3 (.slice (some ⟨g, 0, none⟩) l.length cap) l.length ((mkTo mkCd 3 l k i).flatMap layC.cs) ∧ w.grownBy wr (some g))
      (fun _ j _ => l.length - (intOf j).toNat)
    case atStart => exact ⟨0, Nat.zero_le _, rfl, by simp, hv0, World.grownBy.refl _ _⟩
    case round =>
      obtain ⟨i, hi, rfl, rfl, hown, hgr⟩ := hrel
      by_cases hlt : i < l.length
      · have hxl : ((mkTo mkCd 3 l k i).flatMap layC.cs).length = l.length * 3 := by rw [flat_length, mkTo_length _ _ _ _ _ hi]; rfl
        have E := flat_set3 layC rfl (a := mkCd (k + 3 * (i : Int))) rfl (mkTo mkCd 3 l k i) i
        have E2 := mkTo_set mkCd 3 l k i hlt
        generalize hxs : (mkTo mkCd 3 l k i).flatMap layC.cs = xs at *
        have s1 := grown_set1 (j := i * 3) (u := .int .i64 (k + 3 * (i : Int))) hown hgr
        have s2 := grown_set1 (j := i * 3 + 1) (u := .int .i64 (k + 3 * (i : Int) + 1)) s1.1 s1.2
        have s3 := grown_set1 (j := i * 3 + 2) (u := .int .i64 (k + 3 * (i : Int) + 1 + 1)) s2.1 s2.2
        have f0 := hown.frozenAt (i * 3)
        obtain ⟨q0, hq0⟩ : ∃ z, wr.cell? ⟨g, i * 3, none⟩ = some z := ⟨_, (hown.cellAt (i * 3) (by omega)).trans (List.getElem?_eq_getElem (by (try simp) <;> omega))⟩
        have f1 := s1.1.frozenAt (i * 3 + 1)
        obtain ⟨q1, hq1⟩ : ∃ z, (wr.setCell ⟨g, i * 3, none⟩ (.int .i64 (k + 3 * (i : Int)))).cell? ⟨g, i * 3 + 1, none⟩ = some z := ⟨_, (s1.1.cellAt (i * 3 + 1) (by omega)).trans (List.getElem?_eq_getElem (by (try simp) <;> omega))⟩
        have f2 := s2.1.frozenAt (i * 3 + 2)
        obtain ⟨q2, hq2⟩ : ∃ z, ((wr.setCell ⟨g, i * 3, none⟩ (.int .i64 (k + 3 * (i : Int)))).setCell ⟨g, i * 3 + 1, none⟩ (.int .i64 (k + 3 * (i : Int) + 1))).cell? ⟨g, i * 3 + 2, none⟩ = some z := ⟨_, (s2.1.cellAt (i * 3 + 2) (by omega)).trans (List.getElem?_eq_getElem (by (try simp) <;> omega))⟩
        have S := hide s3
        have HE := hide (E.trans (congrArg (fun z => List.flatMap layC.cs z) E2))
        have z1 : (i : Int) < (l.length : Int) := by omega
        clear s1 s2 s3 hown hgr hv hv0 E E2 hxl
        go_wp2
        go_roundw
        case rel =>
          refine ⟨i + 1, by omega, by go_num, by go_num, ?_, S.out.2⟩
          have h := S.out.1
          rw [← HE.out]
          exact h
        case measure => simp [intOf]; omega
      · have e : i = l.length := by omega
        subst e
        rw [mkTo_all] at hown
        have HO := hide hown
        clear hown
        go_wp2
        go_ret
        exact ⟨rfl, (by have := HO.out; unfold ownL; rw [mkL_length]; exact this), hgr⟩

end Go.Proofs.Ytldjaapbkihibaa

/- Steps that turn no old block but some: what rows, boxes and readings are behind them. -/
namespace Go.Proofs.Ytldjaapbkihibaa
open Go.ChangeShapes Go.WideShapes Go.ChangeAt Go.RowKit Go.Joins
set_option linter.unusedVariables false
set_option linter.unusedSimpArgs false

/-- From w to w' no block of w has turned but those from lo on, up to hi. -/
structure Stp (lo hi : Nat) (w w' : World) : Prop where
  os : w'.os = w.os
  tape : w'.tape = w.tape
  output : w'.output = w.output
  size : w.heap.size ≤ w'.heap.size
  block : ∀ k, k < w.heap.size → (k < lo ∨ hi ≤ k) → w'.heap[k]? = w.heap[k]?
theorem Stp.of {lo hi : Nat} {w w' : World} (h : Below w.heap.size w w') : Stp lo hi w w' := ⟨h.os, h.tape, h.output, h.size, fun k hk _ => h.block k hk⟩
theorem Stp.refl {lo hi : Nat} (w : World) : Stp lo hi w w := ⟨rfl, rfl, rfl, Nat.le_refl _, fun _ _ _ => rfl⟩
theorem Stp.below {lo hi B : Nat} {w w' : World} (h : Stp lo hi w w') (hB : B ≤ lo) (hs : B ≤ w.heap.size) : Below B w w' := ⟨h.os, h.tape, h.output, h.size, fun k hk => h.block k (Nat.lt_of_lt_of_le hk hs) (.inl (Nat.lt_of_lt_of_le hk hB))⟩
theorem Stp.trans {lo hi : Nat} {a b c : World} (h : Stp lo hi a b) (k : Stp lo hi b c) : Stp lo hi a c :=
  ⟨k.os.trans h.os, k.tape.trans h.tape, k.output.trans h.output, Nat.le_trans h.size k.size, fun i hi' hn => (k.block i (Nat.lt_of_lt_of_le hi' h.size) hn).trans (h.block i hi' hn)⟩
theorem Stp.grown {lo hi : Nat} {w w' : World} {r : Option Nat} (h : w.grownBy w' r) (hr : ∀ b, r = some b → lo ≤ b ∧ b < hi) : Stp lo hi w w' :=
  ⟨h.os, h.tape, h.output, h.size, fun k hk hn => h.block k hk (fun e => by have := hr k e.symm; omega)⟩
theorem Stp.box {lo hi k : Nat} {w w' : World} {X : Obj} (s : Stp lo hi w w') (h : w.heap[k]? = some X) (hk : k < lo ∨ hi ≤ k) : w'.heap[k]? = some X :=
  (s.block k (Array.getElem?_eq_some_iff.1 h).1 hk).trans h

/-- A row that lies in the blocks from lo up to hi. -/
def InRow (lo hi : Nat) (w : World) (e : TypeId) (size : Nat) (v : Value) (n : Nat) (xs : List Value) : Prop := w.ownsRow lo e size v n xs ∧ ∀ b, v.ownBlock = some b → b < hi
theorem InRow.of {lo : Nat} {w : World} {e : TypeId} {size : Nat} {v : Value} {n : Nat} {xs : List Value} (h : w.ownsRow lo e size v n xs) : InRow lo w.heap.size w e size v n xs := ⟨h, fun b e => (h.lt b e).2⟩
theorem InRow.mono {lo hi lo' hi' : Nat} {w : World} {e : TypeId} {size : Nat} {v : Value} {n : Nat} {xs : List Value} (h : InRow lo hi w e size v n xs) (h1 : lo' ≤ lo) (h2 : hi ≤ hi') : InRow lo' hi' w e size v n xs :=
  ⟨own_mono h.1 h1, fun b e => Nat.lt_of_lt_of_le (h.2 b e) h2⟩
theorem InRow.step {a b lo hi : Nat} {w w' : World} {e : TypeId} {size : Nat} {v : Value} {n : Nat} {xs : List Value} (h : InRow a b w e size v n xs) (s : Stp lo hi w w') (hd : hi ≤ a ∨ b ≤ lo) : InRow a b w' e size v n xs := by
  refine ⟨⟨h.1.1, ?_⟩, h.2⟩
  rcases h.1.2 with h1 | ⟨g, cap, cur, hv, hg, hc, r⟩
  · exact .inl h1
  · have hgb : g < b := h.2 g (by rw [hv]; rfl)
    exact .inr ⟨g, cap, cur, hv, hg, s.box hc (by omega), r⟩
theorem InRow.steps {a b lo hi : Nat} {w w' : World} {e : TypeId} {size : Nat} {v : Value} {n : Nat} {xs : List Value} (h : InRow a b w e size v n xs) (s : Stp lo hi w w') (hd : ∀ g, v.ownBlock = some g → g < lo ∨ hi ≤ g) : InRow a b w' e size v n xs := by
  refine ⟨⟨h.1.1, ?_⟩, h.2⟩
  rcases h.1.2 with h1 | ⟨g, cap, cur, hv, hg, hc, r⟩
  · exact .inl h1
  · exact .inr ⟨g, cap, cur, hv, hg, s.box hc (hd g (by rw [hv]; rfl)), r⟩
/-- Two rows of unlike element types never share a block. -/
theorem own_apart0 {w : World} {b1 b2 s1 s2 n1 n2 : Nat} {e1 e2 : TypeId} {v1 v2 : Value} {x1 x2 : List Value} (h1 : w.ownsRow b1 e1 s1 v1 n1 x1) (h2 : w.ownsRow b2 e2 s2 v2 n2 x2) (he : e1 ≠ e2) : v1.ownBlock = none ∨ v1.ownBlock ≠ v2.ownBlock := by
  rcases h1.2 with ⟨rfl, _⟩ | ⟨g, cap, cur, rfl, _, hc, _⟩
  · exact .inl rfl
  · right
    rcases h2.2 with ⟨rfl, _⟩ | ⟨g', cap', cur', rfl, _, hc', _⟩
    · simp [Value.ownBlock]
    · intro e
      simp [Value.ownBlock] at e
      subst e
      rw [hc] at hc'
      injection hc' with hc'
      injection hc' with _ hc' _
      exact he hc'
theorem InRow.kept {a b : Nat} {w w' : World} {e : TypeId} {size : Nat} {v : Value} {n : Nat} {xs : List Value} {r : Option Nat} (h : InRow a b w e size v n xs) (hg : w.grownBy w' r) (hn : v.ownBlock = none ∨ v.ownBlock ≠ r) : InRow a b w' e size v n xs :=
  ⟨World.ownsRow.kept h.1 hg hn, h.2⟩

/-- A slice's value that reads as l, its block below C. -/
def RdV {α : Type} (L : Lay α) (C : Nat) (w : World) (v : Value) (l : List α) : Prop := ∃ o c, v = .slice o l.length c ∧ RdL L C w o l
theorem RdV.kept {α : Type} {L : Lay α} {C D : Nat} {w w' : World} {v : Value} {l : List α} (h : RdV L C w v l) (hb : Below D w w') (hc : C ≤ D) : RdV L C w' v l := by
  obtain ⟨o, c, e, r⟩ := h
  exact ⟨o, c, e, r.kept hb hc⟩
theorem RdV.le {α : Type} {L : Lay α} {C D : Nat} {w : World} {v : Value} {l : List α} (h : RdV L C w v l) (hc : C ≤ D) : RdV L D w v l := by
  obtain ⟨o, c, e, r⟩ := h
  exact ⟨o, c, e, r.le hc⟩
abbrev InL {α : Type} (L : Lay α) (e : TypeId) (lo hi : Nat) (w : World) (v : Value) (l : List α) : Prop := InRow lo hi w e L.k v l.length (l.flatMap L.cs)
theorem InL.rd {α : Type} {L : Lay α} {e : TypeId} {lo hi : Nat} {w : World} {v : Value} {l : List α} (h : InL L e lo hi w v l) : RdV L hi w v l := by
  have h0 := h.1
  rcases h.1.2 with ⟨h1, h2⟩ | ⟨g, cap, cur, hv, _⟩
  · have e : l = [] := List.eq_nil_of_length_eq_zero h2
    subst e
    exact ⟨none, 0, by simpa using h1, .inl rfl⟩
  · subst hv
    refine ⟨_, cap, rfl, ?_⟩
    rcases ownL.rd (L := L) h0 with h' | ⟨b, off, ho, hb, r⟩
    · exact .inl h'
    · cases ho
      exact .inr ⟨_, _, rfl, h.2 _ rfl, r⟩

/-- A slice of nothing has no room. -/
def capV (v : Value) : Prop := ∀ n c, v = .slice none n c → c = 0
theorem InRow.cap {lo hi : Nat} {w : World} {e : TypeId} {size : Nat} {v : Value} {n : Nat} {xs : List Value} (h : InRow lo hi w e size v n xs) : capV v := by
  intro n' c hv
  rcases h.1.2 with ⟨h1, _⟩ | ⟨g, cap, cur, h1, _⟩
  · rw [h1] at hv; injection hv with _ _ h3; exact h3.symm
  · rw [h1] at hv; injection hv with h3 _ _; cases h3

end Go.Proofs.Ytldjaapbkihibaa

/- Journals, as a shape: how they read, what owns its memory, and the laws' own helpers over them. -/
namespace Go.Proofs.Ytldjaapbkihibaa
open Go.ChangeShapes Go.WideShapes Go.ChangeAt Go.RowKit Go.Joins
set_option linter.unusedVariables false
set_option linter.unusedSimpArgs false

/-- A journal, as the model has it. -/
structure Jm where
  key : Int
  l : List Cd
  safe : Int
abbrev jrn (k : Int) (v : Value) (s : Int) : Value := .agg #[.int .i64 k, v, .int .i64 s]
theorem block_cell0 {W : World} {B : Nat} {c : Array Value} {t : TypeId} (h : W.heap[B]? = some (.cells c t (0, 0))) (j : Nat) (u : Value) (hj : c[j]? = some u) : W.cell? ⟨B, j, none⟩ = some u := by
  simp [World.cell?, h, hj]
abbrev InC := InL layC 28
def RdJm (C : Nat) (w : World) (v : Value) (m : Jm) : Prop := ∃ vl, v = jrn m.key vl m.safe ∧ RdV layC C w vl m.l
def InJm (lo hi : Nat) (w : World) (v : Value) (m : Jm) : Prop := ∃ vl, v = jrn m.key vl m.safe ∧ InC lo hi w vl m.l
theorem RdJm.kept {C D : Nat} {w w' : World} {v : Value} {m : Jm} (h : RdJm C w v m) (hb : Below D w w') (hc : C ≤ D) : RdJm C w' v m := by
  obtain ⟨vl, e, h1⟩ := h
  exact ⟨vl, e, h1.kept hb hc⟩
theorem RdJm.le {C D : Nat} {w : World} {v : Value} {m : Jm} (h : RdJm C w v m) (hc : C ≤ D) : RdJm D w v m := by
  obtain ⟨vl, e, h1⟩ := h
  exact ⟨vl, e, h1.le hc⟩
theorem InJm.rd {lo hi : Nat} {w : World} {v : Value} {m : Jm} (h : InJm lo hi w v m) : RdJm hi w v m := by
  obtain ⟨vl, e, h1⟩ := h
  exact ⟨vl, e, InL.rd (L := layC) h1⟩
theorem InJm.step {a b lo hi : Nat} {w w' : World} {v : Value} {m : Jm} (h : InJm a b w v m) (s : Stp lo hi w w') (hd : hi ≤ a ∨ b ≤ lo) : InJm a b w' v m := by
  obtain ⟨vl, e, h1⟩ := h
  exact ⟨vl, e, InRow.step h1 s hd⟩
def capJm (v : Value) : Prop := ∃ k vl s, v = jrn k vl s ∧ capV vl
theorem InJm.cap {lo hi : Nat} {w : World} {v : Value} {m : Jm} (h : InJm lo hi w v m) : capJm v := by
  obtain ⟨vl, e, h1⟩ := h
  exact ⟨_, vl, _, e, InRow.cap h1⟩
theorem capJm.one {k s : Int} {o : Option Addr} {n c : Nat} (h : capJm (jrn k (.slice o n c) s)) : o = none → c = 0 := by
  obtain ⟨k', vl, s', e, h1⟩ := h
  injection e with e
  simp at e
  obtain ⟨_, e5, _⟩ := e
  exact fun h => h1 n c (by rw [← e5, h])
def fitJm (m : Jm) : Prop := m.l.length ≤ 1048576

theorem cellsLawsJ : Try.prog.cellsOf 81 = 3 := by kernel_rfl
theorem cellsLawsCmdS : Try.prog.cellsOf 79 = 1 := by kernel_rfl
set_option maxRecDepth 100000 in
theorem open_journal {H : Type} {enc : TypeId × Value → H} {W : World} {base : Nat} {v : Value} {d : DataW H} {p : List MemPlace}
    (hv : Value.okWide Try.prog W .any base 81 v) (h : DataW.Trod enc Try.prog W 0 (fun _ => true) true 81 v d p) :
    ∃ (k s : Int) (o : Option Addr) (cap : Nat) (l : List Cd), v = jrn k (.slice o l.length cap) s ∧ l.length ≤ maxLen ∧ RdC W.heap.size W o l := by
  obtain ⟨c0, c1, c2, y0, y1, y2, m, rfl, rfl, rfl, hy0, hy1, hy2⟩ := open_agg3 Try.underlying81 (by kernel_rfl) cellsLawsJ hv h
  obtain ⟨a, e0, rfl, wa⟩ := DataW.trod_int Try.underlying3 hy0
  obtain ⟨o, cap, l, e1, r⟩ := open_cmds_cells hy1
  obtain ⟨b, e2, rfl, wb⟩ := DataW.trod_int Try.underlying3 hy2
  simp at e0 e1 e2
  subst e0 e1 e2
  exact ⟨a, b, o, cap, l, rfl, r.1, r.2⟩

set_option maxHeartbeats 400000 in
theorem szJournal_sh (v : Value) (m : Jm) (C : Nat) (w : World) (hR : RdJm C w v m) (hl : m.l.length ≤ maxLen) :
    Calls Try.prog 47 #[v, .int .i64 1048576] w fun e w' => (∃ n : Int, e = .returned (.int .i64 n) ∧ (m.l.length ≤ 1048576 → 0 ≤ n) ∧ (¬ m.l.length ≤ 1048576 → n < 0) ∧ -1 ≤ n ∧ n ≤ 1048576) ∧ Below w.heap.size w w' := by
  obtain ⟨vl, rfl, o, c, rfl, _⟩ := hR
  have hB : Below w.heap.size w w := Below.refl _ _
  have hs := fun W => szPoolCmdS_any o m.l.length c 1048576 W hl (by decide) (by decide)
  by_cases h : (1048576 : Int) - m.l.length < 0
  · rw [if_pos h] at hs
    go_enter Try.func47, Try.ntmps47
    go_wp2_with (go_at_call 96; refine (hs _).mono ?_; rintro e w1 ⟨rfl, rfl⟩)
    go_ret
    exact ⟨⟨_, rfl, by omega, by omega, by omega, by omega⟩, by (repeat (first | with_reducible exact hB | with_reducible exact Below.refl _ _ | with_reducible refine Below.drew ?_ | with_reducible refine below_drewN ?_ _ | with_reducible refine Below.alloc ?_ ?_ _ | with_reducible refine Below.setCell ?_ ?_ _ | (focus (simp; done)) | (focus (simp; omega)) | omega))⟩
  · rw [if_neg h] at hs
    go_enter Try.func47, Try.ntmps47
    go_wp2_with (go_at_call 96; refine (hs _).mono ?_; rintro e w1 ⟨rfl, rfl⟩)
    go_ret
    exact ⟨⟨_, rfl, by omega, by omega, by omega, by omega⟩, by (repeat (first | with_reducible exact hB | with_reducible exact Below.refl _ _ | with_reducible refine Below.drew ?_ | with_reducible refine below_drewN ?_ _ | with_reducible refine Below.alloc ?_ ?_ _ | with_reducible refine Below.setCell ?_ ?_ _ | (focus (simp; done)) | (focus (simp; omega)) | omega))⟩

set_option maxHeartbeats 2000000 in
theorem toJournal_sh (v : Value) (m : Jm) (w : World) (hR : RdJm w.heap.size w v m) (hf : fitJm m) :
    Calls Try.prog 49 #[v] w fun e w' => ∃ v', e = .returned v' ∧ InJm w.heap.size w'.heap.size w' v' m ∧ Below w.heap.size w w' := by
  obtain ⟨vl, rfl, o, c, rfl, hr⟩ := hR
  have hB : Below w.heap.size w w := Below.refl _ _
  go_enter Try.func49, Try.ntmps49
  go_wp2_with (first | (go_at_call 98; refine (toPoolCmdS_any o c m.l _ ((hr.kept (D := w.heap.size) (by (repeat (first | with_reducible exact hB | with_reducible exact Below.refl _ _ | with_reducible refine Below.drew ?_ | with_reducible refine below_drewN ?_ _ | with_reducible refine Below.alloc ?_ ?_ _ | with_reducible refine Below.setCell ?_ ?_ _ | (focus (simp; done)) | (focus (simp; omega)) | omega))) (Nat.le_refl _)).le (by (try simp) <;> omega)) hf).mono ?_; rintro e w1a ⟨g, rfl, hown, hba⟩; obtain ⟨hca, hfa⟩ := bcell hba; have hz0a : w.heap.size < w1a.heap.size := (by have hz := hba.size; (try simp at hz); omega); have hz1a : w.heap.size + 1 < w1a.heap.size := (by have hz := hba.size; (try simp at hz); omega); have hz2a : w.heap.size + 1 + 1 < w1a.heap.size := (by have hz := hba.size; (try simp at hz); omega); have hB : Below w.heap.size w w1a := (by refine Below.trans ?_ (hba.mono (by have hs := hB.size; (try simp) <;> omega)); (repeat (first | with_reducible exact hB | with_reducible exact Below.refl _ _ | with_reducible refine Below.drew ?_ | with_reducible refine below_drewN ?_ _ | with_reducible refine Below.alloc ?_ ?_ _ | with_reducible refine Below.setCell ?_ ?_ _ | (focus (simp; done)) | (focus (simp; omega)) | omega)))))
  have hown' : ownC w1a (w.heap.size + 1 + 1 + 1) (.slice (some ⟨g, 0, none⟩) m.l.length m.l.length) m.l := by simpa using hown
  clear hown hba
  refine bodyPost_ret (v := jrn m.key (.slice (some ⟨g, 0, none⟩) m.l.length m.l.length) m.safe) (by simp [results, Try.results49, go_sem, hca, hz0a, hz1a, hz2a]) rfl ⟨_, rfl, ⟨_, rfl, InRow.of ?_⟩, ?_⟩
  · refine own_mono (base := w.heap.size + 1 + 1 + 1) ?_ (by omega)
    repeat (refine ownsRow_setCell_below ?_ (by simp <;> omega) _)
    exact hown'
  · (repeat (first | with_reducible exact hB | with_reducible exact Below.refl _ _ | with_reducible refine Below.drew ?_ | with_reducible refine below_drewN ?_ _ | with_reducible refine Below.alloc ?_ ?_ _ | with_reducible refine Below.setCell ?_ ?_ _ | (focus (simp; done)) | (focus (simp; omega)) | omega))

set_option maxHeartbeats 1000000 in
theorem eqJournal_sh (v1 v2 : Value) (m : Jm) (w : World) (h1 : RdJm w.heap.size w v1 m) (h2 : RdJm w.heap.size w v2 m) (hl : m.l.length ≤ 1048576) :
    Calls Try.prog 50 #[v1, v2] w fun e w' => e = .returned (.bool true) ∧ Below w.heap.size w w' := by
  obtain ⟨vl, rfl, o, c, rfl, r1⟩ := h1
  obtain ⟨vl2, rfl, o2, c2, rfl, r2⟩ := h2
  have hB : Below w.heap.size w w := Below.refl _ _
  go_enter Try.func50, Try.ntmps50
  go_wp2_with (first | (go_at_call 99; refine (eqPoolCmdS_same o o2 c c2 m.l _ ((r1.kept (D := w.heap.size) (by (repeat (first | with_reducible exact hB | with_reducible exact Below.refl _ _ | with_reducible refine Below.drew ?_ | with_reducible refine below_drewN ?_ _ | with_reducible refine Below.alloc ?_ ?_ _ | with_reducible refine Below.setCell ?_ ?_ _ | (focus (simp; done)) | (focus (simp; omega)) | omega))) (Nat.le_refl _)).le (by (try simp) <;> omega)) ((r2.kept (D := w.heap.size) (by (repeat (first | with_reducible exact hB | with_reducible exact Below.refl _ _ | with_reducible refine Below.drew ?_ | with_reducible refine below_drewN ?_ _ | with_reducible refine Below.alloc ?_ ?_ _ | with_reducible refine Below.setCell ?_ ?_ _ | (focus (simp; done)) | (focus (simp; omega)) | omega))) (Nat.le_refl _)).le (by (try simp) <;> omega)) hl).mono ?_; rintro e w1 ⟨rfl, hb⟩; obtain ⟨hc, hf⟩ := bcell hb; have hz0 : w.heap.size < w1.heap.size := (by have hz := hb.size; (try simp at hz); omega); have hz1 : w.heap.size + 1 < w1.heap.size := (by have hz := hb.size; (try simp at hz); omega); have hB : Below w.heap.size w w1 := (by refine Below.trans ?_ (hb.mono (by have hs := hB.size; (try simp) <;> omega)); (repeat (first | with_reducible exact hB | with_reducible exact Below.refl _ _ | with_reducible refine Below.drew ?_ | with_reducible refine below_drewN ?_ _ | with_reducible refine Below.alloc ?_ ?_ _ | with_reducible refine Below.setCell ?_ ?_ _ | (focus (simp; done)) | (focus (simp; omega)) | omega)))))
  go_ret
  exact ⟨rfl, by (repeat (first | with_reducible exact hB | with_reducible exact Below.refl _ _ | with_reducible refine Below.drew ?_ | with_reducible refine below_drewN ?_ _ | with_reducible refine Below.alloc ?_ ?_ _ | with_reducible refine Below.setCell ?_ ?_ _ | (focus (simp; done)) | (focus (simp; omega)) | omega))⟩

/-- The marks of a journal. -/
def mkJm (k : Int) (m : Jm) : Jm := { m with l := mkL mkCd 3 k m.l.length }
set_option maxHeartbeats 1000000 in
theorem markJournal_sh (lo hi : Nat) (v : Value) (m : Jm) (k : Int) (w : World) (hv : InJm lo hi w v m) (h0 : 0 ≤ k) (h1 : k ≤ 1000000) (hl : m.l.length ≤ 1048576) :
    Calls Try.prog 51 #[v, .int .i64 k] w fun e w' => e = .returned (.int .i64 (k + 3 * m.l.length)) ∧ InJm lo hi w' v (mkJm k m) ∧ Stp lo hi w w' := by
  obtain ⟨vl, rfl, iv⟩ := hv
  obtain ⟨ol, cl, hle, _⟩ := InL.rd (L := layC) iv
  subst hle
  have s1 : Hid (Stp lo hi w (w.alloc (.cells #[.int .i64 m.key, .slice ol m.l.length cl, .int .i64 m.safe] 47))) := Stp.of ((Below.refl _ _).alloc (Nat.le_refl _) _)
  have i1 : Hid (InC lo hi (w.alloc (.cells #[.int .i64 m.key, .slice ol m.l.length cl, .int .i64 m.safe] 47)) (.slice ol m.l.length cl) m.l) := ⟨World.ownsRow.alloc iv.1 _, iv.2⟩
  clear iv
  go_enter Try.func51, Try.ntmps51
  go_wp2_with fail
  generalize w.alloc (.cells #[.int .i64 m.key, .slice ol m.l.length cl, .int .i64 m.safe] 47) = w1 at *
  refine (markPoolCmdS_any lo _ m.l k w1 i1.out.1 h0 (by omega) hl).mono ?_
  rintro e w2 ⟨rfl, hown, hgr⟩
  have H : Hid (InJm lo hi w2 (jrn m.key (.slice ol m.l.length cl) m.safe) (mkJm k m) ∧ Stp lo hi w w2) := ⟨⟨_, rfl, hown, i1.out.2⟩, s1.out.trans (Stp.grown hgr (fun b e => ⟨(i1.out.1.lt b e).1, i1.out.2 b e⟩))⟩
  clear hown hgr s1 i1
  go_wp2
  go_ret
  exact ⟨rfl, H.out.1, H.out.2⟩
end Go.Proofs.Ytldjaapbkihibaa

