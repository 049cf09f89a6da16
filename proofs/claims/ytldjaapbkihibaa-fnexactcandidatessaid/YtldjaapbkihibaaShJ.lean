/- Journals, as a shape: how they read, what owns its memory, and the laws' own helpers over them. -/
import Derived.Test.YtldjaapbkihibaaLCmds
import Derived.Test.YtldjaapbkihibaaLMarkC
import Derived.Test.YtldjaapbkihibaaFr
namespace Go.Proofs.Ytldjaapbkihibaa
open Go.ChangeShapes Go.WideShapes Go.ChangeAt Go.RowKit Go.Joins
set_option linter.unusedVariables false
set_option linter.unusedSimpArgs false

/-- A journal, as the model has it. -/
structure Jm where
  key : Int
  l : List Cd
  safe : Int
abbrev jrn (k : Int) (v : Value) (s : Int) : Value := .agg #[.int .i64 k, v, .int .i64 s]
theorem block_cell0 {W : World} {B : Nat} {c : Array Value} {t : TypeId} (h : W.heap[B]? = some (.cells c t (0, 0))) (j : Nat) (u : Value) (hj : c[j]? = some u) : W.cell? ⟨B, j, none⟩ = some u := by
  simp [World.cell?, h, hj]
abbrev InC := InL layC 28
def RdJm (C : Nat) (w : World) (v : Value) (m : Jm) : Prop := ∃ vl, v = jrn m.key vl m.safe ∧ RdV layC C w vl m.l
def InJm (lo hi : Nat) (w : World) (v : Value) (m : Jm) : Prop := ∃ vl, v = jrn m.key vl m.safe ∧ InC lo hi w vl m.l
theorem RdJm.kept {C D : Nat} {w w' : World} {v : Value} {m : Jm} (h : RdJm C w v m) (hb : Below D w w') (hc : C ≤ D) : RdJm C w' v m := by
  obtain ⟨vl, e, h1⟩ := h
  exact ⟨vl, e, h1.kept hb hc⟩
theorem RdJm.le {C D : Nat} {w : World} {v : Value} {m : Jm} (h : RdJm C w v m) (hc : C ≤ D) : RdJm D w v m := by
  obtain ⟨vl, e, h1⟩ := h
  exact ⟨vl, e, h1.le hc⟩
theorem InJm.rd {lo hi : Nat} {w : World} {v : Value} {m : Jm} (h : InJm lo hi w v m) : RdJm hi w v m := by
  obtain ⟨vl, e, h1⟩ := h
  exact ⟨vl, e, InL.rd (L := layC) h1⟩
theorem InJm.step {a b lo hi : Nat} {w w' : World} {v : Value} {m : Jm} (h : InJm a b w v m) (s : Stp lo hi w w') (hd : hi ≤ a ∨ b ≤ lo) : InJm a b w' v m := by
  obtain ⟨vl, e, h1⟩ := h
  exact ⟨vl, e, InRow.step h1 s hd⟩
def capJm (v : Value) : Prop := ∃ k vl s, v = jrn k vl s ∧ capV vl
theorem InJm.cap {lo hi : Nat} {w : World} {v : Value} {m : Jm} (h : InJm lo hi w v m) : capJm v := by
  obtain ⟨vl, e, h1⟩ := h
  exact ⟨_, vl, _, e, InRow.cap h1⟩
theorem capJm.one {k s : Int} {o : Option Addr} {n c : Nat} (h : capJm (jrn k (.slice o n c) s)) : o = none → c = 0 := by
  obtain ⟨k', vl, s', e, h1⟩ := h
  injection e with e
  simp at e
  obtain ⟨_, e5, _⟩ := e
  exact fun h => h1 n c (by rw [← e5, h])
def fitJm (m : Jm) : Prop := m.l.length ≤ 1048576

theorem cellsLawsJ : Try.prog.cellsOf 81 = 3 := by kernel_rfl
theorem cellsLawsCmdS : Try.prog.cellsOf 79 = 1 := by kernel_rfl
set_option maxRecDepth 100000 in
theorem open_journal {H : Type} {enc : TypeId × Value → H} {W : World} {base : Nat} {v : Value} {d : DataW H} {p : List MemPlace}
    (hv : Value.okWide Try.prog W .any base 81 v) (h : DataW.Trod enc Try.prog W 0 (fun _ => true) true 81 v d p) :
    ∃ (k s : Int) (o : Option Addr) (cap : Nat) (l : List Cd), v = jrn k (.slice o l.length cap) s ∧ l.length ≤ maxLen ∧ RdC W.heap.size W o l := by
  obtain ⟨c0, c1, c2, y0, y1, y2, m, rfl, rfl, rfl, hy0, hy1, hy2⟩ := open_agg3 Try.underlying81 (by kernel_rfl) cellsLawsJ hv h
  obtain ⟨a, e0, rfl, wa⟩ := DataW.trod_int Try.underlying3 hy0
  obtain ⟨o, cap, l, e1, r⟩ := open_cmds_cells hy1
  obtain ⟨b, e2, rfl, wb⟩ := DataW.trod_int Try.underlying3 hy2
  simp at e0 e1 e2
  subst e0 e1 e2
  exact ⟨a, b, o, cap, l, rfl, r.1, r.2⟩

set_option maxHeartbeats 400000 in
theorem szJournal_sh (v : Value) (m : Jm) (C : Nat) (w : World) (hR : RdJm C w v m) (hl : m.l.length ≤ maxLen) :
    Calls Try.prog 47 #[v, .int .i64 1048576] w fun e w' => (∃ n : Int, e = .returned (.int .i64 n) ∧ (m.l.length ≤ 1048576 → 0 ≤ n) ∧ (¬ m.l.length ≤ 1048576 → n < 0) ∧ -1 ≤ n ∧ n ≤ 1048576) ∧ Below w.heap.size w w' := by
  obtain ⟨vl, rfl, o, c, rfl, _⟩ := hR
  have hB : Below w.heap.size w w := Below.refl _ _
  have hs := fun W => szPoolCmdS_any o m.l.length c 1048576 W hl (by decide) (by decide)
  by_cases h : (1048576 : Int) - m.l.length < 0
  · rw [if_pos h] at hs
    go_enter Try.func47, Try.ntmps47
    go_wp2_with (go_at_call 96; refine (hs _).mono ?_; rintro e w1 ⟨rfl, rfl⟩)
    go_ret
    exact ⟨⟨_, rfl, by omega, by omega, by omega, by omega⟩, by (repeat (first | with_reducible exact hB | with_reducible exact Below.refl _ _ | with_reducible refine Below.drew ?_ | with_reducible refine below_drewN ?_ _ | with_reducible refine Below.alloc ?_ ?_ _ | with_reducible refine Below.setCell ?_ ?_ _ | (focus (simp; done)) | (focus (simp; omega)) | omega))⟩
  · rw [if_neg h] at hs
    go_enter Try.func47, Try.ntmps47
    go_wp2_with (go_at_call 96; refine (hs _).mono ?_; rintro e w1 ⟨rfl, rfl⟩)
    go_ret
    exact ⟨⟨_, rfl, by omega, by omega, by omega, by omega⟩, by (repeat (first | with_reducible exact hB | with_reducible exact Below.refl _ _ | with_reducible refine Below.drew ?_ | with_reducible refine below_drewN ?_ _ | with_reducible refine Below.alloc ?_ ?_ _ | with_reducible refine Below.setCell ?_ ?_ _ | (focus (simp; done)) | (focus (simp; omega)) | omega))⟩

set_option maxHeartbeats 2000000 in
theorem toJournal_sh (v : Value) (m : Jm) (w : World) (hR : RdJm w.heap.size w v m) (hf : fitJm m) :
    Calls Try.prog 49 #[v] w fun e w' => ∃ v', e = .returned v' ∧ InJm w.heap.size w'.heap.size w' v' m ∧ Below w.heap.size w w' := by
  obtain ⟨vl, rfl, o, c, rfl, hr⟩ := hR
  have hB : Below w.heap.size w w := Below.refl _ _
  go_enter Try.func49, Try.ntmps49
  go_wp2_with (first | (go_at_call 98; refine (toPoolCmdS_any o c m.l _ ((hr.kept (D := w.heap.size) (by (repeat (first | with_reducible exact hB | with_reducible exact Below.refl _ _ | with_reducible refine Below.drew ?_ | with_reducible refine below_drewN ?_ _ | with_reducible refine Below.alloc ?_ ?_ _ | with_reducible refine Below.setCell ?_ ?_ _ | (focus (simp; done)) | (focus (simp; omega)) | omega))) (Nat.le_refl _)).le (by (try simp) <;> omega)) hf).mono ?_; rintro e w1a ⟨g, rfl, hown, hba⟩; obtain ⟨hca, hfa⟩ := bcell hba; have hz0a : w.heap.size < w1a.heap.size := (by have hz := hba.size; (try simp at hz); omega); have hz1a : w.heap.size + 1 < w1a.heap.size := (by have hz := hba.size; (try simp at hz); omega); have hz2a : w.heap.size + 1 + 1 < w1a.heap.size := (by have hz := hba.size; (try simp at hz); omega); have hB : Below w.heap.size w w1a := (by refine Below.trans ?_ (hba.mono (by have hs := hB.size; (try simp) <;> omega)); (repeat (first | with_reducible exact hB | with_reducible exact Below.refl _ _ | with_reducible refine Below.drew ?_ | with_reducible refine below_drewN ?_ _ | with_reducible refine Below.alloc ?_ ?_ _ | with_reducible refine Below.setCell ?_ ?_ _ | (focus (simp; done)) | (focus (simp; omega)) | omega)))))
  have hown' : ownC w1a (w.heap.size + 1 + 1 + 1) (.slice (some ⟨g, 0, none⟩) m.l.length m.l.length) m.l := by simpa using hown
  clear hown hba
  refine bodyPost_ret (v := jrn m.key (.slice (some ⟨g, 0, none⟩) m.l.length m.l.length) m.safe) (by simp [results, Try.results49, go_sem, hca, hz0a, hz1a, hz2a]) rfl ⟨_, rfl, ⟨_, rfl, InRow.of ?_⟩, ?_⟩
  · refine own_mono (base := w.heap.size + 1 + 1 + 1) ?_ (by omega)
    repeat (refine ownsRow_setCell_below ?_ (by simp <;> omega) _)
    exact hown'
  · (repeat (first | with_reducible exact hB | with_reducible exact Below.refl _ _ | with_reducible refine Below.drew ?_ | with_reducible refine below_drewN ?_ _ | with_reducible refine Below.alloc ?_ ?_ _ | with_reducible refine Below.setCell ?_ ?_ _ | (focus (simp; done)) | (focus (simp; omega)) | omega))

set_option maxHeartbeats 1000000 in
theorem eqJournal_sh (v1 v2 : Value) (m : Jm) (w : World) (h1 : RdJm w.heap.size w v1 m) (h2 : RdJm w.heap.size w v2 m) (hl : m.l.length ≤ 1048576) :
    Calls Try.prog 50 #[v1, v2] w fun e w' => e = .returned (.bool true) ∧ Below w.heap.size w w' := by
  obtain ⟨vl, rfl, o, c, rfl, r1⟩ := h1
  obtain ⟨vl2, rfl, o2, c2, rfl, r2⟩ := h2
  have hB : Below w.heap.size w w := Below.refl _ _
  go_enter Try.func50, Try.ntmps50
  go_wp2_with (first | (go_at_call 99; refine (eqPoolCmdS_same o o2 c c2 m.l _ ((r1.kept (D := w.heap.size) (by (repeat (first | with_reducible exact hB | with_reducible exact Below.refl _ _ | with_reducible refine Below.drew ?_ | with_reducible refine below_drewN ?_ _ | with_reducible refine Below.alloc ?_ ?_ _ | with_reducible refine Below.setCell ?_ ?_ _ | (focus (simp; done)) | (focus (simp; omega)) | omega))) (Nat.le_refl _)).le (by (try simp) <;> omega)) ((r2.kept (D := w.heap.size) (by (repeat (first | with_reducible exact hB | with_reducible exact Below.refl _ _ | with_reducible refine Below.drew ?_ | with_reducible refine below_drewN ?_ _ | with_reducible refine Below.alloc ?_ ?_ _ | with_reducible refine Below.setCell ?_ ?_ _ | (focus (simp; done)) | (focus (simp; omega)) | omega))) (Nat.le_refl _)).le (by (try simp) <;> omega)) hl).mono ?_; rintro e w1 ⟨rfl, hb⟩; obtain ⟨hc, hf⟩ := bcell hb; have hz0 : w.heap.size < w1.heap.size := (by have hz := hb.size; (try simp at hz); omega); have hz1 : w.heap.size + 1 < w1.heap.size := (by have hz := hb.size; (try simp at hz); omega); have hB : Below w.heap.size w w1 := (by refine Below.trans ?_ (hb.mono (by have hs := hB.size; (try simp) <;> omega)); (repeat (first | with_reducible exact hB | with_reducible exact Below.refl _ _ | with_reducible refine Below.drew ?_ | with_reducible refine below_drewN ?_ _ | with_reducible refine Below.alloc ?_ ?_ _ | with_reducible refine Below.setCell ?_ ?_ _ | (focus (simp; done)) | (focus (simp; omega)) | omega)))))
  go_ret
  exact ⟨rfl, by (repeat (first | with_reducible exact hB | with_reducible exact Below.refl _ _ | with_reducible refine Below.drew ?_ | with_reducible refine below_drewN ?_ _ | with_reducible refine Below.alloc ?_ ?_ _ | with_reducible refine Below.setCell ?_ ?_ _ | (focus (simp; done)) | (focus (simp; omega)) | omega))⟩

/-- The marks of a journal. -/
def mkJm (k : Int) (m : Jm) : Jm := { m with l := mkL mkCd 3 k m.l.length }
set_option maxHeartbeats 1000000 in
theorem markJournal_sh (lo hi : Nat) (v : Value) (m : Jm) (k : Int) (w : World) (hv : InJm lo hi w v m) (h0 : 0 ≤ k) (h1 : k ≤ 1000000) (hl : m.l.length ≤ 1048576) :
    Calls Try.prog 51 #[v, .int .i64 k] w fun e w' => e = .returned (.int .i64 (k + 3 * m.l.length)) ∧ InJm lo hi w' v (mkJm k m) ∧ Stp lo hi w w' := by
  obtain ⟨vl, rfl, iv⟩ := hv
  obtain ⟨ol, cl, hle, _⟩ := InL.rd (L := layC) iv
  subst hle
  have s1 : Hid (Stp lo hi w (w.alloc (.cells #[.int .i64 m.key, .slice ol m.l.length cl, .int .i64 m.safe] 47))) := Stp.of ((Below.refl _ _).alloc (Nat.le_refl _) _)
  have i1 : Hid (InC lo hi (w.alloc (.cells #[.int .i64 m.key, .slice ol m.l.length cl, .int .i64 m.safe] 47)) (.slice ol m.l.length cl) m.l) := ⟨World.ownsRow.alloc iv.1 _, iv.2⟩
  clear iv
  go_enter Try.func51, Try.ntmps51
  go_wp2_with fail
  generalize w.alloc (.cells #[.int .i64 m.key, .slice ol m.l.length cl, .int .i64 m.safe] 47) = w1 at *
  refine (markPoolCmdS_any lo _ m.l k w1 i1.out.1 h0 (by omega) hl).mono ?_
  rintro e w2 ⟨rfl, hown, hgr⟩
  have H : Hid (InJm lo hi w2 (jrn m.key (.slice ol m.l.length cl) m.safe) (mkJm k m) ∧ Stp lo hi w w2) := ⟨⟨_, rfl, hown, i1.out.2⟩, s1.out.trans (Stp.grown hgr (fun b e => ⟨(i1.out.1.lt b e).1, i1.out.2 b e⟩))⟩
  clear hown hgr s1 i1
  go_wp2
  go_ret
  exact ⟨rfl, H.out.1, H.out.2⟩
end Go.Proofs.Ytldjaapbkihibaa
