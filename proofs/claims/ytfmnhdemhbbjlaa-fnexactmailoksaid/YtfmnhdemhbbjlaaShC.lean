/- What is carried, as a shape: how it reads, what owns its memory, and the laws' own helpers over it. -/
import Derived.Test.YtfmnhdemhbbjlaaShB
import Derived.Test.YtfmnhdemhbbjlaaSNext3
import Derived.Test.YtfmnhdemhbbjlaaLMarkP
import Derived.Test.YtfmnhdemhbbjlaaLMarkG
namespace Go.Proofs.Ytfmnhdemhbbjlaa
open Go.ChangeShapes Go.WideShapes Go.ChangeAt Go.RowKit Go.Joins
set_option linter.unusedVariables false
set_option linter.unusedSimpArgs false

abbrev InG := InL layG 111
theorem InG.of {w : World} {base : Nat} {v : Value} {l : List (Int × Int)} (h : ownG w base v l) : InG base w.heap.size w v l := InRow.of (ownG_lay.1 h)
theorem RdG_rd {w : World} {o : Option Addr} {l : List (Int × Int)} : RdL layG w.heap.size w o l ↔ RdG w o l := by
  constructor
  · rintro (h | ⟨b, off, ho, hb, r⟩)
    · exact .inl h
    · exact .inr ⟨b, off, ho, hb, fun i hi => ⟨r i hi 0 (by decide), r i hi 1 (by decide)⟩⟩
  · exact RdG.lay
def RdCm (C : Nat) (w : World) (v : Value) (m : Cm) : Prop := ∃ vl vg, v = crr m.a m.b m.f m.s vl vg m.pl m.st ∧ RdV layB C w vl m.l ∧ RdV layG C w vg m.g
def InCm (lo hi : Nat) (w : World) (v : Value) (m : Cm) : Prop := ∃ vl vg, v = crr m.a m.b m.f m.s vl vg m.pl m.st ∧ InB lo hi w vl m.l ∧ InG lo hi w vg m.g
theorem RdCm.kept {C D : Nat} {w w' : World} {v : Value} {m : Cm} (h : RdCm C w v m) (hb : Below D w w') (hc : C ≤ D) : RdCm C w' v m := by
  obtain ⟨vl, vg, e, h1, h2⟩ := h
  exact ⟨vl, vg, e, h1.kept hb hc, h2.kept hb hc⟩
theorem RdCm.le {C D : Nat} {w : World} {v : Value} {m : Cm} (h : RdCm C w v m) (hc : C ≤ D) : RdCm D w v m := by
  obtain ⟨vl, vg, e, h1, h2⟩ := h
  exact ⟨vl, vg, e, h1.le hc, h2.le hc⟩
theorem InCm.rd {lo hi : Nat} {w : World} {v : Value} {m : Cm} (h : InCm lo hi w v m) : RdCm hi w v m := by
  obtain ⟨vl, vg, e, h1, h2⟩ := h
  exact ⟨vl, vg, e, h1.rd, h2.rd⟩
theorem InCm.step {a b lo hi : Nat} {w w' : World} {v : Value} {m : Cm} (h : InCm a b w v m) (s : Stp lo hi w w') (hd : hi ≤ a ∨ b ≤ lo) : InCm a b w' v m := by
  obtain ⟨vl, vg, e, h1, h2⟩ := h
  exact ⟨vl, vg, e, h1.step s hd, h2.step s hd⟩
theorem InCm.mono {lo hi lo' hi' : Nat} {w : World} {v : Value} {m : Cm} (h : InCm lo hi w v m) (h1 : lo' ≤ lo) (h2 : hi ≤ hi') : InCm lo' hi' w v m := by
  obtain ⟨vl, vg, e, q1, q2⟩ := h
  exact ⟨vl, vg, e, q1.mono h1 h2, q2.mono h1 h2⟩
theorem InCm.of {w : World} {base : Nat} {v : Value} {m : Cm} (h : ownCm w base v m) : InCm base w.heap.size w v m := by
  obtain ⟨vl, vg, e, h1, h2⟩ := h
  exact ⟨vl, vg, e, InB.of h1, InG.of h2⟩
/-- Its lists of nothing have no room. -/
def capCm (v : Value) : Prop := ∃ a b f s vl vg pl st, v = crr a b f s vl vg pl st ∧ capV vl ∧ capV vg
theorem InCm.cap {lo hi : Nat} {w : World} {v : Value} {m : Cm} (h : InCm lo hi w v m) : capCm v := by
  obtain ⟨vl, vg, e, h1, h2⟩ := h
  exact ⟨_, _, _, _, vl, vg, _, _, e, InRow.cap h1, InRow.cap h2⟩
theorem capCm.two {a b f s : Int} {o og : Option Addr} {n c ng cg : Nat} {pl st : Int} (h : capCm (crr a b f s (.slice o n c) (.slice og ng cg) pl st)) : (o = none → c = 0) ∧ (og = none → cg = 0) := by
  obtain ⟨a', b', f', s', vl, vg, pl', st', e, h1, h2⟩ := h
  injection e with e
  simp at e
  obtain ⟨_, _, _, _, e5, e6, _, _⟩ := e
  exact ⟨fun h => h1 n c (by rw [← e5, h]), fun h => h2 ng cg (by rw [← e6, h])⟩
/-- It is not too great, and its bytes are bytes. -/
def fitCm (m : Cm) : Prop := m.l.length + m.g.length ≤ 1048576 ∧ isB m.l

theorem szCarrier_sh (v : Value) (m : Cm) (C : Nat) (w : World) (hR : RdCm C w v m) (hl : m.l.length ≤ maxLen) (hg : m.g.length ≤ maxLen) :
    Calls Try.prog 29 #[v, .int .i64 1048576] w fun e w' => (∃ n : Int, e = .returned (.int .i64 n) ∧ (m.l.length + m.g.length ≤ 1048576 → 0 ≤ n) ∧ (¬ m.l.length + m.g.length ≤ 1048576 → n < 0) ∧ -1 ≤ n ∧ n ≤ 1048576) ∧ Below w.heap.size w w' := by
  obtain ⟨vl, vg, rfl, ⟨o, c, rfl, _⟩, ⟨og, cg, rfl, _⟩⟩ := hR
  refine (szCarrier_any m.a m.b m.f m.s o og m.l.length c m.g.length cg m.pl m.st 1048576 w hl hg (by decide) (by decide)).mono ?_
  rintro e w' ⟨rfl, hb⟩
  refine ⟨⟨_, rfl, ?_, ?_, ?_, ?_⟩, hb⟩
  · intro h; split <;> omega
  · intro h; split <;> omega
  · split <;> omega
  · split <;> omega
theorem toCarrier_sh (v : Value) (m : Cm) (w : World) (hR : RdCm w.heap.size w v m) (hf : fitCm m) :
    Calls Try.prog 32 #[v] w fun e w' => ∃ v', e = .returned v' ∧ InCm w.heap.size w'.heap.size w' v' m ∧ Below w.heap.size w w' := by
  obtain ⟨vl, vg, rfl, ⟨o, c, rfl, r⟩, ⟨og, cg, rfl, rg⟩⟩ := hR
  have h1 := hf.1
  refine (toCarrier_any m.a m.b m.f m.s o og c cg m.l m.g m.pl m.st w (RdB_rd.1 r) hf.2 (by omega) (RdG_rd.1 rg) (by omega)).mono ?_
  rintro e w' ⟨k, kg, rfl, h1, h2, _, hb⟩
  exact ⟨_, rfl, ⟨_, _, rfl, InB.of h1, InG.of h2⟩, hb⟩
theorem eqCarrier_sh (v1 v2 : Value) (m : Cm) (w : World) (h1 : RdCm w.heap.size w v1 m) (h2 : RdCm w.heap.size w v2 m) (hl : m.l.length ≤ 1048576) (hg : m.g.length ≤ 1048576) :
    Calls Try.prog 38 #[v1, v2] w fun e w' => e = .returned (.bool true) ∧ Below w.heap.size w w' := by
  obtain ⟨vl, vg, rfl, ⟨o, c, rfl, r⟩, ⟨og, cg, rfl, rg⟩⟩ := h1
  obtain ⟨vl2, vg2, rfl, ⟨o2, c2, rfl, r2⟩, ⟨og2, cg2, rfl, rg2⟩⟩ := h2
  exact eqCarrier_same m.a m.b m.f m.s o o2 og og2 c c2 cg cg2 m.l m.g m.pl m.st w (RdB_rd.1 r) (RdB_rd.1 r2) hl (RdG_rd.1 rg) (RdG_rd.1 rg2) hg

/-- The marks of a carrier. -/
def mkCm (k : Int) (m : Cm) : Cm := { m with l := markL k m.l.length, g := mkL mkSeg 2 (k + m.l.length) m.g.length }
theorem u8Seg : (5 : TypeId) ≠ 111 := by decide

end Go.Proofs.Ytfmnhdemhbbjlaa
