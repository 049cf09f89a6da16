/- Agents, as a shape: how they read, what owns its memory. -/
import Derived.Test.YtmkgbmmibjgeaaaGreatGrShT
import Derived.Lib.SmallJoins
namespace Go.Proofs.YtmkgbmmibjgeaaaGreat
open Go.ChangeShapes Go.WideShapes Go.ChangeAt Go.RowKit Go.Joins
set_option linter.unusedVariables false
set_option linter.unusedSimpArgs false

theorem stp_set1 (W : World) (B j : Nat) (v : Value) : Stp B (B + 1) W (W.setCell ⟨B, j, none⟩ v) := by
  have h := (Below.refl B W).setCell (p := ⟨B, j, none⟩) (Nat.le_refl _) v
  exact ⟨h.os, h.tape, h.output, h.size, fun k hk hn => Below.heap_setCell W ⟨B, j, none⟩ v k (by simp; omega)⟩
theorem stp_set5v (W : World) (B : Nat) (a b c d e : Value) : Stp B (B + 1) W (((((W.setCell ⟨B, 0, none⟩ a).setCell ⟨B, 1, none⟩ b).setCell ⟨B, 2, none⟩ c).setCell ⟨B, 3, none⟩ d).setCell ⟨B, 4, none⟩ e) :=
  ((((stp_set1 W B 0 a).trans (stp_set1 _ B 1 b)).trans (stp_set1 _ B 2 c)).trans (stp_set1 _ B 3 d)).trans (stp_set1 _ B 4 e)
theorem below_set5v {w W : World} {C B : Nat} (h : Below C w W) (hC : C ≤ B) (a b c d e : Value) : Below C w (((((W.setCell ⟨B, 0, none⟩ a).setCell ⟨B, 1, none⟩ b).setCell ⟨B, 2, none⟩ c).setCell ⟨B, 3, none⟩ d).setCell ⟨B, 4, none⟩ e) :=
  ((((h.setCell (p := ⟨B, 0, none⟩) hC a).setCell (p := ⟨B, 1, none⟩) hC b).setCell (p := ⟨B, 2, none⟩) hC c).setCell (p := ⟨B, 3, none⟩) hC d).setCell (p := ⟨B, 4, none⟩) hC e
theorem set5v_cell {W : World} {B k j : Nat} {u a b c d e : Value} (h : W.cell? ⟨k, j, none⟩ = some u) (hk : k < B) : (((((W.setCell ⟨B, 0, none⟩ a).setCell ⟨B, 1, none⟩ b).setCell ⟨B, 2, none⟩ c).setCell ⟨B, 3, none⟩ d).setCell ⟨B, 4, none⟩ e).cell? ⟨k, j, none⟩ = some u :=
  ((below_set5v (Below.refl B W) (Nat.le_refl _) a b c d e).cell (p := ⟨k, j, none⟩) hk).trans h
theorem set5v_size (W : World) (B : Nat) (a b c d e : Value) : (((((W.setCell ⟨B, 0, none⟩ a).setCell ⟨B, 1, none⟩ b).setCell ⟨B, 2, none⟩ c).setCell ⟨B, 3, none⟩ d).setCell ⟨B, 4, none⟩ e).heap.size = W.heap.size := by simp

structure Am where
  id : Int
  lim : Int
  dr : Bool
  c : List Sl
  t : List Sl
abbrev agt (i l : Int) (d : Bool) (vc vt : Value) : Value := .agg #[.int .i64 i, .int .i64 l, .bool d, vc, vt]
def RdA (C : Nat) (w : World) (v : Value) (m : Am) : Prop := ∃ vc vt, v = agt m.id m.lim m.dr vc vt ∧ RdV layS C w vc m.c ∧ RdV layS C w vt m.t
def InA (lo hi : Nat) (w : World) (v : Value) (m : Am) : Prop := ∃ vc vt mid, v = agt m.id m.lim m.dr vc vt ∧ InS lo mid w vc m.c ∧ InS mid hi w vt m.t ∧ lo ≤ mid ∧ mid ≤ hi
theorem RdA.kept {C D : Nat} {w w' : World} {v : Value} {m : Am} (h : RdA C w v m) (hb : Below D w w') (hc : C ≤ D) : RdA C w' v m := by
  obtain ⟨vc, vt, e, h1, h2⟩ := h
  exact ⟨vc, vt, e, h1.kept hb hc, h2.kept hb hc⟩
theorem RdA.le {C D : Nat} {w : World} {v : Value} {m : Am} (h : RdA C w v m) (hc : C ≤ D) : RdA D w v m := by
  obtain ⟨vc, vt, e, h1, h2⟩ := h
  exact ⟨vc, vt, e, h1.le hc, h2.le hc⟩
theorem InA.rd {lo hi : Nat} {w : World} {v : Value} {m : Am} (h : InA lo hi w v m) : RdA hi w v m := by
  obtain ⟨vc, vt, mid, e, h1, h2, h3, h4⟩ := h
  exact ⟨vc, vt, e, (InL.rd (L := layS) h1).le h4, InL.rd (L := layS) h2⟩
theorem InA.step {a b lo hi : Nat} {w w' : World} {v : Value} {m : Am} (h : InA a b w v m) (s : Stp lo hi w w') (hd : hi ≤ a ∨ b ≤ lo) : InA a b w' v m := by
  obtain ⟨vc, vt, mid, e, h1, h2, h3, h4⟩ := h
  exact ⟨vc, vt, mid, e, InRow.step h1 s (by omega), InRow.step h2 s (by omega), h3, h4⟩
theorem InA.mono {a b a' b' : Nat} {w : World} {v : Value} {m : Am} (h : InA a b w v m) (h1 : a' ≤ a) (h2 : b ≤ b') : InA a' b' w v m := by
  obtain ⟨vc, vt, mid, e, i1, i2, h3, h4⟩ := h
  exact ⟨vc, vt, mid, e, InRow.mono i1 h1 (Nat.le_refl _), InRow.mono i2 (Nat.le_refl _) h2, Nat.le_trans h1 h3, Nat.le_trans h4 h2⟩

theorem array5a {α : Type} {cs : Array α} (h : cs.size = 5) : ∃ c0 c1 c2 c3 c4, cs = #[c0, c1, c2, c3, c4] := by
  obtain ⟨l⟩ := cs
  match l, h with
  | [c0, c1, c2, c3, c4], _ => exact ⟨c0, c1, c2, c3, c4, rfl⟩
theorem cellsLawsAgent : Tryz.prog.cellsOf 26 = 5 := by kernel_rfl
theorem cellsInt1a : Tryz.prog.cellsOf 3 = 1 := by kernel_rfl
theorem cellsBool1a : Tryz.prog.cellsOf 4 = 1 := by kernel_rfl
set_option maxRecDepth 100000 in
theorem open_agent {H : Type} {enc : TypeId × Value → H} {W : World} {base : Nat} {v : Value} {d : DataW H} {p : List MemPlace}
    (hv : Value.okWide Tryz.prog W .any base 26 v) (h : DataW.Trod enc Tryz.prog W 0 (fun _ => true) true 26 v d p) :
    ∃ (m : Am), RdA W.heap.size W v m ∧ m.c.length ≤ maxLen ∧ m.t.length ≤ maxLen := by
  obtain ⟨cs, rfl, hsz⟩ := okWide_struct Tryz.underlying26 hv
  obtain ⟨c0, c1, c2, c3, c4, rfl⟩ := array5a (hsz.trans cellsLawsAgent)
  obtain ⟨fuel, hf⟩ := h
  obtain ⟨xs, n, _, _, hl, hlen, hf⟩ := DataW.trod_struct Tryz.underlying26 hf
  match xs, hlen with
  | [y0, y1, y2, y3, y4], _ =>
    have h0 := hf 0 _ rfl
    have h1 := hf 1 _ rfl
    have h2 := hf 2 _ rfl
    have h3 := hf 3 _ rfl
    have h4 := hf 4 _ rfl
    simp [Value.cells, cellsInt1a, cellsBool1a, cellsLawsT] at h0 h1 h2 h3 h4
    obtain ⟨a, e0, _, _⟩ := DataW.trod_int Tryz.underlying3 h0
    obtain ⟨b, e1, _, _⟩ := DataW.trod_int Tryz.underlying3 h1
    obtain ⟨c, e2, _⟩ := DataW.trod_bool Tryz.underlying4 h2
    obtain ⟨o, cap, l, e3, r3⟩ := open_table_cells rfl h3
    obtain ⟨o', cap', l', e4, r4⟩ := open_table_cells rfl h4
    simp at e0 e1 e2 e3 e4
    subst e0 e1 e2 e3 e4
    exact ⟨⟨a, b, c, l, l'⟩, ⟨_, _, rfl, ⟨o, cap, rfl, r3.2⟩, ⟨o', cap', rfl, r4.2⟩⟩, r3.1, r4.1⟩

end Go.Proofs.YtmkgbmmibjgeaaaGreat
