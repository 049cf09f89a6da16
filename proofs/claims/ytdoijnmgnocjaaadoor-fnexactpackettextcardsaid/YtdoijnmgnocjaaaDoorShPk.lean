/- Packets, as a shape; rows of segs in the laws' words. -/
import Derived.Test.YtdoijnmgnocjaaaDoorShB
import Derived.Test.YtdoijnmgnocjaaaDoorLPacket
import Derived.Test.YtdoijnmgnocjaaaDoorLMarkP
import Derived.Test.YtdoijnmgnocjaaaDoorSegL
import Derived.Test.YtdoijnmgnocjaaaDoorLSegs
import Derived.Test.YtdoijnmgnocjaaaDoorLMarkG
namespace Go.Proofs.YtdoijnmgnocjaaaDoor
open Go.ChangeShapes Go.WideShapes Go.ChangeAt Go.RowKit Go.Joins
set_option linter.unusedVariables false
set_option linter.unusedSimpArgs false


/-- A packet, as the model has it. -/
structure Pk where
  a : Int
  b : Int
  f : Int
  s : Int
  l : List Int
def RdPk (C : Nat) (w : World) (v : Value) (m : Pk) : Prop := ∃ vl, v = pkt m.a m.b m.f m.s vl ∧ RdV layB C w vl m.l
def InPk (lo hi : Nat) (w : World) (v : Value) (m : Pk) : Prop := ∃ vl, v = pkt m.a m.b m.f m.s vl ∧ InB lo hi w vl m.l
theorem RdPk.kept {C D : Nat} {w w' : World} {v : Value} {m : Pk} (h : RdPk C w v m) (hb : Below D w w') (hc : C ≤ D) : RdPk C w' v m := by
  obtain ⟨vl, e, h1⟩ := h
  exact ⟨vl, e, h1.kept hb hc⟩
theorem RdPk.le {C D : Nat} {w : World} {v : Value} {m : Pk} (h : RdPk C w v m) (hc : C ≤ D) : RdPk D w v m := by
  obtain ⟨vl, e, h1⟩ := h
  exact ⟨vl, e, h1.le hc⟩
theorem InPk.rd {lo hi : Nat} {w : World} {v : Value} {m : Pk} (h : InPk lo hi w v m) : RdPk hi w v m := by
  obtain ⟨vl, e, h1⟩ := h
  exact ⟨vl, e, InL.rd (L := layB) h1⟩
theorem InPk.step {a b lo hi : Nat} {w w' : World} {v : Value} {m : Pk} (h : InPk a b w v m) (s : Stp lo hi w w') (hd : hi ≤ a ∨ b ≤ lo) : InPk a b w' v m := by
  obtain ⟨vl, e, h1⟩ := h
  exact ⟨vl, e, InRow.step h1 s hd⟩
theorem RdPk.opn {C : Nat} {w : World} {v : Value} {m : Pk} (h : RdPk C w v m) : ∃ (o : Option Addr) (c : Nat), v = pkt m.a m.b m.f m.s (.slice o m.l.length c) := by
  obtain ⟨vl, e, o, c, e1, _⟩ := h
  exact ⟨o, c, by rw [e, e1]⟩
theorem RdPk.mk {w : World} {a b f s : Int} {o : Option Addr} {c : Nat} {l : List Int} (h : Rd w o l) : RdPk w.heap.size w (pkt a b f s (.slice o l.length c)) ⟨a, b, f, s, l⟩ := ⟨_, rfl, o, c, rfl, RdB_rd.2 h⟩
theorem toPacket_sh (v : Value) (m : Pk) (w : World) (hR : RdPk w.heap.size w v m) (hB8 : isB m.l) (hl : m.l.length ≤ 1048576) :
    Calls Tryd.prog 28 #[v] w fun e w' => ∃ v', e = .returned v' ∧ InPk w.heap.size w'.heap.size w' v' m ∧ Below w.heap.size w w' := by
  obtain ⟨vl, rfl, o, c, rfl, r⟩ := hR
  refine (toPacket_any m.a m.b m.f m.s o c m.l w (RdB_rd.1 r) hB8 hl).mono ?_
  rintro e w' ⟨g, rfl, ho, hb⟩
  exact ⟨_, rfl, ⟨_, rfl, InRow.of (ownB_lay.1 ho)⟩, hb⟩
theorem eqPacket_sh (v1 v2 : Value) (m : Pk) (w : World) (h1 : RdPk w.heap.size w v1 m) (h2 : RdPk w.heap.size w v2 m) (hl : m.l.length ≤ 1048576) :
    Calls Tryd.prog 30 #[v1, v2] w fun e w' => e = .returned (.bool true) ∧ Below w.heap.size w w' := by
  obtain ⟨vl, rfl, o, c, rfl, r⟩ := h1
  obtain ⟨vl, rfl, o', c', rfl, r'⟩ := h2
  exact eqPacket_same m.a m.b m.f m.s o o' c c' m.l w (RdB_rd.1 r) (RdB_rd.1 r') hl
theorem markPacket_sh (lo hi : Nat) (v : Value) (m : Pk) (k : Int) (w : World) (hv : InPk lo hi w v m) (h0 : 0 ≤ k) (h1 : k ≤ 1073741824) (hl : m.l.length ≤ 1048576) :
    Calls Tryd.prog 31 #[v, .int .i64 k] w fun e w' => e = .returned (.int .i64 (k + m.l.length)) ∧ Stp lo hi w w' := by
  obtain ⟨vl, rfl, i1⟩ := hv
  refine (markPacket_any lo m.a m.b m.f m.s vl m.l k w (ownB_lay.2 i1.1) h0 h1 hl).mono ?_
  rintro e w' ⟨rfl, _, hg⟩
  exact ⟨rfl, Stp.grown hg (fun b e => ⟨(i1.1.lt b e).1, i1.2 b e⟩)⟩
abbrev InGs := InL layG 84
theorem RdL.segs {w : World} {o : Option Addr} {l : List (Int × Int)} (h : RdL layG w.heap.size w o l) : RdG w o l := by
  rcases h with h | ⟨b, off, ho, hb, r⟩
  · exact .inl h
  · exact .inr ⟨b, off, ho, hb, fun i hi => ⟨r i hi 0 (by decide), r i hi 1 (by decide)⟩⟩
theorem eqSegS_sh (v1 v2 : Value) (l : List (Int × Int)) (w : World) (h1 : RdV layG w.heap.size w v1 l) (h2 : RdV layG w.heap.size w v2 l) (hl : l.length ≤ 1048576) :
    Calls Tryd.prog 77 #[v1, v2] w fun e w' => e = .returned (.bool true) ∧ Below w.heap.size w w' := by
  obtain ⟨o, c, rfl, r⟩ := h1
  obtain ⟨o', c', rfl, r'⟩ := h2
  exact eqSegS_same o o' c c' l w r.segs r'.segs hl
theorem markSegS_sh (lo hi : Nat) (v : Value) (l : List (Int × Int)) (k : Int) (w : World) (hv : InGs lo hi w v l) (h0 : 0 ≤ k) (h1 : k ≤ 1073741824) (hl : l.length ≤ 1048576) :
    Calls Tryd.prog 78 #[v, .int .i64 k] w fun e w' => e = .returned (.int .i64 (k + 2 * l.length)) ∧ InGs lo hi w' v (mkL mkSeg 2 k l.length) ∧ Stp lo hi w w' := by
  refine (markSegS_any lo v l k w hv.1 h0 h1 hl).mono ?_
  rintro e w' ⟨rfl, ho, hg⟩
  exact ⟨rfl, ⟨ho, hv.2⟩, Stp.grown hg (fun b e => ⟨(hv.1.lt b e).1, hv.2 b e⟩)⟩
end Go.Proofs.YtdoijnmgnocjaaaDoor
