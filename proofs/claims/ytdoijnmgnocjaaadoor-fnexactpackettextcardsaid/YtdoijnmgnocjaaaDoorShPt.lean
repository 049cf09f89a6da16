/- Packets as a shape, for the law of their text. -/
import Derived.Test.YtdoijnmgnocjaaaDoorShPk
import Derived.Test.YtdoijnmgnocjaaaDoorSText2
namespace Go.Proofs.YtdoijnmgnocjaaaDoor
open Go.ChangeShapes Go.WideShapes Go.ChangeAt Go.RowKit Go.Joins
set_option linter.unusedVariables false
set_option linter.unusedSimpArgs false


def fitPk (m : Pk) : Prop := m.l.length ≤ 1048576 ∧ isB m.l
theorem InPk.cap {lo hi : Nat} {w : World} {v : Value} {m : Pk} (h : InPk lo hi w v m) : True := trivial
theorem szPacket_sh (v : Value) (m : Pk) (C : Nat) (w : World) (hR : RdPk C w v m) (hl : m.l.length ≤ maxLen) :
    Calls Tryd.prog 26 #[v, .int .i64 1048576] w fun e w' => (∃ n : Int, e = .returned (.int .i64 n) ∧ (m.l.length ≤ 1048576 → 0 ≤ n) ∧ (¬ m.l.length ≤ 1048576 → n < 0) ∧ -1 ≤ n ∧ n ≤ 1048576) ∧ Below w.heap.size w w' := by
  obtain ⟨vl, rfl, o, c, rfl, _⟩ := hR
  refine (szPacket_any m.a m.b m.f m.s o m.l.length c 1048576 w hl (by decide) (by decide)).mono ?_
  rintro e w' ⟨rfl, hb⟩
  refine ⟨⟨_, rfl, ?_, ?_, ?_, ?_⟩, hb⟩
  · intro h; split <;> omega
  · intro h; split <;> omega
  · split <;> omega
  · split <;> omega
theorem toPacket_shf (v : Value) (m : Pk) (w : World) (hR : RdPk w.heap.size w v m) (hf : fitPk m) :
    Calls Tryd.prog 28 #[v] w fun e w' => ∃ v', e = .returned v' ∧ InPk w.heap.size w'.heap.size w' v' m ∧ Below w.heap.size w w' := toPacket_sh v m w hR hf.2 hf.1
theorem markPacket_shf (lo hi : Nat) (v : Value) (m : Pk) (k : Int) (w : World) (hv : InPk lo hi w v m) (h0 : 0 ≤ k) (h1 : k ≤ 1073741824) (hl : m.l.length ≤ 1048576) :
    Calls Tryd.prog 31 #[v, .int .i64 k] w fun e w' => e = .returned (.int .i64 (k + m.l.length)) ∧ True ∧ Stp lo hi w w' :=
  (markPacket_sh lo hi v m k w hv h0 h1 hl).mono fun _ _ h => ⟨h.1, trivial, h.2⟩
theorem pktT_len (a b f s : Int) (n : Nat) : (pktT a b f s n).length ≤ 300000 := by
  cases h : packetOkB a b f s n with
  | false => rw [pktT_no h]; simp
  | true =>
    obtain ⟨a', b', s', _, _, _, _, _, ha, hb, hs, hn, e⟩ := pktT_yes h
    have := pktTL_len a' b' f s' n
    rw [e]; omega
theorem specPacketText_sh (v : Value) (m : Pk) (w : World) (hR : RdPk w.heap.size w v m) (hf : fitPk m) :
    Calls Tryd.prog 27 #[v] w fun e w' => ∃ v', e = .returned v' ∧ InB w.heap.size w'.heap.size w' v' (pktT m.a m.b m.f m.s m.l.length) ∧ Below w.heap.size w w' := by
  obtain ⟨vl, rfl, o, c, rfl, _⟩ := hR
  refine (specPacketText_any w.heap.size m.a m.b m.f m.s o m.l.length c w (by have := hf.1; unfold maxLen; omega) (Nat.le_refl _)).mono ?_
  rintro e w' ⟨v', rfl, ho, st⟩
  exact ⟨v', rfl, InB.of ho, st.bel⟩
theorem implPacketText_sh (v : Value) (m : Pk) (w : World) (hR : RdPk w.heap.size w v m) (hf : fitPk m) (hT : Tab w.heap.size w) :
    Calls Tryd.prog 11 #[v] w fun e w' => ∃ v', e = .returned v' ∧ InB w.heap.size w'.heap.size w' v' (pktT m.a m.b m.f m.s m.l.length) ∧ Below w.heap.size w w' := by
  obtain ⟨vl, rfl, o, c, rfl, _⟩ := hR
  refine (implPacketText_any w.heap.size m.a m.b m.f m.s o m.l.length c w (by have := hf.1; unfold maxLen; omega) (Nat.le_refl _) hT).mono ?_
  rintro e w' ⟨v', rfl, ho, st⟩
  exact ⟨v', rfl, InB.of ho, st.bel⟩

end Go.Proofs.YtdoijnmgnocjaaaDoor
