/- The program's side of chapter 5: TableOk. -/
import Derived.Test.YtiijecnhbioehaaSCell3
import Derived.Test.YtiijecnhbioehaaSTabS2
namespace Go.Proofs.Ytiijecnhbioehaa
open Go.ChangeShapes Go.WideShapes Go.ChangeAt Go.RowKit Go.Joins
set_option linter.unusedVariables false
set_option linter.unusedSimpArgs false

set_option maxHeartbeats 1000000 in
theorem implTableOk_any (o : Option Addr) (c : Nat) (l : List Sl) (w : World) (hR : RdS w.heap.size w o l) (hl : l.length ≤ 1048576) :
    Calls Try.prog 23 #[tab (.slice o l.length c)] w fun e w' => e = .returned (.bool (tableOkB l)) ∧ Below w.heap.size w w' := by
  obtain ⟨W0, hW0⟩ : ∃ W, w.alloc (.cells #[.slice o l.length c] 25) = W := ⟨_, rfl⟩
  have h0 : Below w.heap.size w W0 := by rw [← hW0]; exact (Below.refl _ _).alloc (Nat.le_refl _) _
  have c0 : W0.cell? ⟨w.heap.size, 0, none⟩ = some (.slice o l.length c) := by rw [← hW0]; simp [go_sem]
  have hc := tableFrom_any o c l W0 ((hR.kept h0 (Nat.le_refl _)).le h0.size) hl
  have H0 := hide h0
  clear h0
  go_enter Try.func23, Try.ntmps23
  go_wp2_with fail
  refine hc.mono ?_
  rintro e w1 ⟨o', n', c', rfl, hv, hb⟩
  have H1 := hide (H0.out.trans (hb.mono H0.out.size))
  clear hc hv hb
  go_wp2
  go_ret
  exact ⟨rfl, H1.out.alloc H1.out.size _⟩

theorem specTableOk_sh (v : Value) (m : List Sl) (w : World) (hR : RdT w.heap.size w v m) (hc : capT v) (hf : m.length ≤ 1048576) :
    Calls Try.prog 29 #[v] w fun e w' => e = .returned (.bool (tableOkB m)) ∧ Below w.heap.size w w' := by
  obtain ⟨vl, rfl, o, c, rfl, r⟩ := hR
  exact specTableOk_any o c m w r hf
theorem implTableOk_sh (v : Value) (m : List Sl) (w : World) (hR : RdT w.heap.size w v m) (hc : capT v) (hf : m.length ≤ 1048576) :
    Calls Try.prog 23 #[v] w fun e w' => e = .returned (.bool (tableOkB m)) ∧ Below w.heap.size w w' := by
  obtain ⟨vl, rfl, o, c, rfl, r⟩ := hR
  exact implTableOk_any o c m w r hf

end Go.Proofs.Ytiijecnhbioehaa
