/- The laws' little look at wires: it answers true. -/
import Derived.Test.YtdoijnmgnocjaaaDoorSRead2
namespace Go.Proofs.YtdoijnmgnocjaaaDoor
open Go.ChangeShapes Go.WideShapes Go.ChangeAt Go.RowKit Go.Joins
set_option linter.unusedVariables false
set_option linter.unusedSimpArgs false

def wireL : List Int := [0, 1, 0, 80, 0, 7, 1, 0, 254, 167]
theorem wire_ok : packetOkB 1 80 1 7 ([] : List Int).length = true := by decide +kernel
theorem wire_bytes : bytesL 1 80 1 7 [] = wireL := by decide +kernel
theorem wire_read : okR wireL = true ∧ rdN wireL (pairLS wireL 4) = 7 ∧ sumL wireL = 0 := by decide +kernel

set_option maxHeartbeats 2000000 in
theorem wires_any (w : World) : Calls Tryd.prog 17 #[] w fun e w' => e = .returned (.bool true) ∧ Below w.heap.size w w' := by
  have hB : Below w.heap.size w w := Below.refl _ _
  have hpb := hide (fun w => implPacketBytes_any 1 80 1 7 none 0 [] w (.inl rfl) (fun _ => rfl) (fun x hx => by cases hx) (Nat.zero_le _))
  rw [wire_ok, wire_bytes] at hpb
  have hb8 : isB wireL := by intro n hn; simp [wireL] at hn; omega
  have hrd := hide (fun w o cap h hc hm => implPacketRead_any o cap wireL w h hb8 (by decide) hc hm)
  unfold readPost at hrd
  rw [wire_read.1, wire_read.2.1] at hrd
  have hcs := hide (fun w o cap h => implCheckSum_any o cap wireL w h hb8 (by decide))
  rw [wire_read.2.2] at hcs
  go_enter Tryd.func17, Tryd.ntmps17
  go_wp2_with fail
  refine (hpb.out _).mono ?_
  rintro e wa ⟨va, rfl, hova, hba⟩
  obtain ⟨oa, ca, hva, hRa⟩ := hova.open
  have hca : wireL.length ≤ ca ∧ ca ≤ maxLen := by
    rcases hova.2 with ⟨_, h2⟩ | ⟨g, c, cur, h1, _, _, h4, h5, _⟩
    · simp [wireL] at h2
    · rw [hva] at h1; simp at h1; omega
  rw [hva]
  have hRa' := hide hRa
  have hl10 : wireL.length = 10 := rfl
  generalize hW : wireL.length = n10 at *
  subst hl10
  clear hova hva hRa
  go_wp2_with fail
  refine (hrd.out _ _ _ hRa'.out hca.1 hca.2).mono ?_
  rintro e wb ⟨vb, rfl, hovb, hbb⟩
  obtain ⟨ob, cb, hvb, _⟩ := hovb.open
  rw [hvb]
  generalize rdN wireL (pairLS wireL 0) = r0
  generalize rdN wireL (pairLS wireL 2) = r1
  generalize rdN wireL (wireL.getD 6 0) = r2
  generalize (rdL wireL).length = r3
  have hBb : Below w.heap.size w wb := hba.trans (hbb.mono hba.size)
  have hsb : w.heap.size ≤ wb.heap.size := hBb.size
  have hRb := hide (hRa'.out.kept hbb)
  clear hovb hvb
  go_wp2_with fail
  refine (hcs.out _ _ _ (hRb.out.kept ((Below.refl _ _).alloc (Nat.le_refl _) _))).mono ?_
  rintro e wc ⟨rfl, rfl⟩
  go_wp2
  go_ret
  exact ⟨rfl, hBb.alloc hsb _⟩

end Go.Proofs.YtdoijnmgnocjaaaDoor
