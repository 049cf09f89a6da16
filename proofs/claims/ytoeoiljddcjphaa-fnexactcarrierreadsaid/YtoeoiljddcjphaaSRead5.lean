/- PacketRead of the model, for every list of bytes. -/
import Derived.Test.YtoeoiljddcjphaaSRead3
import Derived.Test.YtoeoiljddcjphaaSRead4
namespace Go.Proofs.Ytoeoiljddcjphaa
open Go.ChangeShapes Go.WideShapes Go.ChangeAt Go.RowKit Go.Joins
set_option linter.unusedVariables false
set_option linter.unusedSimpArgs false

set_option maxRecDepth 100000 in
set_option maxHeartbeats 1000000 in
theorem specPacketRead_any (o : Option Addr) (cap : Nat) (L : List Int) (w : World) (hR : Rd w o L) (hB8 : isB L) (hlen : L.length ≤ 1048576) (hcap : L.length ≤ cap) (hcm : cap ≤ maxLen) :
    Calls Try.prog 42 #[.slice o L.length cap] w fun e w' => readPost L w e w' := by
  have hB : Below w.heap.size w w := Below.refl _ _
  by_cases h10 : 10 ≤ L.length
  · have hR0 := hR
    rcases hR with hR | ⟨b, off, rfl, hbl, hcell⟩
    · subst hR; simp at h10
    by_cases h7 : (L.length : Int) = 10 + L.getD 7 0
    · by_cases hc : cap = 10
      · exact specPacketRead_at10 b off cap L.length L rfl w hR0 hbl hcell hB8 h10 hlen hcap hcm h7 hc
      · exact specPacketRead_gt10 b off cap L.length L rfl w hR0 hbl hcell hB8 h10 hlen hcap hcm h7 hc
    · have HN : Hid (okR L = false) := by
        unfold Hid; rw [Bool.eq_false_iff]; intro h
        have q := okR_iff.1 h
        have e := packetL_get7 (pairLS L 0) (pairLS L 2) (L.getD 6 0) (pairLS L 4) (L.drop 10)
        rw [q.2.2.1] at e
        simp only [List.length_drop] at e
        apply h7; rw [e]; omega
      have c7 := hcell 7 (by omega)
      have b7 := hB8.get 7
      have hi7 : (7 : Int) < (L.length : Int) := by omega
      have hi10 : ¬ (L.length : Int) < 10 := by omega
      generalize L.getD 7 0 = x7 at *
      have hne : ((L.length : Int) != 10 + x7) = true := by simp [h7]
      clear hcell h7 hR0
      go_enter Try.func42, Try.ntmps42
      go_wp2
      refine bodyPost_ret (v := .tuple #[pkt 0 0 0 0 (.slice none 0 0), .bool false]) (by simp [results, Try.results42, go_sem]) rfl (readPost_no HN.out (by (repeat (first | with_reducible exact hB | with_reducible exact Below.refl _ _ | with_reducible refine Below.drew ?_ | with_reducible refine below_drewN ?_ _ | with_reducible refine Below.alloc ?_ ?_ _ | with_reducible refine Below.setCell ?_ ?_ _ | (focus (simp; done)) | (focus (simp; omega)) | omega))))
  · have HN : Hid (okR L = false) := by
      unfold Hid; rw [Bool.eq_false_iff]; intro h; exact h10 (okR_iff.1 h).1
    go_enter Try.func42, Try.ntmps42
    go_wp2
    refine bodyPost_ret (v := .tuple #[pkt 0 0 0 0 (.slice none 0 0), .bool false]) (by simp [results, Try.results42, go_sem]) rfl (readPost_no HN.out (by (repeat (first | with_reducible exact hB | with_reducible exact Below.refl _ _ | with_reducible refine Below.drew ?_ | with_reducible refine below_drewN ?_ _ | with_reducible refine Below.alloc ?_ ?_ _ | with_reducible refine Below.setCell ?_ ?_ _ | (focus (simp; done)) | (focus (simp; omega)) | omega))))

end Go.Proofs.Ytoeoiljddcjphaa
