/- The laws' marks in a packet. -/
import Derived.Test.YtoeoiljddcjphaaDoorLMark
import Derived.Test.YtoeoiljddcjphaaDoorLPacket
import Derived.Maps.AppendAt
namespace Go.Proofs.YtoeoiljddcjphaaDoor
open Go.ChangeShapes Go.WideShapes Go.ChangeAt Go.RowKit Go.Joins
set_option linter.unusedVariables false
set_option linter.unusedSimpArgs false

set_option maxHeartbeats 1000000 in
theorem markPacket_any (base : Nat) (a b f s : Int) (v : Value) (l : List Int) (k : Int) (w : World) (hv : ownB w base v l) (h0 : 0 ≤ k) (h1 : k ≤ 1073741824) (hlen : l.length ≤ 1048576) :
    Calls Tryd.prog 52 #[pkt a b f s v, .int .i64 k] w fun e w' => e = .returned (.int .i64 (k + l.length)) ∧ ownB w' base v (markL k l.length) ∧ w.grownBy w' v.ownBlock := by
  have hv1 := fun o => World.ownsRow.alloc hv o
  have HA := hide (fun o => World.grownBy_alloc w o v.ownBlock)
  have HV := hide hv1
  clear hv1 hv
  go_enter Tryd.func52, Tryd.ntmps52
  go_wp2_with fail
  refine (markByteS_any base v l k _ (HV.out _) h0 h1 hlen).mono ?_
  rintro e w1 ⟨rfl, hown, hgr⟩
  have HO := hide hown
  have HG := hide ((HA.out _).trans hgr)
  clear hown hgr HV HA
  go_wp2
  go_ret
  exact ⟨rfl, HO.out, HG.out⟩

end Go.Proofs.YtoeoiljddcjphaaDoor
