/- Bytes turned into a string, and held against others: bytes.Equal. -/
import Derived.Laws.BytesArg
import Derived.Test.YtoeoiljddcjphaaDoorQCarriers02
namespace Go.Proofs.YtoeoiljddcjphaaDoor
open Go.ChangeShapes Go.WideShapes Go.ChangeAt Go.RowKit Go.Joins
set_option linter.unusedVariables false
set_option linter.unusedSimpArgs false

theorem run_conv {w : World} {o : Option Addr} {l : List Int} (cap : Nat) (h : Rd w o l) : (convert 22 9 (.slice o l.length cap)).run Tryd.prog w = .ok (.string (strOfNums l)) w := by
 rcases h with h | ⟨b, off, rfl, _, hc⟩
 ·subst h
  rw [run_convert_bytes_string w _ _ _ _ _ cap Tryd.underlying22 Tryd.underlying5 Tryd.underlying9]
  cases o with
  | none => simp [Conv.bytesToString, strOfNums]; rfl
  | some ad =>
   have hl : (loadCells ad ([] : List Int).length).run Tryd.prog w = .ok (([] : List Int).map (Value.int .u8)).toArray w := by
    simpa using run_loadCells_list (P := Tryd.prog) w ad [] (fun j v hj => by simp at hj)
   rw [run_bytesToString w _ _ cap [] hl, foldl_push_bytes]
   simp [strOfNums, ByteArray.empty, ByteArray.emptyWithCapacity]
   rfl
 ·exact run_convert_bytes_arg w _ _ Tryd.underlying22 Tryd.underlying5 b off _ cap l rfl hc _ Tryd.underlying9

theorem str_inj {l1 l2 : List Int} (h1 : isB l1) (h2 : isB l2) : ((strOfNums l1).toList == (strOfNums l2).toList) = decide (l1 = l2) := by
 have e : ∀ l, (strOfNums l).toList = l.map fun n => UInt8.ofNat n.toNat := fun l => by
  rw [← strOfNums_data]; exact ByteArray.toList_eq _
 rw [e, e, Bool.eq_iff_iff, beq_iff_eq, decide_eq_true_eq]
 constructor
 ·intro h
  have hlen : l1.length = l2.length := by have := congrArg List.length h; simpa using this
  apply List.ext_getElem hlen
  intro i p q
  have hi := congrArg (fun l => l[i]?) h
  simp [p, q] at hi
  have b1 := h1 _ (List.getElem_mem p)
  have b2 := h2 _ (List.getElem_mem q)
  have h3 := congrArg UInt8.toNat hi
  simp at h3
  omega
 ·intro h; rw [h]

set_option maxHeartbeats 400000 in
theorem bytesEqual_any (o1 o2 : Option Addr) (c1 c2 : Nat) (l1 l2 : List Int) (w : World) (h1 : Rd w o1 l1) (h2 : Rd w o2 l2) (b1 : isB l1) (b2 : isB l2) :
  Calls Tryd.prog 76 #[.slice o1 l1.length c1, .slice o2 l2.length c2] w fun e w' => e = .returned (.bool (decide (l1 = l2))) ∧ w = w' := by
 have k1 := run_conv c1 h1
 have k2 := run_conv c2 h2
 have HE := hide (str_inj b1 b2)
 go_enter Tryd.func76, Tryd.ntmps76
 go_wp2
 go_ret
 exact ⟨ret_bool HE.out, rfl⟩

end Go.Proofs.YtoeoiljddcjphaaDoor

