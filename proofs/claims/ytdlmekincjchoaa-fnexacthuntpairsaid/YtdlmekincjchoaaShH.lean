/- HuntPair, in the words of shapes. -/
import Derived.Test.YtdlmekincjchoaaSHunt2
import Derived.Test.YtdlmekincjchoaaShI
namespace Go.Proofs.Ytdlmekincjchoaa
open Go.ChangeShapes Go.WideShapes Go.ChangeAt Go.RowKit Go.Joins
set_option linter.unusedVariables false
set_option linter.unusedSimpArgs false

set_option maxRecDepth 100000 in
set_option maxHeartbeats 1000000 in
theorem implHunt_no (a b f s : Int) (o og : Option Addr) (len cap cg : Nat) (g : List (Int × Int)) (pl st : Int) (w : World) (hl : len ≤ maxLen) (hgl : g.length ≤ 1048576) (hG : RdG w og g) (hok : carrierOkB a b f s len g pl st = false) :
    Calls Try.prog 18 #[crr a b f s (.slice o len cap) (.slice og g.length cg) pl st] w fun e w' => e = .returned (.slice none 0 0) ∧ Below w.heap.size w w' := by
  have hb0 : Below w.heap.size w (w.alloc (.cells #[.int .i64 a, .int .i64 b, .int .i64 f, .int .i64 s, .slice o len cap, .slice og g.length cg, .int .i64 pl, .int .i64 st] 33)) := (Below.refl _ _).alloc (Nat.le_refl _) _
  have hc := implCarrierOk_any a b f s o og len cap cg g pl st (w.alloc (.cells #[.int .i64 a, .int .i64 b, .int .i64 f, .int .i64 s, .slice o len cap, .slice og g.length cg, .int .i64 pl, .int .i64 st] 33)) hl (by unfold maxLen; omega) (hG.kept hb0)
  rw [hok] at hc
  have Hb := hide hb0
  clear hb0
  go_enter Try.func18, Try.ntmps18
  go_wp2_with fail
  generalize (w.alloc (.cells #[.int .i64 a, .int .i64 b, .int .i64 f, .int .i64 s, .slice o len cap, .slice og g.length cg, .int .i64 pl, .int .i64 st] 33)) = w0 at *
  refine hc.mono ?_
  rintro e w1 ⟨rfl, hb1⟩
  have HB := hide (Hb.out.trans (hb1.mono Hb.out.size))
  clear hb1 hc Hb
  go_wp2
  go_ret
  exact ⟨rfl, HB.out⟩
theorem huntM_fit {m : Cm} (hf : fitCm m) : (huntM m).length ≤ 1048576 := by
  have h := hf.1
  unfold huntM
  split
  · exact Nat.le_trans (huntTo_len _ _) (by omega)
  · decide
theorem specHunt_sh (v : Value) (m : Cm) (w : World) (hR : RdCm w.heap.size w v m) (hc : capCm v) (hf : fitCm m) :
    Calls Try.prog 39 #[v] w fun e w' => ∃ v', e = .returned v' ∧ InI w.heap.size w'.heap.size w' v' (huntM m) ∧ Below w.heap.size w w' := by
  obtain ⟨vl, vg, rfl, ⟨o, c, rfl, r⟩, ⟨og, cg, rfl, rg⟩⟩ := hR
  have h1 := hf.1
  refine (specHunt_any m.a m.b m.f m.s o og m.l.length c cg m.g m.pl m.st w (by unfold maxLen; omega) (by omega) (RdG_rd.1 rg)).mono ?_
  rintro e w' ⟨v, rfl, ho, hb⟩
  exact ⟨v, rfl, InRow.of ho, hb⟩
theorem implHunt_sh (v : Value) (m : Cm) (w : World) (hR : RdCm w.heap.size w v m) (hc : capCm v) (hf : fitCm m) :
    Calls Try.prog 18 #[v] w fun e w' => ∃ v', e = .returned v' ∧ InI w.heap.size w'.heap.size w' v' (huntM m) ∧ Below w.heap.size w w' := by
  obtain ⟨vl, vg, rfl, ⟨o, c, rfl, r⟩, ⟨og, cg, rfl, rg⟩⟩ := hR
  have h1 := hf.1
  have hG := RdG_rd.1 rg
  cases hok : m.ok with
  | false =>
    refine (implHunt_no m.a m.b m.f m.s o og m.l.length c cg m.g m.pl m.st w (by unfold maxLen; omega) (by omega) hG hok).mono ?_
    rintro e w' ⟨rfl, hb⟩
    refine ⟨_, rfl, ?_, hb⟩
    unfold huntM
    rw [hok]
    exact ⟨World.ownsRow_nil _ _ _ _, fun b e => by cases e⟩
  | true =>
    rcases hG with hG | ⟨bb, off, rfl, hbb, hcell⟩
    · have := carrierOkB_head hok
      rw [hG] at this
      simp at this
    · refine (implHunt_any m.a m.b m.f m.s o m.l.length c bb off cg m.g m.pl m.st w (by unfold maxLen; omega) (by omega) hbb hcell hok).mono ?_
      rintro e w' ⟨v, rfl, ho, hb⟩
      refine ⟨v, rfl, ?_, hb⟩
      unfold huntM
      rw [hok]
      exact InRow.of ho

end Go.Proofs.Ytdlmekincjchoaa
