/- CarrierBytes, in the words of shapes. -/
import Derived.Test.YtdlmekincjchoaaSCBytes3
namespace Go.Proofs.Ytdlmekincjchoaa
open Go.ChangeShapes Go.WideShapes Go.ChangeAt Go.RowKit Go.Joins
set_option linter.unusedVariables false
set_option linter.unusedSimpArgs false

set_option maxRecDepth 100000 in
set_option maxHeartbeats 1000000 in
theorem implCBytes_no (a b f s : Int) (o og : Option Addr) (len cap cg : Nat) (g : List (Int × Int)) (pl st : Int) (w : World) (hl : len ≤ maxLen) (hgl : g.length ≤ 1048576) (hG : RdG w og g) (hok : carrierOkB a b f s len g pl st = false) :
    Calls Try.prog 32 #[crr a b f s (.slice o len cap) (.slice og g.length cg) pl st] w fun e w' => e = .returned (.tuple #[.slice none 0 0, .bool false]) ∧ Below w.heap.size w w' := by
  have hb0 : Below w.heap.size w (w.alloc (.cells #[.int .i64 a, .int .i64 b, .int .i64 f, .int .i64 s, .slice o len cap, .slice og g.length cg, .int .i64 pl, .int .i64 st] 33)) := (Below.refl _ _).alloc (Nat.le_refl _) _
  have hc := implCarrierOk_any a b f s o og len cap cg g pl st (w.alloc (.cells #[.int .i64 a, .int .i64 b, .int .i64 f, .int .i64 s, .slice o len cap, .slice og g.length cg, .int .i64 pl, .int .i64 st] 33)) hl (by unfold maxLen; omega) (hG.kept hb0)
  rw [hok] at hc
  have Hb := hide hb0
  clear hb0
  go_enter Try.func32, Try.ntmps32
  go_wp2_with fail
  generalize (w.alloc (.cells #[.int .i64 a, .int .i64 b, .int .i64 f, .int .i64 s, .slice o len cap, .slice og g.length cg, .int .i64 pl, .int .i64 st] 33)) = w0 at *
  refine hc.mono ?_
  rintro e w1 ⟨rfl, hb1⟩
  have HB := hide (Hb.out.trans (hb1.mono Hb.out.size))
  clear hb1 hc Hb
  go_wp2
  go_ret2
  exact ⟨rfl, HB.out⟩
theorem specCBytes_sh (v : Value) (m : Cm) (w : World) (hR : RdCm w.heap.size w v m) (hc : capCm v) (hf : fitCm m) :
    Calls Try.prog 31 #[v] w fun e w' => ∃ v', e = .returned (.tuple #[v', .bool m.ok]) ∧ InB w.heap.size w'.heap.size w' v' (carrL m) ∧ Below w.heap.size w w' := by
  obtain ⟨vl, vg, rfl, ⟨o, c, rfl, r⟩, ⟨og, cg, rfl, rg⟩⟩ := hR
  obtain ⟨hn, hng⟩ := hc.two
  have h1 := hf.1
  refine (specCBytes_any m.a m.b m.f m.s o og c cg m.l m.g m.pl m.st w (RdB_rd.1 r) hn hf.2 (by omega) (RdG_rd.1 rg) (by omega)).mono ?_
  rintro e w' ⟨v, rfl, ho, hb⟩
  exact ⟨v, rfl, InB.of ho, hb⟩
theorem implCBytes_sh (v : Value) (m : Cm) (w : World) (hR : RdCm w.heap.size w v m) (hc : capCm v) (hf : fitCm m) :
    Calls Try.prog 32 #[v] w fun e w' => ∃ v', e = .returned (.tuple #[v', .bool m.ok]) ∧ InB w.heap.size w'.heap.size w' v' (carrL m) ∧ Below w.heap.size w w' := by
  obtain ⟨vl, vg, rfl, ⟨o, c, rfl, r⟩, ⟨og, cg, rfl, rg⟩⟩ := hR
  obtain ⟨hn, hng⟩ := hc.two
  have h1 := hf.1
  have hG := RdG_rd.1 rg
  cases hok : m.ok with
  | false =>
    refine (implCBytes_no m.a m.b m.f m.s o og m.l.length c cg m.g m.pl m.st w (by unfold maxLen; omega) (by omega) hG hok).mono ?_
    rintro e w' ⟨rfl, hb⟩
    refine ⟨_, rfl, ?_, hb⟩
    unfold carrL
    rw [hok]
    exact ⟨World.ownsRow_nil _ _ _ _, fun b e => by cases e⟩
  | true =>
    rcases hG with hG | ⟨bb, off, rfl, hbb, hcell⟩
    · have := carrierOkB_head hok
      rw [hG] at this
      simp at this
    · refine (implCBytes_yes m.a m.b m.f m.s o c bb off cg m.l m.g m.pl m.st w (RdB_rd.1 r) hn hf.2 (by omega) hbb hcell hok).mono ?_
      rintro e w' ⟨v, rfl, ho, hb⟩
      refine ⟨v, rfl, ?_, hb⟩
      unfold carrL
      rw [hok]
      exact InB.of ho

end Go.Proofs.Ytdlmekincjchoaa
