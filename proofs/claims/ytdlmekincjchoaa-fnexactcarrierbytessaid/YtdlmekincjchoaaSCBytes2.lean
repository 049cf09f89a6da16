/- A carrier's bytes, the program's. -/
import Derived.Test.YtdlmekincjchoaaSCBytes
import Derived.Test.YtdlmekincjchoaaSHunt2
namespace Go.Proofs.Ytdlmekincjchoaa
open Go.ChangeShapes Go.WideShapes Go.ChangeAt Go.RowKit Go.Joins Go.Shelf
set_option linter.unusedVariables false
set_option linter.unusedSimpArgs false

set_option maxHeartbeats 1000000 in
theorem appendWord_wide (base : Nat) (v : Value) (l : List Int) (n : Int) (w : World) (hv : ownB w base v l) (hbase : base ≤ w.heap.size) (h0 : 0 ≤ n) (h1 : n ≤ 100000) (hlen : l.length ≤ 1048576) :
    Calls Try.prog 77 #[v, .int .i64 n] w fun e w' => ∃ v', e = .returned v' ∧ ownB w' base v' (l ++ [n / 256 % 256, n % 256]) ∧ w.grownBy w' v.ownBlock := by
  obtain ⟨i0, hi, hz0, hz1, hz2⟩ := info_parts infoU8
  have hs2 : 0 ≤ n / 256 ∧ n / 256 ≤ 400 := by omega
  go_enter Try.func77, Try.ntmps77
  go_wp2_with (at_builtin; refine wpList_append_own _ rfl _ _ 22 rfl base 5 i0 (.int .u8 0) 1 1 Try.underlying22 hi hz0 hz1 hz2 rfl (by decide) v _ _ rfl (hv.alloc _) ⟨w.heap.size, 0, none⟩ 2 2 [.int .u8 (n / 256 % 256), .int .u8 (n % 256)] rfl rfl ?c1 ?c2 ?c3 ?c4 ?c5 ?_)
  case c1 => exact cells_new w #[.int .u8 (n / 256 % 256), .int .u8 (n % 256)] 5
  case c2 => exact ints_oneCell .u8 [n / 256 % 256, n % 256]
  case c3 => unfold maxLen; omega
  case c4 => omega
  case c5 => simp; omega
  intro v' w1 hown hgrow _
  have HO : Hid (ownB w1 base v' (l ++ [n / 256 % 256, n % 256])) := by
    unfold Hid ownB; simpa using hown
  have HG : Hid (w.grownBy w1 v.ownBlock) := (World.grownBy_alloc w _ _).trans hgrow
  clear hown hgrow hv
  go_wp2
  go_ret
  exact ⟨_, rfl, HO.out, HG.out⟩

set_option maxHeartbeats 1000000 in
theorem appendThree_any (base : Nat) (v : Value) (l : List Int) (n : Int) (w : World) (hv : ownB w base v l) (hbase : base ≤ w.heap.size) (h0 : 0 ≤ n) (h1 : n ≤ 100000) (hlen : l.length ≤ 1000000) :
    Calls Try.prog 71 #[v, .int .i64 n] w fun e w' => ∃ v', e = .returned v' ∧ ownB w' base v' (l ++ [n / 65536, n / 256 % 256, n % 256]) ∧ w.grownBy w' v.ownBlock := by
  obtain ⟨i0, hi, hz0, hz1, hz2⟩ := info_parts infoU8
  have hs2 : 0 ≤ n / 65536 ∧ n / 65536 ≤ 1 := by omega
  go_enter Try.func71, Try.ntmps71
  go_wp2_with (at_builtin; refine wpList_append_own_at _ rfl _ _ 22 rfl base 5 i0 (.int .u8 0) 1 1 Try.underlying22 hi hz0 hz1 hz2 rfl (by decide) v _ _ rfl (hv.alloc _) ⟨w.heap.size, 0, none⟩ 1 1 [.int .u8 (n / 65536)] rfl rfl ?c1 ?c2 ?c3 ?c4 ?c5 ?_)
  case c1 => exact cells_new w #[.int .u8 (n / 65536)] 5
  case c2 => exact ints_oneCell .u8 [n / 65536]
  case c3 => unfold maxLen; omega
  case c4 => omega
  case c5 => simp; omega
  intro v' w1 hown hgrow _ hat
  have HO : Hid (ownB w1 base v' (l ++ [n / 65536])) := by
    unfold Hid ownB; simpa using hown
  have HG : Hid (w.grownBy w1 v.ownBlock) := (World.grownBy_alloc w _ _).trans hgrow
  have HA := hide hat
  have hs1 : base ≤ w1.heap.size := Nat.le_trans hbase HG.out.size
  clear hown hgrow hv hat
  go_wp2_with fail
  refine (appendWord_wide base v' _ n w1 HO.out hs1 h0 h1 (by simp; omega)).mono ?_
  rintro e w2 ⟨v2, rfl, hv2, hb2⟩
  have hgg : w.grownBy w2 v.ownBlock := ⟨hb2.os.trans HG.out.os, hb2.tape.trans HG.out.tape, hb2.output.trans HG.out.output, Nat.le_trans HG.out.size hb2.size, fun q hq hne => (hb2.block q (Nat.lt_of_lt_of_le hq HG.out.size) (fun e => by
    rcases HA.out with h | h
    · exact hne (e.trans h)
    · rw [h] at e; injection e with e; (try simp at e); omega)).trans (HG.out.block q hq hne)⟩
  have HR := hide (And.intro hv2 hgg)
  clear hv2 hb2 hgg
  go_wp2
  go_ret
  exact ⟨_, rfl, by have := HR.out.1; simpa using this, HR.out.2⟩

end Go.Proofs.Ytdlmekincjchoaa
