/- Two bytes of a number behind a row of the call's own: l1two, appendWord. -/
import Derived.Maps.AppendAt
import Derived.Test.YtoeoiljddcjphaaDoorQCarriers02
import Derived.Test.YtoeoiljddcjphaaDoorQCarriers03
namespace Go.Proofs.YtoeoiljddcjphaaDoor
open Go.ChangeShapes Go.WideShapes Go.ChangeAt Go.RowKit Go.Joins
set_option linter.unusedVariables false
set_option linter.unusedSimpArgs false

def wordL (n : Int) : List Int := [n / 256, n % 256]

theorem cells_new (w : World) (cs : Array Value) (e : TypeId) : ∀ j u, cs.toList[j]? = some u → (w.alloc (.cells cs e)).cell? ((⟨w.heap.size, 0, none⟩ : Addr).add j) = some u := by
 intro j u h
 have e2 : (⟨w.heap.size, 0, none⟩ : Addr).add j = ⟨w.heap.size, j, none⟩ := by by_cases h : j = 0 <;> simp [Addr.add, h]
 rw [e2, cell_of_row (w.alloc (.cells cs e)) w.heap.size j cs e (0, 0) (heap_alloc_new w _)]
 simpa using h

set_option maxHeartbeats 1000000 in
theorem l1two_any (base : Nat) (v : Value) (l : List Int) (n : Int) (w : World) (hv : ownB w base v l) (hbase : base ≤ w.heap.size) (h0 : 0 ≤ n) (h1 : n < 65536) (hlen : l.length ≤ 1048576) :
  Calls Tryd.prog 88 #[v, .int .i64 n] w fun e w' => ∃ v', e = .returned v' ∧ ownB w' base v' (l ++ wordL n) ∧ Below base w w' := by
 obtain ⟨i0, hi, hz0, hz1, hz2⟩ := info_parts infoU8
 go_enter Tryd.func88, Tryd.ntmps88
 go_wp2_with (at_builtin; refine wpList_append_own _ rfl _ _ 22 rfl base 5 i0 (.int .u8 0) 1 1 Tryd.underlying22 hi hz0 hz1 hz2 rfl (by decide) v _ _ rfl (hv.alloc _) ⟨w.heap.size, 0, none⟩ 2 2 [.int .u8 (n / 256), .int .u8 (n % 256)] rfl rfl ?c1 ?c2 ?c3 ?c4 ?c5 ?_)
 case c1 => exact cells_new w #[.int .u8 (n / 256), .int .u8 (n % 256)] 5
 case c2 => exact ints_oneCell .u8 (wordL n)
 case c3 => unfold maxLen; omega
 case c4 => omega
 case c5 => simp; omega
 intro v' w1 hown hgrow _
 have HO : Hid (ownB w1 base v' (l ++ wordL n)) := by
  unfold Hid ownB; simpa [wordL] using hown
 have HG : Hid (Below base w w1) := (Below.refl _ _).grown ((World.grownBy_alloc w _ _).trans hgrow) hbase (fun k h => (hv.lt k h).1)
 clear hown hgrow hv
 go_wp2
 go_ret
 exact ⟨_, rfl, HO.out, HG.out⟩

set_option maxHeartbeats 1000000 in
theorem appendWord_any (base : Nat) (v : Value) (l : List Int) (n : Int) (w : World) (hv : ownB w base v l) (hbase : base ≤ w.heap.size) (h0 : 0 ≤ n) (h1 : n < 65536) (hlen : l.length ≤ 1048576) :
  Calls Tryd.prog 56 #[v, .int .i64 n] w fun e w' => ∃ v', e = .returned v' ∧ ownB w' base v' (l ++ wordL n) ∧ Below base w w' := by
 obtain ⟨i0, hi, hz0, hz1, hz2⟩ := info_parts infoU8
 go_enter Tryd.func56, Tryd.ntmps56
 go_wp2_with (at_builtin; refine wpList_append_own _ rfl _ _ 22 rfl base 5 i0 (.int .u8 0) 1 1 Tryd.underlying22 hi hz0 hz1 hz2 rfl (by decide) v _ _ rfl (hv.alloc _) ⟨w.heap.size, 0, none⟩ 2 2 [.int .u8 (n / 256), .int .u8 (n % 256)] rfl rfl ?c1 ?c2 ?c3 ?c4 ?c5 ?_)
 case c1 => exact cells_new w #[.int .u8 (n / 256), .int .u8 (n % 256)] 5
 case c2 => exact ints_oneCell .u8 (wordL n)
 case c3 => unfold maxLen; omega
 case c4 => omega
 case c5 => simp; omega
 intro v' w1 hown hgrow _
 have HO : Hid (ownB w1 base v' (l ++ wordL n)) := by
  unfold Hid ownB; simpa [wordL] using hown
 have HG : Hid (Below base w w1) := (Below.refl _ _).grown ((World.grownBy_alloc w _ _).trans hgrow) hbase (fun k h => (hv.lt k h).1)
 clear hown hgrow hv
 go_wp2
 go_ret
 exact ⟨_, rfl, HO.out, HG.out⟩

end Go.Proofs.YtoeoiljddcjphaaDoor

