/- The model's TableOf. -/
import Derived.Laws.AppendOwnNone
import Derived.Maps.AppendAt
import Derived.Test.YtmmhgkkcpjhiiaaGreatQLearn24
namespace Go.Proofs.YtmmhgkkcpjhiiaaGreat
open Go.ChangeShapes Go.WideShapes Go.ChangeAt Go.RowKit Go.Joins
set_option linter.unusedVariables false
set_option linter.unusedSimpArgs false

theorem wpList_append_head {w : World} {ops : Array Oper} {rest : List Oper} {o : Oper} {a : Act} {Q : Exit → Act → World → Prop} (hgd : o.guard = none) (s x : Operand)
  (ho : o.op = .call { callee := .builtin .append, args := #[s, x], argTypes := #[51, 51] }) (base : Nat) (v : Value) (hs : List Hd) (he : a.eval s = v) (hown : ownL layH 47 w base v hs)
  (n : Nat) (o4 : Option Addr) (m c : Nat) (hx : a.eval x = .slice (some ⟨n, 0, none⟩) 1 1) (h0 : w.cell? ⟨n, 0, none⟩ = some (.slice o4 m c)) (hlen : hs.length ≤ 1000) (hbase : base ≤ w.heap.size)
  (h : ∀ v' w', ownL layH 47 w' base v' (hs ++ [(o4, m, c)]) → w.grownBy w' v.ownBlock → wpList Tryz.prog ops Q rest (a.put o.dst v') w') : wpList Tryz.prog ops Q (o :: rest) a w := by
 obtain ⟨i0, hi, hz0, hz1, hz2⟩ := info_parts infoIntS
 refine wpList_append_own _ hgd s x 51 ho base 47 i0 (.slice none 0 0) 1 24 Tryz.underlying51 hi hz0 hz1 hz2 rfl (by decide) v _ _ he hown ⟨n, 0, none⟩ 1 1 [.slice o4 m c] hx rfl ?_ (by simp [Value.oneCell']) (by unfold maxLen; omega) (by omega) hbase ?_
 ·intro j u hj
  match j, hj with
  | 0, hj => simp at hj; subst hj; exact h0
 ·intro v' w' h1 h2 _
  refine h v' w' ?_ h2
  unfold ownL
  simpa [layH] using h1

theorem pairI_yes {key : Int} {l : List Bk} (hk : keyB key = true) (hl : backsOkB l = true) (b : Nat) (hb : b < 8) : pairL (pick (scL key b l)) = pairI key b l := by
 have h1 : (0 : Int) ≤ (b : Int) := by omega
 have h2 : (b : Int) < 8 := by omega
 rw [pairI, if_pos ⟨hk, ⟨h1, h2⟩, hl⟩]

set_option maxHeartbeats 1000000 in
theorem l3tableO_any (key : Int) (o : Option Addr) (cap : Nat) (l : List Bk) (w : World) (hR : RdK w.heap.size w o l) (hlen : l.length ≤ 1000) (hk : keyB key = true) (hl : backsOkB l = true) :
  Calls Tryz.prog 220 #[.int .i64 key, .slice o l.length cap] w fun e w' => ∃ o' c' hs, e = .returned (.slice o' 8 c') ∧ ownL layH 47 w' w.heap.size (.slice o' 8 c') hs ∧ Tab (fun b => pairI key b l) 8 w' w.heap.size hs ∧ Below w.heap.size w w' := by
 have HP := hide (fun (b : Nat) (hb : b < 8) W h => (pairI_yes hk hl b hb) ▸ l3pair_any key b o cap l W h hlen hk ⟨by omega, by omega⟩ hl)
 go_enter Tryz.func220, Tryz.ntmps220
 go_wp2
 go_loopw [5, 6] (fun out iv wr => ∃ (k : Nat) (hs : List Hd), k ≤ 8 ∧ iv = .int .i64 k ∧ ownL layH 47 wr w.heap.size out hs ∧ Tab (fun b => pairI key b l) k wr w.heap.size hs ∧ Below w.heap.size w wr)
  (fun _ iv _ => 8 - (intOf iv).toNat)
 case atStart => exact ⟨0, [], Nat.zero_le _, rfl, World.ownsRow_nil _ _ _ _, Tab.nil _ _ _, Below.refl _ _⟩
 case round =>
  rename_i out _
  obtain ⟨k, hs, hk8, rfl, hor, htr, hBr⟩ := hrel
  by_cases hlt : k < 8
  ·have hp := HP.out k hlt wr ((hR.kept hBr (Nat.le_refl _)).le hBr.size)
   have HO := hide hor
   have HT := hide htr
   have HB := hide hBr
   have z1 : (k : Int) < 8 := by omega
   clear hor htr hBr
   go_wp2_with fail
   refine hp.mono ?_
   rintro e w4 ⟨v4, rfl, hv4, hb4⟩
   obtain ⟨o4, c4, e4, _⟩ := ownL.open (L := layI) hv4
   rw [e4] at hv4 ⊢
   have HT4 := hide ((HT.out.kept hb4).snoc HT.out.lt HB.out.size hv4)
   have HO4 := hide (own_kept HO.out hb4)
   have HB4 := hide (HB.out.trans (hb4.mono HB.out.size))
   have hl4 : hs.length ≤ 1000 := by rw [HT.out.len]; omega
   have hs4 := HB4.out.size
   clear hv4 hb4 hp e4
   generalize (pairI key k l).length = q at *
   go_wp2_with (at_builtin; refine wpList_append_head rfl (.tmp 11) (.tmp 16) rfl w.heap.size _ hs rfl (HO4.out.alloc _) w4.heap.size o4 q c4 rfl ?c1 hl4 ?c2 ?_)
   case c1 => simp
   case c2 => simp; omega
   intro v5 w5 ho5 hg5
   have HA := hide (World.ownsRow.alloc HO4.out (.cells #[.slice o4 q c4] 47))
   have HT5 := hide (Tab.other (HT4.out.kept ((Below.refl _ _).alloc (Nat.le_refl _) _)) HA.out intNe hg5)
   have HB5 := hide ((HB4.out.alloc hs4 _).grown hg5 (by simp; omega) (fun k h => (HA.out.lt k h).1))
   have HO5 := hide ho5
   clear hg5 ho5
   go_wp2
   go_roundw
   case rel => exact ⟨k + 1, _, by omega, by go_num, HO5.out, HT5.out, HB5.out⟩
   case measure => simp [intOf]; omega
  ·have e : k = 8 := by omega
   subst e
   obtain ⟨o', c', e', _⟩ := ownL.open (L := layH) hor
   have hll := htr.len
   rw [e', hll] at hor
   rw [e', hll]
   have HX := hide (And.intro hor htr)
   have HB := hide hBr
   clear hor htr hBr e'
   go_wp2
   go_ret
   exact ⟨o', c', hs, rfl, HX.out.1, HX.out.2, HB.out⟩

end Go.Proofs.YtmmhgkkcpjhiiaaGreat

