/- The program's TableOf. -/
import Derived.Test.YtldjaapbkihibaaSTab
namespace Go.Proofs.Ytldjaapbkihibaa
open Go.ChangeShapes Go.WideShapes Go.ChangeAt Go.RowKit Go.Joins
set_option linter.unusedVariables false
set_option linter.unusedSimpArgs false

def tabN (key : Int) (l : List Bk) : Nat := if keyB key = true ∧ backsOkB l = true then 8 else 0
theorem tabN_le (key : Int) (l : List Bk) : tabN key l ≤ 8 := by unfold tabN; split <;> omega
/-- The table that is filled: the heads of the first k rows, and none behind. -/
theorem fillT_step {wr : World} {base g : Nat} {hs : List Hd} {k n : Nat} {o : Option Addr} {m c : Nat} (hk : k < n) (hl : hs.length = k) (h : wr.ownsRow base 43 1 (.slice (some ⟨g, 0, none⟩) n n) n ((hs ++ List.replicate (n - k) layH.d).flatMap layH.cs)) :
    (wr.setCell ⟨g, k, none⟩ (.slice o m c)).ownsRow base 43 1 (.slice (some ⟨g, 0, none⟩) n n) n (((hs ++ [(o, m, c)]) ++ List.replicate (n - (k + 1)) layH.d).flatMap layH.cs) := by
  have h1 := (h.stored k (.slice o m c)).1
  rw [flat_set1 layH rfl (a := (o, m, c)) rfl] at h1
  have e1 : n - k = (n - (k + 1)) + 1 := by omega
  rw [e1, List.replicate_succ, List.set_append_right _ _ (by omega), hl, Nat.sub_self, List.set_cons_zero] at h1
  rw [List.append_assoc]
  exact h1

set_option maxHeartbeats 1000000 in
theorem implTableOf_any (key : Int) (o : Option Addr) (cap : Nat) (l : List Bk) (w : World) (hR : RdK w.heap.size w o l) (hlen : l.length ≤ 1048576) :
    Calls Try.prog 130 #[.int .i64 key, .slice o l.length cap] w fun e w' => ∃ v, e = .returned v ∧ OwnT w' w.heap.size v (tabN key l) (fun b => pairI key b l) ∧ Below w.heap.size w w' := by
  have hkey := fun w => isKey_any key w
  have hbo := implBacksOk_any o cap l w hR hlen
  by_cases hk : keyB key = true
  · rw [hk] at hkey
    by_cases hl : backsOkB l = true
    · rw [hl] at hbo
      have HE := hide (show tabN key l = 8 by rw [tabN, if_pos ⟨hk, hl⟩])
      have HP := hide (fun (b : Nat) W h => implPairOf_any key b o cap l W h hlen)
      obtain ⟨i0, hi, hz0, hz1, hz2⟩ := info_parts infoIntS
      go_enter Try.func130, Try.ntmps130
      go_wp2_with (first | (go_at_call 90; refine (hkey _).mono ?_; rintro e w1 ⟨rfl, rfl⟩) | (go_at_call 104; refine hbo.mono ?_; rintro e w2 ⟨rfl, hb2⟩) | (at_make; refine wpList_make_full _ rfl _ _ 37 rfl w2.heap.size 43 i0 (.slice none 0 0) 1 Try.underlying37 hi hz0 hz1 _ _ _ _ 8 rfl rfl rfl rfl ?b2 ?b3 ?b4 ?_))
      case b2 => rw [hz2]; omega
      case b3 => unfold maxLen; omega
      case b4 => simp
      intro w3 hown hgrow
      have hb3 : Below w2.heap.size w2 w3 := (Below.refl _ _).grown hgrow (Nat.le_refl _) (fun k h => by cases h)
      have hB3 : Below w.heap.size w w3 := hb2.trans (hb3.mono hb2.size)
      have hs2 : w.heap.size ≤ w2.heap.size := hb2.size
      have ho3 : w3.ownsRow w.heap.size 43 1 (.slice (some ⟨w2.heap.size, 0, none⟩) 8 8) 8 ((([] : List Hd) ++ List.replicate (8 - 0) layH.d).flatMap layH.cs) := by
        rw [List.nil_append, Nat.sub_zero, ← made_flat layH (.slice none 0 0) rfl, show layH.k = 1 from rfl, Nat.mul_one]; exact own_mono hown hs2
      clear hown hgrow hb3 hbo hb2
      go_wp2
      go_loopw [18] (fun iv wr => ∃ (k : Nat) (hs : List Hd), k ≤ 8 ∧ iv = .int .i64 k ∧ wr.ownsRow w.heap.size 43 1 (.slice (some ⟨w2.heap.size, 0, none⟩) 8 8) 8 ((hs ++ List.replicate (8 - k) layH.d).flatMap layH.cs) ∧ Tab (fun b => pairI key b l) k wr w.heap.size hs ∧ Below w.heap.size w wr)
        (fun iv _ => 8 - (intOf iv).toNat)
      case atStart => exact ⟨0, [], Nat.zero_le _, rfl, ho3, Tab.nil _ _ _, hB3⟩
      case round =>
        obtain ⟨k, hs, hk8, rfl, hor, htr, hBr⟩ := hrel
        by_cases hlt : k < 8
        · have hp := HP.out k wr ((hR.kept hBr (Nat.le_refl _)).le hBr.size)
          have HO := hide hor
          have HT := hide htr
          have HB := hide hBr
          have z1 : (k : Int) < 8 := by omega
          have HR := hide hR
          clear hor htr hBr ho3 hB3 hR
          go_wp2_with fail
          refine hp.mono ?_
          rintro e w4 ⟨v4, rfl, hv4, hb4⟩
          obtain ⟨o4, c4, e4, _⟩ := hv4.open
          rw [e4] at hv4 ⊢
          have HO4 := hide (own_kept HO.out hb4)
          have hln : ((hs ++ List.replicate (8 - k) layH.d).flatMap layH.cs).length = 8 := by rw [flat_length, List.length_append, List.length_replicate, HT.out.len, show layH.k = 1 from rfl]; omega
          have hcl := HO4.out.cellAt k (by omega)
          have hfr := HO4.out.frozenAt k
          obtain ⟨u, hu⟩ : ∃ u, w4.cell? ⟨w2.heap.size, k, none⟩ = some u := ⟨_, hcl.trans (List.getElem?_eq_getElem (by omega))⟩
          have HO5 := hide (fillT_step (o := o4) (m := (pairI key k l).length) (c := c4) hlt HT.out.len HO4.out)
          have HT4 := (HT.out.kept hb4).snoc HT.out.lt HB.out.size hv4
          have HT5 := hide (HT4.other HO4.out intNe (HO4.out.stored k (.slice o4 (pairI key k l).length c4)).2)
          have HB5 := hide ((HB.out.trans (hb4.mono HB.out.size)).setCell (p := ⟨w2.heap.size, k, none⟩) hs2 (.slice o4 (pairI key k l).length c4))
          clear hv4 hb4 hcl HT4 e4 hp hln
          generalize (pairI key k l).length = q at *
          go_wp2
          go_roundw
          case rel => exact ⟨k + 1, _, by omega, by go_num, HO5.out, HT5.out, HB5.out⟩
          case measure => simp [intOf]; omega
        · have e : k = 8 := by omega
          subst e
          have HO := hide hor
          have HT := hide htr
          have HB := hide hBr
          clear hor htr hBr ho3 hB3
          go_wp2
          go_ret
          refine ⟨_, rfl, .inr ⟨w2.heap.size, hs, by rw [HE.out]; rfl, ?_, by rw [HE.out]; exact HT.out⟩, HB.out⟩
          have h1 := HO.out
          rw [Nat.sub_self, List.replicate_zero, List.append_nil] at h1
          unfold ownL
          rw [HT.out.len]
          exact h1
    · rw [Bool.eq_false_iff.2 hl] at hbo
      have HE := hide (show tabN key l = 0 by rw [tabN, if_neg (fun q => hl q.2)])
      go_enter Try.func130, Try.ntmps130
      go_wp2_with (first | (go_at_call 90; refine (hkey _).mono ?_; rintro e w1 ⟨rfl, rfl⟩) | (go_at_call 104; refine hbo.mono ?_; rintro e w2 ⟨rfl, hb2⟩))
      go_ret
      exact ⟨_, rfl, .inl ⟨rfl, HE.out⟩, hb2⟩
  · rw [Bool.eq_false_iff.2 hk] at hkey
    have HE := hide (show tabN key l = 0 by rw [tabN, if_neg (fun q => hk q.1)])
    go_enter Try.func130, Try.ntmps130
    go_wp2_with (first | (go_at_call 90; refine (hkey _).mono ?_; rintro e w1 ⟨rfl, rfl⟩))
    go_ret
    exact ⟨_, rfl, .inl ⟨rfl, HE.out⟩, Below.refl _ _⟩

end Go.Proofs.Ytldjaapbkihibaa
