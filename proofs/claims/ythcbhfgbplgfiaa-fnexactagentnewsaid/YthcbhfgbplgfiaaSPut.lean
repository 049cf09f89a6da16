/- Put, on both sides. -/
import Derived.Test.YthcbhfgbplgfiaaCut5
namespace Go.Proofs.Ythcbhfgbplgfiaa
open Go.ChangeShapes Go.WideShapes Go.ChangeAt Go.RowKit Go.Joins
set_option linter.unusedVariables false
set_option linter.unusedSimpArgs false

theorem appS : AppOk layS 23 98 := ⟨Try.underlying23, ⟨_, _, infoSlot, rfl, by decide⟩, by decide, fun a u hu => by
  simp [layS] at hu; rcases hu with rfl | rfl | rfl | rfl | rfl <;> rfl⟩
theorem Stp.cell {lo hi b j : Nat} {w w' : World} {u : Value} (s : Stp lo hi w w') (h : w.cell? ⟨b, j, none⟩ = some u) (hb : b < w.heap.size) (hd : b < lo ∨ hi ≤ b) : w'.cell? ⟨b, j, none⟩ = some u := by
  have := s.block b hb hd
  simp only [World.cell?, this] at h ⊢; exact h
theorem Stp.frozen {lo hi b j : Nat} {w w' : World} (s : Stp lo hi w w') (h : w.frozen? ⟨b, j, none⟩ = false) (hb : b < w.heap.size) (hd : b < lo ∨ hi ≤ b) : w'.frozen? ⟨b, j, none⟩ = false := by
  have := s.block b hb hd
  simp only [World.frozen?, this] at h ⊢; exact h
theorem stp_set5 (W : World) (B k : Nat) (s : Sl) : Stp B (B + 1) W (((((W.setCell ⟨B, k * 5, none⟩ (.bool s.u)).setCell ⟨B, k * 5 + 1, none⟩ (.int .i64 s.a)).setCell ⟨B, k * 5 + 2, none⟩ (.int .i64 s.p)).setCell ⟨B, k * 5 + 3, none⟩ (.int .i64 s.v)).setCell ⟨B, k * 5 + 4, none⟩ (.int .i64 s.t)) :=
  ((((stp_set W B _ _).trans (stp_set _ B _ _)).trans (stp_set _ B _ _)).trans (stp_set _ B _ _)).trans (stp_set _ B _ _)

set_option maxHeartbeats 2000000 in
theorem l5own_any (b off c : Nat) (l : List Sl) (w : World) (hbl : b < w.heap.size) (hc : ∀ i, i < l.length → ∀ j, j < layS.k → w.cell? ⟨b, off + i * layS.k + j, none⟩ = (layS.cs (l.getD i layS.d))[j]?) (hl : l.length ≤ 1048576) :
    Calls Try.prog 99 #[tab (.slice (some ⟨b, off, none⟩) l.length c)] w fun e w' => ∃ o' c', e = .returned (tab (.slice o' l.length c')) ∧ ownS w' w.heap.size (.slice o' l.length c') l ∧ Below w.heap.size w w' := by
  have HC := hide hc
  clear hc
  obtain ⟨W0, hW0⟩ : ∃ W, ((w.alloc (.cells #[.slice (some ⟨b, off, none⟩) l.length c] 25)).alloc (.cells #[.slice none 0 0] 25)) = W := ⟨_, rfl⟩
  have hb_W0 : Below w.heap.size w W0 := by rw [← hW0]; exact (((Below.refl _ _).alloc (Nat.le_refl _) _).alloc (by simp <;> omega) _)
  have HB := hide hb_W0
  clear hb_W0
  have zct : w.heap.size < W0.heap.size := by rw [← hW0]; simp <;> omega
  have ct0 : W0.cell? ⟨w.heap.size, 0, none⟩ = some (.slice (some ⟨b, off, none⟩) l.length c) := by rw [← hW0]; simp [go_sem]
  have zcr : w.heap.size + 1 < W0.heap.size := by rw [← hW0]; simp
  have cr0 : W0.cell? ⟨w.heap.size + 1, 0, none⟩ = some (.slice none 0 0) := by rw [← hW0]; simp [go_sem]
  have fcr0 : W0.frozen? ⟨w.heap.size + 1, 0, none⟩ = false := by rw [← hW0]; simp [go_sem]
  have HZ := hide zcr
  have hw00 := HB.out.size
  obtain ⟨W1, hW1⟩ : ∃ W, W0.alloc (.cells #[] 98) = W := ⟨_, rfl⟩
  have F1 : Hid (ownL layS 98 W1 W0.heap.size (.slice (some ⟨W0.heap.size, 0, none⟩) 0 0) []) := by rw [← hW1]; exact own_none0 (L := layS) W0 _
  have hb_W1 : Below W0.heap.size W0 W1 := by rw [← hW1]; exact (Below.refl _ _).alloc (Nat.le_refl _) _
  replace ct0 : W1.cell? ⟨w.heap.size, 0, none⟩ = some (.slice (some ⟨b, off, none⟩) l.length c) := (hb_W1.cell (p := ⟨w.heap.size, 0, none⟩) zct).trans ct0
  replace zct : w.heap.size < W1.heap.size := Nat.lt_of_lt_of_le zct hb_W1.size
  replace cr0 : W1.cell? ⟨w.heap.size + 1, 0, none⟩ = some (.slice none 0 0) := (hb_W1.cell (p := ⟨w.heap.size + 1, 0, none⟩) zcr).trans cr0
  replace fcr0 : W1.frozen? ⟨w.heap.size + 1, 0, none⟩ = false := (hb_W1.frozen (p := ⟨w.heap.size + 1, 0, none⟩) zcr).trans fcr0
  replace zcr : w.heap.size + 1 < W1.heap.size := Nat.lt_of_lt_of_le zcr hb_W1.size
  replace HB := hide (HB.out.trans (hb_W1.mono HB.out.size))
  clear hb_W1
  have hsz1 : W0.heap.size ≤ W1.heap.size := by rw [← hW1]; simp
  have rdl : Hid (RdL layS w.heap.size W1 (some ⟨b, off, none⟩) l) := .inr ⟨b, off, rfl, hbl, fun i hi j hj => (HB.out.cell (p := ⟨b, off + i * layS.k + j, none⟩) hbl).trans (HC.out i hi j hj)⟩
  go_enter Try.func99, Try.ntmps99
  go_wp2_with (at_builtin; refine wpList_append_lay appS rfl _ _ rfl W0.heap.size _ [] rfl F1.out (some ⟨b, off, none⟩) c w.heap.size l l.length rfl rfl (fun h => by cases h) rdl.out ?c1 ?c2 ?_)
  case c1 => simp; omega
  case c2 => exact hsz1
  intro v2 w2 hv2 hg2 _
  (try rw [List.nil_append] at hv2)
  have hb : Below W0.heap.size W1 w2 := (Below.refl _ _).grown hg2 hsz1 (fun q h => (F1.out.lt q h).1)
  have HO := hide hv2
  obtain ⟨o2, c2, hve, _⟩ := ownL.open (L := layS) hv2
  subst hve
  have cr02 : w2.cell? ⟨w.heap.size + 1, 0, none⟩ = some (.slice none 0 0) := (hb.cell (p := ⟨w.heap.size + 1, 0, none⟩) HZ.out).trans cr0
  have fcr02 : w2.frozen? ⟨w.heap.size + 1, 0, none⟩ = false := (hb.frozen (p := ⟨w.heap.size + 1, 0, none⟩) HZ.out).trans fcr0
  have HB2 := hide (HB.out.trans (hb.mono hw00))
  clear hv2 hg2 hb F1 cr0 fcr0
  go_wp2
  refine bodyPost_ret (v := tab (.slice o2 l.length c2)) (by simp [results, Try.results99, go_sem, cr02]) rfl ⟨_, _, rfl, ?_, ?_⟩
  · exact own_mono (ownsRow_setCell_below HO.out (show w.heap.size + 1 < W0.heap.size from HZ.out) _) hw00
  · exact HB2.out.setCell (p := ⟨w.heap.size + 1, 0, none⟩) (by simp) _

theorem putL_no {l : List Sl} {a p v t : Int} (h : (endL l a p).1 < 0) : putL l a p v t = l := by unfold putL; rw [if_neg (by omega)]
theorem putL_yes {l : List Sl} {a p v t : Int} {k : Nat} (h : (endL l a p).1 = (k : Int)) : putL l a p v t = l.set k ⟨true, a, p, v, t⟩ := by unfold putL; rw [if_pos (by omega), h]; simp
/-- Where a way ends: nowhere, or at a slot. -/
theorem endL_place (l : List Sl) (hn : 0 < l.length) (a p : Int) : (endL l a p).1 = -1 ∨ ∃ k, k < l.length ∧ (endL l a p).1 = (k : Int) := by
  rcases endL_cases l hn a p with e | ⟨k, hk, ⟨e, _⟩ | ⟨e, _⟩⟩
  · exact .inl (by rw [e])
  · exact .inr ⟨k, hk, by rw [e]⟩
  · exact .inr ⟨k, hk, by rw [e]⟩
set_option maxHeartbeats 2000000 in
theorem l5putW_any (b off c : Nat) (l : List Sl) (a p v t : Int) (w : World) (hn : 0 < l.length) (hl : l.length ≤ 1048576) (hf : flowOkB a p = true) (hbl : b < w.heap.size) (hc : ∀ i, i < l.length → ∀ j, j < layS.k → w.cell? ⟨b, off + i * layS.k + j, none⟩ = (layS.cs (l.getD i layS.d))[j]?) :
    Calls Try.prog 131 #[tab (.slice (some ⟨b, off, none⟩) l.length c), flow a p, .int .i64 v, .int .i64 t] w fun e w' => ∃ b' off' c', e = .returned (.tuple #[tab (.slice (some ⟨b', off', none⟩) l.length c'), .bool (decide (0 ≤ (endL l a p).1))]) ∧ b' < w'.heap.size ∧ (∀ i, i < (putL l a p v t).length → ∀ j, j < layS.k → w'.cell? ⟨b', off' + i * layS.k + j, none⟩ = (layS.cs ((putL l a p v t).getD i layS.d))[j]?) ∧ Below w.heap.size w w' ∧ (b' = b ∨ w.heap.size ≤ b') := by
  have HC := hide hc
  clear hc
  obtain ⟨W0, hW0⟩ : ∃ W, (((w.alloc (.cells #[.slice (some ⟨b, off, none⟩) l.length c] 25)).alloc (.cells #[.int .i64 a, .int .i64 p] 29)).alloc (.cells #[.slice none 0 0] 25)) = W := ⟨_, rfl⟩
  have hb_W0 : Below w.heap.size w W0 := by rw [← hW0]; exact ((((Below.refl _ _).alloc (Nat.le_refl _) _).alloc (by simp <;> omega) _).alloc (by simp <;> omega) _)
  have HB := hide hb_W0
  clear hb_W0
  have zct : w.heap.size < W0.heap.size := by rw [← hW0]; simp <;> omega
  have ct0 : W0.cell? ⟨w.heap.size, 0, none⟩ = some (.slice (some ⟨b, off, none⟩) l.length c) := by rw [← hW0]; simp [go_sem]
  have zcf : w.heap.size + 1 < W0.heap.size := by rw [← hW0]; simp <;> omega
  have cf0 : W0.cell? ⟨w.heap.size + 1, 0, none⟩ = some (.int .i64 a) := by rw [← hW0]; simp [go_sem]
  have cf1 : W0.cell? ⟨w.heap.size + 1, 1, none⟩ = some (.int .i64 p) := by rw [← hW0]; simp [go_sem]
  have zcr : w.heap.size + 1 + 1 < W0.heap.size := by rw [← hW0]; simp
  have cr0 : W0.cell? ⟨w.heap.size + 1 + 1, 0, none⟩ = some (.slice none 0 0) := by rw [← hW0]; simp [go_sem]
  have fcr0 : W0.frozen? ⟨w.heap.size + 1 + 1, 0, none⟩ = false := by rw [← hW0]; simp [go_sem]
  have hat := l5at_any (some ⟨b, off, none⟩) c l a p W0 (.inr ⟨b, off, rfl, Nat.lt_of_lt_of_le hbl HB.out.size, (fun i hi j hj => (HB.out.cell (p := ⟨b, off + i * layS.k + j, none⟩) hbl).trans (HC.out i hi j hj))⟩) hn hl hf
  obtain ⟨E, hE⟩ : ∃ E, endL l a p = E := ⟨_, rfl⟩
  have HZ := hide zcr
  have hw00 := HB.out.size
  rcases endL_place l hn a p with h1 | ⟨k, hk, h1⟩
  · skip
    have HP := hide (putL_no (l := l) (a := a) (p := p) (v := v) (t := t) (by rw [h1]; decide))
    have HD := hide (show decide (0 ≤ (endL l a p).1) = false by rw [h1]; rfl)
    rw [h1] at hat
    generalize (endL l a p).2 = E2 at hat
    clear hE
    go_enter Try.func131, Try.ntmps131
    go_wp2_with fail
    refine (hat).mono ?_
    rintro e v1 ⟨rfl, hb⟩
    replace ct0 : v1.cell? ⟨w.heap.size, 0, none⟩ = some (.slice (some ⟨b, off, none⟩) l.length c) := (hb.cell (p := ⟨w.heap.size, 0, none⟩) zct).trans ct0
    replace zct : w.heap.size < v1.heap.size := Nat.lt_of_lt_of_le zct hb.size
    replace cf0 : v1.cell? ⟨w.heap.size + 1, 0, none⟩ = some (.int .i64 a) := (hb.cell (p := ⟨w.heap.size + 1, 0, none⟩) zcf).trans cf0
    replace cf1 : v1.cell? ⟨w.heap.size + 1, 1, none⟩ = some (.int .i64 p) := (hb.cell (p := ⟨w.heap.size + 1, 1, none⟩) zcf).trans cf1
    replace zcf : w.heap.size + 1 < v1.heap.size := Nat.lt_of_lt_of_le zcf hb.size
    replace cr0 : v1.cell? ⟨w.heap.size + 1 + 1, 0, none⟩ = some (.slice none 0 0) := (hb.cell (p := ⟨w.heap.size + 1 + 1, 0, none⟩) zcr).trans cr0
    replace fcr0 : v1.frozen? ⟨w.heap.size + 1 + 1, 0, none⟩ = false := (hb.frozen (p := ⟨w.heap.size + 1 + 1, 0, none⟩) zcr).trans fcr0
    replace zcr : w.heap.size + 1 + 1 < v1.heap.size := Nat.lt_of_lt_of_le zcr hb.size
    replace HB := hide (HB.out.trans (hb.mono HB.out.size))
    clear hb
    clear hat
    go_wp2
    refine bodyPost_ret (v := .tuple #[tab (.slice (some ⟨b, off, none⟩) l.length c), .bool false]) (by simp [results, Try.results131, go_sem, cr0]) rfl ⟨b, off, c, by rw [HD.out], ?_, ?_, ?_, .inl rfl⟩
    · have := HB.out.size; simp; omega
    · rw [HP.out]
      intro i hi j hj
      have hB2 := HB.out.setCell (p := ⟨w.heap.size + 1 + 1, 0, none⟩) (by simp <;> omega) (.slice (some ⟨b, off, none⟩) l.length c)
      exact (hB2.cell (p := ⟨b, off + i * layS.k + j, none⟩) hbl).trans (HC.out i hi j hj)
    · exact HB.out.setCell (p := ⟨w.heap.size + 1 + 1, 0, none⟩) (by simp <;> omega) _
  · skip
    have HP := hide (putL_yes (l := l) (a := a) (p := p) (v := v) (t := t) h1)
    have HD := hide (show decide (0 ≤ (endL l a p).1) = true by rw [h1]; simp)
    rw [h1] at hat
    generalize (endL l a p).2 = E2 at hat
    clear hE h1
    have hk' : (k : Int) < (l.length : Int) := by omega
    go_enter Try.func131, Try.ntmps131
    go_wp2_with fail
    refine (hat).mono ?_
    rintro e v1 ⟨rfl, hb⟩
    replace ct0 : v1.cell? ⟨w.heap.size, 0, none⟩ = some (.slice (some ⟨b, off, none⟩) l.length c) := (hb.cell (p := ⟨w.heap.size, 0, none⟩) zct).trans ct0
    replace zct : w.heap.size < v1.heap.size := Nat.lt_of_lt_of_le zct hb.size
    replace cf0 : v1.cell? ⟨w.heap.size + 1, 0, none⟩ = some (.int .i64 a) := (hb.cell (p := ⟨w.heap.size + 1, 0, none⟩) zcf).trans cf0
    replace cf1 : v1.cell? ⟨w.heap.size + 1, 1, none⟩ = some (.int .i64 p) := (hb.cell (p := ⟨w.heap.size + 1, 1, none⟩) zcf).trans cf1
    replace zcf : w.heap.size + 1 < v1.heap.size := Nat.lt_of_lt_of_le zcf hb.size
    replace cr0 : v1.cell? ⟨w.heap.size + 1 + 1, 0, none⟩ = some (.slice none 0 0) := (hb.cell (p := ⟨w.heap.size + 1 + 1, 0, none⟩) zcr).trans cr0
    replace fcr0 : v1.frozen? ⟨w.heap.size + 1 + 1, 0, none⟩ = false := (hb.frozen (p := ⟨w.heap.size + 1 + 1, 0, none⟩) zcr).trans fcr0
    replace zcr : w.heap.size + 1 + 1 < v1.heap.size := Nat.lt_of_lt_of_le zcr hb.size
    replace HB := hide (HB.out.trans (hb.mono HB.out.size))
    clear hb
    go_wp2_with fail
    refine (l5own_any b off c l v1 (Nat.lt_of_lt_of_le hbl HB.out.size) (fun i hi j hj => (HB.out.cell (p := ⟨b, off + i * layS.k + j, none⟩) hbl).trans (HC.out i hi j hj)) hl).mono ?_
    rintro e v2 ⟨o2, c2, rfl, hown, hb⟩
    have HV1 := hide zcr
    obtain ⟨g, c3, hve⟩ : ∃ g c3, Value.slice o2 l.length c2 = .slice (some ⟨g, 0, none⟩) l.length c3 := by
      rcases hown.2 with ⟨_, h0⟩ | ⟨g, c3, _, h0, _⟩
      · exact absurd h0 (by omega)
      · exact ⟨g, c3, h0⟩
    injection hve with hv1 hv2 hv3
    subst hv1 hv3
    have HO := hide hown
    clear hown
    replace ct0 : v2.cell? ⟨w.heap.size, 0, none⟩ = some (.slice (some ⟨b, off, none⟩) l.length c) := (hb.cell (p := ⟨w.heap.size, 0, none⟩) zct).trans ct0
    replace zct : w.heap.size < v2.heap.size := Nat.lt_of_lt_of_le zct hb.size
    replace cf0 : v2.cell? ⟨w.heap.size + 1, 0, none⟩ = some (.int .i64 a) := (hb.cell (p := ⟨w.heap.size + 1, 0, none⟩) zcf).trans cf0
    replace cf1 : v2.cell? ⟨w.heap.size + 1, 1, none⟩ = some (.int .i64 p) := (hb.cell (p := ⟨w.heap.size + 1, 1, none⟩) zcf).trans cf1
    replace zcf : w.heap.size + 1 < v2.heap.size := Nat.lt_of_lt_of_le zcf hb.size
    replace cr0 : v2.cell? ⟨w.heap.size + 1 + 1, 0, none⟩ = some (.slice none 0 0) := (hb.cell (p := ⟨w.heap.size + 1 + 1, 0, none⟩) zcr).trans cr0
    replace fcr0 : v2.frozen? ⟨w.heap.size + 1 + 1, 0, none⟩ = false := (hb.frozen (p := ⟨w.heap.size + 1 + 1, 0, none⟩) zcr).trans fcr0
    replace zcr : w.heap.size + 1 + 1 < v2.heap.size := Nat.lt_of_lt_of_le zcr hb.size
    replace HB := hide (HB.out.trans (hb.mono HB.out.size))
    clear hb
    have HOv := HO
    obtain ⟨W2, hW2⟩ : ∃ W, (v2.alloc (.cells #[.slice (some ⟨g, 0, none⟩) l.length c2] 25)) = W := ⟨_, rfl⟩
    have hb_W2 : Below v2.heap.size v2 W2 := by rw [← hW2]; exact ((Below.refl _ _).alloc (Nat.le_refl _) _)
    replace ct0 : W2.cell? ⟨w.heap.size, 0, none⟩ = some (.slice (some ⟨b, off, none⟩) l.length c) := (hb_W2.cell (p := ⟨w.heap.size, 0, none⟩) zct).trans ct0
    replace zct : w.heap.size < W2.heap.size := Nat.lt_of_lt_of_le zct hb_W2.size
    replace cf0 : W2.cell? ⟨w.heap.size + 1, 0, none⟩ = some (.int .i64 a) := (hb_W2.cell (p := ⟨w.heap.size + 1, 0, none⟩) zcf).trans cf0
    replace cf1 : W2.cell? ⟨w.heap.size + 1, 1, none⟩ = some (.int .i64 p) := (hb_W2.cell (p := ⟨w.heap.size + 1, 1, none⟩) zcf).trans cf1
    replace zcf : w.heap.size + 1 < W2.heap.size := Nat.lt_of_lt_of_le zcf hb_W2.size
    replace cr0 : W2.cell? ⟨w.heap.size + 1 + 1, 0, none⟩ = some (.slice none 0 0) := (hb_W2.cell (p := ⟨w.heap.size + 1 + 1, 0, none⟩) zcr).trans cr0
    replace fcr0 : W2.frozen? ⟨w.heap.size + 1 + 1, 0, none⟩ = false := (hb_W2.frozen (p := ⟨w.heap.size + 1 + 1, 0, none⟩) zcr).trans fcr0
    replace zcr : w.heap.size + 1 + 1 < W2.heap.size := Nat.lt_of_lt_of_le zcr hb_W2.size
    replace HO := hide (own_kept HO.out hb_W2)
    replace HB := hide (HB.out.trans (hb_W2.mono HB.out.size))
    clear hb_W2
    have zco : v2.heap.size < W2.heap.size := by rw [← hW2]; simp
    have co0 : W2.cell? ⟨v2.heap.size, 0, none⟩ = some (.slice (some ⟨g, 0, none⟩) l.length c2) := by rw [← hW2]; simp [go_sem]
    have hgb := (HO.out.lt g rfl)
    have ho : W2.ownsRow v1.heap.size 98 5 (.slice (some ⟨g, 0, none⟩) l.length c2) l.length (l.flatMap layS.cs) := HO.out
    have hln : (l.flatMap layS.cs).length = l.length * 5 := by rw [flat_length]; rfl
    obtain ⟨u0, hu0⟩ : ∃ u, W2.cell? ⟨g, k * 5, none⟩ = some u := ⟨_, (ho.cellAt (k * 5) (by omega)).trans (List.getElem?_eq_getElem (by omega))⟩
    have hf0 := ho.frozenAt (k * 5)
    obtain ⟨u1, hu1⟩ : ∃ u, W2.cell? ⟨g, k * 5 + 1, none⟩ = some u := ⟨_, (ho.cellAt (k * 5 + 1) (by omega)).trans (List.getElem?_eq_getElem (by omega))⟩
    have hf1 := ho.frozenAt (k * 5 + 1)
    obtain ⟨u2, hu2⟩ : ∃ u, W2.cell? ⟨g, k * 5 + 2, none⟩ = some u := ⟨_, (ho.cellAt (k * 5 + 2) (by omega)).trans (List.getElem?_eq_getElem (by omega))⟩
    have hf2 := ho.frozenAt (k * 5 + 2)
    obtain ⟨u3, hu3⟩ : ∃ u, W2.cell? ⟨g, k * 5 + 3, none⟩ = some u := ⟨_, (ho.cellAt (k * 5 + 3) (by omega)).trans (List.getElem?_eq_getElem (by omega))⟩
    have hf3 := ho.frozenAt (k * 5 + 3)
    obtain ⟨u4, hu4⟩ : ∃ u, W2.cell? ⟨g, k * 5 + 4, none⟩ = some u := ⟨_, (ho.cellAt (k * 5 + 4) (by omega)).trans (List.getElem?_eq_getElem (by omega))⟩
    have hf4 := ho.frozenAt (k * 5 + 4)
    have HS := hide (stored5 (k := k) ⟨true, a, p, v, t⟩ (Nat.le_refl g) ho (Below.refl g W2))
    have HSt := hide (stp_set5 W2 g k ⟨true, a, p, v, t⟩)
    clear ho hln hat
    obtain ⟨W3, hW3⟩ : ∃ W, ((((W2.setCell ⟨g, k * 5, none⟩ (.bool true)).setCell ⟨g, k * 5 + 1, none⟩ (.int .i64 a)).setCell ⟨g, k * 5 + 2, none⟩ (.int .i64 p)).setCell ⟨g, k * 5 + 3, none⟩ (.int .i64 v)).setCell ⟨g, k * 5 + 4, none⟩ (.int .i64 t) = W := ⟨_, rfl⟩
    have HS3 : Hid (W3.ownsRow v1.heap.size 98 5 (.slice (some ⟨g, 0, none⟩) l.length c2) l.length ((l.set k ⟨true, a, p, v, t⟩).flatMap layS.cs)) := by rw [← hW3]; exact HS.out.1
    have HSt3 : Hid (Stp g (g + 1) W2 W3) := by rw [← hW3]; exact HSt.out
    have hgv : v1.heap.size ≤ g := hgb.1
    have hzo : g + 1 ≤ v2.heap.size := by have h := (HOv.out.lt g rfl).2; omega
    have co3 := HSt3.out.cell co0 zco (.inr hzo)
    have cr3 := HSt3.out.cell cr0 zcr (.inl (show w.heap.size + 1 + 1 < g from Nat.lt_of_lt_of_le HV1.out hgv))
    have fcr3 := HSt3.out.frozen fcr0 zcr (.inl (show w.heap.size + 1 + 1 < g from Nat.lt_of_lt_of_le HV1.out hgv))
    have hB3 : Hid (Below w.heap.size W2 W3) := HSt3.out.below (by have := HV1.out; omega) (by have := HV1.out; omega)
    have hwv : w.heap.size ≤ v1.heap.size := by have := HV1.out; omega
    clear cr0 fcr0 HS HSt
    go_wp2
    refine bodyPost_ret (v := .tuple #[tab (.slice (some ⟨g, 0, none⟩) l.length c2), .bool true]) (by simp [results, Try.results131, go_sem, cr3]) rfl ⟨g, 0, c2, by rw [HD.out], ?_, ?_, ?_, .inr (by have h1 := (HS3.out.lt g rfl).1; have h2 := HV1.out; omega)⟩
    · have h := (HS3.out.lt g rfl).2; simpa using h
    · rw [HP.out]
      have h := ownsRow_setCell_below HS3.out (a := ⟨w.heap.size + 1 + 1, 0, none⟩) (show w.heap.size + 1 + 1 < v1.heap.size from HV1.out) (.slice (some ⟨g, 0, none⟩) l.length c2)
      exact rd_of_own h (by simp)
    · exact (HB.out.trans hB3.out).setCell (p := ⟨w.heap.size + 1 + 1, 0, none⟩) (by simp <;> omega) _

theorem l5put_any (b off c : Nat) (l : List Sl) (a p v t : Int) (w : World) (hn : 0 < l.length) (hl : l.length ≤ 1048576) (hf : flowOkB a p = true) (hbl : b < w.heap.size) (hc : ∀ i, i < l.length → ∀ j, j < layS.k → w.cell? ⟨b, off + i * layS.k + j, none⟩ = (layS.cs (l.getD i layS.d))[j]?) :
    Calls Try.prog 131 #[tab (.slice (some ⟨b, off, none⟩) l.length c), flow a p, .int .i64 v, .int .i64 t] w fun e w' => ∃ b' off' c', e = .returned (.tuple #[tab (.slice (some ⟨b', off', none⟩) l.length c'), .bool (decide (0 ≤ (endL l a p).1))]) ∧ b' < w'.heap.size ∧ (∀ i, i < (putL l a p v t).length → ∀ j, j < layS.k → w'.cell? ⟨b', off' + i * layS.k + j, none⟩ = (layS.cs ((putL l a p v t).getD i layS.d))[j]?) ∧ Below w.heap.size w w' := by
  refine (l5putW_any b off c l a p v t w hn hl hf hbl hc).mono ?_
  rintro e w' ⟨b', off', c', h1, h2, h3, h4, _⟩
  exact ⟨b', off', c', h1, h2, h3, h4⟩

end Go.Proofs.Ythcbhfgbplgfiaa
