/- PairOf on both sides. -/
import Derived.Test.YtldjaapbkihibaaSPair
namespace Go.Proofs.Ytldjaapbkihibaa
open Go.ChangeShapes Go.WideShapes Go.ChangeAt Go.RowKit Go.Joins
set_option linter.unusedVariables false
set_option linter.unusedSimpArgs false

def pairI (key b : Int) (l : List Bk) : List Int := if keyB key = true ∧ (0 ≤ b ∧ b < 8) ∧ backsOkB l = true then pairL (pick (scL key b l)) else []
theorem pairI_len (key b : Int) (l : List Bk) : (pairI key b l).length ≤ 2 := by
  unfold pairI
  split
  · unfold pairL; split <;> simp
  · simp
/-- Ids ascend below six: so there are no more than six. -/
theorem backs_len {l : List Bk} (h : backsOkB l = true) : l.length ≤ 6 := by
  have key : ∀ j, j < l.length → (j : Int) ≤ (l.getD j (0, 0, false)).1 := fun j => by
    induction j with
    | zero =>
      intro hj
      obtain ⟨x, y, z, hxy⟩ : ∃ x y z, l.getD 0 (0, 0, false) = (x, y, z) := ⟨_, _, _, rfl⟩
      have := backs_all h hj hxy
      rw [hxy]; simpa using this.1
    | succ j ih =>
      intro hj
      have h1 := ih (by omega)
      have h2 := backs_lt h (j + 1) hj j (by omega)
      omega
  rcases Nat.lt_or_ge 6 l.length with h7 | h7
  · obtain ⟨x, y, z, hxy⟩ : ∃ x y z, l.getD 6 (0, 0, false) = (x, y, z) := ⟨_, _, _, rfl⟩
    have h1 := key 6 h7
    have h2 := backs_all h h7 hxy
    rw [hxy] at h1
    dsimp only at h1
    omega
  · exact h7
theorem scL_mem_ok {key b : Int} {l : List Bk} (h : backsOkB l = true) {z : Sc} (hz : z ∈ scL key b l) : okS z := by
  obtain ⟨i, hi, e⟩ := scL_ids hz
  obtain ⟨x, y, t, hxy⟩ : ∃ x y z, l.getD i (0, 0, false) = (x, y, z) := ⟨_, _, _, rfl⟩
  have := backs_all h hi hxy
  rw [hxy] at e
  unfold okS
  rw [← e]
  dsimp only
  omega
theorem backsOkB_take {l : List Bk} (h : backsOkB l = true) (j : Nat) : backsOkB (l.take j) = true := by
  rw [backsOkB_iff] at *
  intro i hi
  have hi' : i < l.length := by simp at hi; omega
  have hij : i < j := by simp at hi; omega
  have := h i hi'
  unfold okAt at *
  have e1 : (l.take j).getD i (0, 0, false) = l.getD i (0, 0, false) := by simp [List.getD_eq_getElem?_getD, List.getElem?_take, hij]
  have e2 : (l.take j).getD (i - 1) (0, 0, false) = l.getD (i - 1) (0, 0, false) := by simp [List.getD_eq_getElem?_getD, List.getElem?_take, show i - 1 < j by omega]
  rw [e1, e2]; exact this
theorem best_scL {key b : Int} {l : List Bk} (h : backsOkB l = true) : Best (scL key b l) (pick (scL key b l)) := by
  have key' : ∀ j, j ≤ l.length → Best (scL key b (l.take j)) (pick (scL key b (l.take j))) := fun j => by
    induction j with
    | zero => intro _; exact ⟨by simp [scL], by simp [scL, pick]⟩
    | succ j ih =>
      intro hj
      have ih' := ih (by omega)
      obtain ⟨x, y, z, hxy⟩ : ∃ x y z, l.getD j (0, 0, false) = (x, y, z) := ⟨_, _, _, rfl⟩
      have hts := takeL_succ layK l j (by omega)
      rw [show l.getD j layK.d = l.getD j (0, 0, false) from rfl, hxy] at hts
      cases z with
      | true => rw [hts, scL_snoc_no _ _ _ _ rfl]; exact ih'
      | false =>
        rw [hts, scL_snoc_yes _ _ _ _ rfl, pick_snoc]
        have hb := backs_all h (by omega) hxy
        refine best_step ih' (fun z hz => scL_mem_ok (backsOkB_take h j) hz) ⟨hb.1, by dsimp only; omega⟩ (fun z hz => ?_)
        obtain ⟨i, hi, e⟩ := scL_ids hz
        have hij : i < j := by simp at hi; omega
        have := backs_lt h j (by omega) i hij
        rw [hxy] at this
        rw [show (l.take j).getD i (0, 0, false) = l.getD i (0, 0, false) by simp [List.getD_eq_getElem?_getD, List.getElem?_take, hij]] at e
        rw [← e]; exact this
  have := key' l.length (Nat.le_refl _)
  rw [List.take_of_length_le (Nat.le_refl _)] at this
  exact this

set_option maxHeartbeats 1000000 in
theorem implPairOf_any (key b : Int) (o : Option Addr) (cap : Nat) (l : List Bk) (w : World) (hR : RdK w.heap.size w o l) (hlen : l.length ≤ 1048576) :
    Calls Try.prog 138 #[.int .i64 key, .int .i64 b, .slice o l.length cap] w fun e w' => ∃ v, e = .returned v ∧ ownI w' w.heap.size v (pairI key b l) ∧ Below w.heap.size w w' := by
  have hkey := fun w => isKey_any key w
  have hbuc := fun w => isBucket_any b w
  have hbo := implBacksOk_any o cap l w hR hlen
  by_cases hk : keyB key = true
  · rw [hk] at hkey
    by_cases hbk : 0 ≤ b ∧ b < 8
    · rw [show (decide (0 ≤ b) && decide (b < 8)) = true by simp [hbk]] at hbuc
      by_cases hl : backsOkB l = true
      · rw [hl] at hbo
        have HE := hide (show pairI key b l = pairL (pick (scL key b l)) by rw [pairI, if_pos ⟨hk, hbk, hl⟩])
        have hln := backs_len hl
        go_enter Try.func138, Try.ntmps138
        go_wp2_with (first | (go_at_call 90; refine (hkey _).mono ?_; rintro e w1 ⟨rfl, rfl⟩) | (go_at_call 63; refine (hbuc _).mono ?_; rintro e w1 ⟨rfl, rfl⟩) | (go_at_call 104; refine hbo.mono ?_; rintro e w2 ⟨rfl, hb2⟩))
        refine (contestOf_any key b o cap l w2 ((hR.kept hb2 (Nat.le_refl _)).le hb2.size) (by omega) hk hbk hl).mono ?_
        rintro e w3 ⟨k, v, lb, rfl, hbd, hhp, hok, hhd, hkge, hb3⟩
        have hlb : lb.length ≤ 1000 := by
          have h1 := hhd.1
          have h2 : (scL key b l).length ≤ l.length := by unfold scL; rw [List.length_map]; exact List.length_filter_le _ _
          omega
        have htwo := twoBest_any k v lb w3 hbd hhp hok hlb
        clear hbo
        go_wp2_with fail
        refine htwo.mono ?_
        rintro e w4 ⟨v4, p, rfl, ht, ho4, hb4⟩
        have hp := two_pair (best_scL hl) (fun z hz => scL_mem_ok hl hz) hhd hhp ht
        have HO := hide (own_mono (hp ▸ ho4) (Nat.le_trans hb2.size hkge))
        have HB := hide ((hb2.trans (hb3.mono hb2.size)).trans (hb4.mono (Nat.le_trans hb2.size hkge)))
        clear ho4 hb2 hb3 hb4 hR ht hp htwo hbd hhp hok hhd
        go_wp2
        go_ret
        exact ⟨v4, rfl, by rw [HE.out]; exact HO.out, HB.out⟩
      · rw [Bool.eq_false_iff.2 hl] at hbo
        have HE := hide (show pairI key b l = [] by rw [pairI, if_neg (fun q => hl q.2.2)])
        go_enter Try.func138, Try.ntmps138
        go_wp2_with (first | (go_at_call 90; refine (hkey _).mono ?_; rintro e w1 ⟨rfl, rfl⟩) | (go_at_call 63; refine (hbuc _).mono ?_; rintro e w1 ⟨rfl, rfl⟩) | (go_at_call 104; refine hbo.mono ?_; rintro e w2 ⟨rfl, hb2⟩))
        go_ret
        exact ⟨_, rfl, by rw [HE.out]; exact World.ownsRow_nil _ _ _ _, hb2⟩
    · rw [show (decide (0 ≤ b) && decide (b < 8)) = false by simpa using hbk] at hbuc
      have HE := hide (show pairI key b l = [] by rw [pairI, if_neg (fun q => hbk q.2.1)])
      go_enter Try.func138, Try.ntmps138
      go_wp2_with (first | (go_at_call 90; refine (hkey _).mono ?_; rintro e w1 ⟨rfl, rfl⟩) | (go_at_call 63; refine (hbuc _).mono ?_; rintro e w1 ⟨rfl, rfl⟩))
      go_ret
      exact ⟨_, rfl, by rw [HE.out]; exact World.ownsRow_nil _ _ _ _, Below.refl _ _⟩
  · rw [Bool.eq_false_iff.2 hk] at hkey
    have HE := hide (show pairI key b l = [] by rw [pairI, if_neg (fun q => hk q.1)])
    go_enter Try.func138, Try.ntmps138
    go_wp2_with (first | (go_at_call 90; refine (hkey _).mono ?_; rintro e w1 ⟨rfl, rfl⟩))
    go_ret
    exact ⟨_, rfl, by rw [HE.out]; exact World.ownsRow_nil _ _ _ _, Below.refl _ _⟩

end Go.Proofs.Ytldjaapbkihibaa
