/- VerdictText, the model's and the program's: a row that comes of a string. -/
import Derived.Test.YtdoijnmgnocjaaaLMark
import Derived.Laws.IdiomStrings
namespace Go.Proofs.Ytdoijnmgnocjaaa
open Go.ChangeShapes Go.WideShapes Go.ChangeAt Go.RowKit Go.Joins
set_option linter.unusedVariables false
set_option linter.unusedSimpArgs false

def verdL (v : Int) : List Int := if v = 0 then [116, 97, 107, 101] else if v = 1 then [109, 97, 107, 101] else if v = 2 then [112, 97, 115, 115] else if v = 3 then [114, 115, 116] else if v = 4 then [111, 108, 100] else if v = 5 then [102, 117, 108, 108] else if v = 6 then [108, 111, 115, 116] else []
/-- A row of bytes that came of a string: its cells are l, and none of these is frozen. -/
def CvB (w : World) (base : Nat) (v : Value) (l : List Int) : Prop :=
  (v = .slice none 0 0 ∧ l = []) ∨ ∃ g cap, v = .slice (some ⟨g, 0, none⟩) l.length cap ∧ base ≤ g ∧ g < w.heap.size ∧ (∀ i, i < l.length → w.cell? ⟨g, i, none⟩ = some (.int .u8 (l.getD i 0))) ∧ ∀ i, i < l.length → w.frozen? ⟨g, i, none⟩ = false
theorem CvB.open {w : World} {base : Nat} {v : Value} {l : List Int} (h : CvB w base v l) : ∃ o cap, v = .slice o l.length cap ∧ Rd w o l := by
  rcases h with ⟨rfl, rfl⟩ | ⟨g, cap, rfl, _, hg, hc, _⟩
  · exact ⟨none, 0, rfl, .inl rfl⟩
  · exact ⟨_, cap, rfl, .inr ⟨g, 0, rfl, hg, fun i hi => by rw [Nat.zero_add]; exact hc i hi⟩⟩
theorem CvB.kept {w w' : World} {base D : Nat} {v : Value} {l : List Int} (h : CvB w base v l) (hb : Below D w w') (hd : w.heap.size ≤ D) : CvB w' base v l := by
  rcases h with h | ⟨g, cap, e, hbs, hg, hc, hf⟩
  · exact .inl h
  · refine .inr ⟨g, cap, e, hbs, Nat.lt_of_lt_of_le hg hb.size, fun i hi => (hb.cell (p := ⟨g, i, none⟩) (Nat.lt_of_lt_of_le hg hd)).trans (hc i hi), fun i hi => ?_⟩
    have := hf i hi
    unfold World.frozen? at this ⊢
    rw [hb.block g (Nat.lt_of_lt_of_le hg hd)]
    exact this
/-- What '[]byte(s)' lays is such a row. -/
theorem CvB.made (w : World) (e : TypeId) (s : ByteArray) (l : List Int) (base cap g n : Nat) (hb : base ≤ w.heap.size) (hg : g = w.heap.size) (hl : s.data.toList.map (fun b => (b.toNat : Int)) = l) (hn : n = l.length) :
    CvB ((w.alloc (.cells (bytesRow s cap) e ((bytesRow s cap).size, (bytesRow s cap).size + 1))).drew) base (.slice (some ⟨g, 0, none⟩) n cap) l := by
  subst hg hn
  have hsz : s.data.size = l.length := by rw [← hl]; simp
  have hrow : l.length ≤ (bytesRow s cap).size := by
    have h2 : s.size = s.data.size := rfl
    simp [bytesRow]; omega
  refine .inr ⟨w.heap.size, cap, rfl, hb, ?_, fun i hi => ?_, fun i hi => ?_⟩
  · show w.heap.size < (w.alloc _).heap.size
    simp
  · show (w.alloc _).cell? ⟨w.heap.size, i, none⟩ = _
    rw [World.cell?_alloc_mark]
    have hi2 : i < s.data.size := by omega
    unfold bytesRow
    rw [Array.getElem?_append_left (by simpa using hi2)]
    subst hl
    simp [Array.getElem?_eq_getElem hi2]
  · show (w.alloc _).frozen? ⟨w.heap.size, i, none⟩ = false
    unfold World.frozen?
    have hh : (w.alloc (.cells (bytesRow s cap) e ((bytesRow s cap).size, (bytesRow s cap).size + 1))).heap[w.heap.size]? = some (.cells (bytesRow s cap) e ((bytesRow s cap).size, (bytesRow s cap).size + 1)) := by show (w.heap.push _)[w.heap.size]? = _; simp
    rw [hh]
    simp only [Bool.and_eq_false_iff, decide_eq_false_iff_not]
    left; omega
set_option maxHeartbeats 1000000 in
theorem markCv_any (base : Nat) (v : Value) (l : List Int) (k : Int) (w : World) (hv : CvB w base v l) (h0 : 0 ≤ k) (h1 : k ≤ 1073741824) (hlen : l.length ≤ 1048576) :
    Calls Try.prog 21 #[v, .int .i64 k] w fun e w' => e = .returned (.int .i64 (k + l.length)) ∧ CvB w' base v (markL k l.length) ∧ w.grownBy w' v.ownBlock := by
  rcases hv with ⟨rfl, rfl⟩ | ⟨g, cap, rfl, hbs, hg, hc, hf⟩
  · go_enter Try.func21, Try.ntmps21
    go_wp2
    refine wp_loop_rounds 1 ?_
    rw [rounds_succ]
    go_wp2
    go_ret
    exact ⟨by simp, .inl ⟨rfl, by simp [markL]⟩, World.grownBy.refl _ _⟩
  · have HL := hide (markL_length k l.length)
    go_enter Try.func21, Try.ntmps21
    go_wp2
    go_loopw [1, 5] (fun m j wr => ∃ i : Nat, i ≤ l.length ∧ j = .int .i64 i ∧ m = .int .i64 (k + (i : Int)) ∧ (∀ q, q < l.length → wr.cell? ⟨g, q, none⟩ = some (.int .u8 ((markTo l k i).getD q 0))) ∧ (∀ q, q < l.length → wr.frozen? ⟨g, q, none⟩ = false) ∧ w.grownBy wr (some g))
      (fun _ j _ => l.length - (intOf j).toNat)
    case atStart => exact ⟨0, Nat.zero_le _, rfl, by simp, fun q hq => by rw [markTo_zero]; exact hc q hq, hf, World.grownBy.refl _ _⟩
    case round =>
      obtain ⟨i, hi, rfl, rfl, hcr, hfr, hgr⟩ := hrel
      by_cases hlt : i < l.length
      · have hcl := hcr i hlt
        have hfz := hfr i hlt
        have R : Hid ((∀ q, q < l.length → (wr.setCell ⟨g, i, none⟩ (.int .u8 ((k + (i : Int)) % 256))).cell? ⟨g, q, none⟩ = some (.int .u8 ((markTo l k (i + 1)).getD q 0))) ∧ (∀ q, q < l.length → (wr.setCell ⟨g, i, none⟩ (.int .u8 ((k + (i : Int)) % 256))).frozen? ⟨g, q, none⟩ = false) ∧ w.grownBy (wr.setCell ⟨g, i, none⟩ (.int .u8 ((k + (i : Int)) % 256))) (some g)) := by
          have hset : markTo l k (i + 1) = (markTo l k i).set i ((k + (i : Int)) % 256) := by
            have := markTo_set l k i hlt
            rw [← List.map_set] at this
            exact (List.map_inj_right (by intro a b h; cases h; rfl)).1 this |>.symm
          refine ⟨fun q hq => ?_, fun q hq => by rw [World.frozen?_setCell]; exact hfr q hq, ?_⟩
          · rw [hset]
            by_cases e : i = q
            · subst e
              rw [World.cell?_setCell_same _ _ _ hcl]
              simp [markTo_length l k i hi, hlt]
            · rw [World.cell?_setCell_other _ _ _ _ (by intro h; cases h; exact e rfl), hcr q hq]
              simp [List.getElem?_set, e]
          · exact ⟨hgr.os, hgr.tape, hgr.output, by simpa using hgr.size, fun j hj hne => by
              rw [← hgr.block j hj hne]
              have : j ≠ g := fun e => hne (by rw [e])
              simp [World.setCell, Array.getElem?_modify, this, Ne.symm this]⟩
        clear hcr hfr hgr
        go_wp2
        go_roundw
        case rel => exact ⟨i + 1, by omega, by go_num, by go_num, R.out.1, R.out.2.1, R.out.2.2⟩
        case measure => simp [intOf]; omega
      · have e : i = l.length := by omega
        subst e
        rw [markTo_all] at hcr
        have HC := hide hcr
        have HS := hide hgr.size
        clear hcr
        go_wp2
        go_ret
        exact ⟨rfl, .inr ⟨g, cap, by rw [HL.out], hbs, Nat.lt_of_lt_of_le hg HS.out, fun q hq => HC.out q (by rw [HL.out] at hq; exact hq), fun q hq => hfr q (by rw [HL.out] at hq; exact hq)⟩, hgr⟩
set_option maxRecDepth 100000 in
set_option maxHeartbeats 4000000 in
theorem specVerd_any (v : Int) (w : World) :
    Calls Try.prog 29 #[.int .i64 v] w fun e w' => ∃ r, e = .returned r ∧ CvB w' w.heap.size r (verdL v) ∧ Below w.heap.size w w' := by
  have hB : Below w.heap.size w w := Below.refl _ _
  have hcv := fun (W : World) (s : ByteArray) => run_bytes_of_string (P := Try.prog) W 9 22 5 s Try.underlying9 Try.underlying22 Try.underlying5
  by_cases h : 0 ≤ v ∧ v ≤ 6
  · rcases (show v = 0 ∨ v = 1 ∨ v = 2 ∨ v = 3 ∨ v = 4 ∨ v = 5 ∨ v = 6 by omega) with h | h | h | h | h | h | h
    all_goals subst h
    all_goals (
      go_enter Try.func29, Try.ntmps29
      go_wp2)
    · go_ret
      exact ⟨_, rfl, CvB.made _ _ _ [116, 97, 107, 101] _ _ _ _ (by simp) (by simp) rfl rfl, by (repeat (first | with_reducible exact hB | with_reducible exact Below.refl _ _ | with_reducible refine Below.drew ?_ | with_reducible refine below_drewN ?_ _ | with_reducible refine Below.alloc ?_ ?_ _ | with_reducible refine Below.setCell ?_ ?_ _ | (focus (simp; done)) | (focus (simp; omega)) | omega))⟩
    · go_ret
      exact ⟨_, rfl, CvB.made _ _ _ [109, 97, 107, 101] _ _ _ _ (by simp) (by simp) rfl rfl, by (repeat (first | with_reducible exact hB | with_reducible exact Below.refl _ _ | with_reducible refine Below.drew ?_ | with_reducible refine below_drewN ?_ _ | with_reducible refine Below.alloc ?_ ?_ _ | with_reducible refine Below.setCell ?_ ?_ _ | (focus (simp; done)) | (focus (simp; omega)) | omega))⟩
    · go_ret
      exact ⟨_, rfl, CvB.made _ _ _ [112, 97, 115, 115] _ _ _ _ (by simp) (by simp) rfl rfl, by (repeat (first | with_reducible exact hB | with_reducible exact Below.refl _ _ | with_reducible refine Below.drew ?_ | with_reducible refine below_drewN ?_ _ | with_reducible refine Below.alloc ?_ ?_ _ | with_reducible refine Below.setCell ?_ ?_ _ | (focus (simp; done)) | (focus (simp; omega)) | omega))⟩
    · go_ret
      exact ⟨_, rfl, CvB.made _ _ _ [114, 115, 116] _ _ _ _ (by simp) (by simp) rfl rfl, by (repeat (first | with_reducible exact hB | with_reducible exact Below.refl _ _ | with_reducible refine Below.drew ?_ | with_reducible refine below_drewN ?_ _ | with_reducible refine Below.alloc ?_ ?_ _ | with_reducible refine Below.setCell ?_ ?_ _ | (focus (simp; done)) | (focus (simp; omega)) | omega))⟩
    · go_ret
      exact ⟨_, rfl, CvB.made _ _ _ [111, 108, 100] _ _ _ _ (by simp) (by simp) rfl rfl, by (repeat (first | with_reducible exact hB | with_reducible exact Below.refl _ _ | with_reducible refine Below.drew ?_ | with_reducible refine below_drewN ?_ _ | with_reducible refine Below.alloc ?_ ?_ _ | with_reducible refine Below.setCell ?_ ?_ _ | (focus (simp; done)) | (focus (simp; omega)) | omega))⟩
    · go_ret
      exact ⟨_, rfl, CvB.made _ _ _ [102, 117, 108, 108] _ _ _ _ (by simp) (by simp) rfl rfl, by (repeat (first | with_reducible exact hB | with_reducible exact Below.refl _ _ | with_reducible refine Below.drew ?_ | with_reducible refine below_drewN ?_ _ | with_reducible refine Below.alloc ?_ ?_ _ | with_reducible refine Below.setCell ?_ ?_ _ | (focus (simp; done)) | (focus (simp; omega)) | omega))⟩
    · go_ret
      exact ⟨_, rfl, CvB.made _ _ _ [108, 111, 115, 116] _ _ _ _ (by simp) (by simp) rfl rfl, by (repeat (first | with_reducible exact hB | with_reducible exact Below.refl _ _ | with_reducible refine Below.drew ?_ | with_reducible refine below_drewN ?_ _ | with_reducible refine Below.alloc ?_ ?_ _ | with_reducible refine Below.setCell ?_ ?_ _ | (focus (simp; done)) | (focus (simp; omega)) | omega))⟩
  · have h1 : ¬ (0 ≤ v) ∨ 6 < v := by omega
    have HV := hide (show verdL v = [] by unfold verdL; rw [if_neg (by omega), if_neg (by omega), if_neg (by omega), if_neg (by omega), if_neg (by omega), if_neg (by omega), if_neg (by omega)])
    rcases h1 with h1 | h1
    · go_enter Try.func29, Try.ntmps29
      go_wp2
      go_ret
      exact ⟨_, rfl, by rw [HV.out]; exact .inl ⟨rfl, rfl⟩, by (repeat (first | with_reducible exact hB | with_reducible exact Below.refl _ _ | with_reducible refine Below.drew ?_ | with_reducible refine below_drewN ?_ _ | with_reducible refine Below.alloc ?_ ?_ _ | with_reducible refine Below.setCell ?_ ?_ _ | (focus (simp; done)) | (focus (simp; omega)) | omega))⟩
    · have h2 : 0 ≤ v := by omega
      go_enter Try.func29, Try.ntmps29
      go_wp2
      go_ret
      exact ⟨_, rfl, by rw [HV.out]; exact .inl ⟨rfl, rfl⟩, by (repeat (first | with_reducible exact hB | with_reducible exact Below.refl _ _ | with_reducible refine Below.drew ?_ | with_reducible refine below_drewN ?_ _ | with_reducible refine Below.alloc ?_ ?_ _ | with_reducible refine Below.setCell ?_ ?_ _ | (focus (simp; done)) | (focus (simp; omega)) | omega))⟩
set_option maxRecDepth 100000 in
set_option maxHeartbeats 4000000 in
theorem implVerd_any (v : Int) (w : World) :
    Calls Try.prog 30 #[.int .i64 v] w fun e w' => ∃ r, e = .returned r ∧ CvB w' w.heap.size r (verdL v) ∧ Below w.heap.size w w' := by
  have hB : Below w.heap.size w w := Below.refl _ _
  have hcv := fun (W : World) (s : ByteArray) => run_bytes_of_string (P := Try.prog) W 9 22 5 s Try.underlying9 Try.underlying22 Try.underlying5
  by_cases h : 0 ≤ v ∧ v ≤ 6
  · rcases (show v = 0 ∨ v = 1 ∨ v = 2 ∨ v = 3 ∨ v = 4 ∨ v = 5 ∨ v = 6 by omega) with h | h | h | h | h | h | h
    all_goals subst h
    all_goals (
      go_enter Try.func30, Try.ntmps30
      go_wp2)
    · go_ret
      exact ⟨_, rfl, CvB.made _ _ _ [116, 97, 107, 101] _ _ _ _ (by simp) (by simp) rfl rfl, by (repeat (first | with_reducible exact hB | with_reducible exact Below.refl _ _ | with_reducible refine Below.drew ?_ | with_reducible refine below_drewN ?_ _ | with_reducible refine Below.alloc ?_ ?_ _ | with_reducible refine Below.setCell ?_ ?_ _ | (focus (simp; done)) | (focus (simp; omega)) | omega))⟩
    · go_ret
      exact ⟨_, rfl, CvB.made _ _ _ [109, 97, 107, 101] _ _ _ _ (by simp) (by simp) rfl rfl, by (repeat (first | with_reducible exact hB | with_reducible exact Below.refl _ _ | with_reducible refine Below.drew ?_ | with_reducible refine below_drewN ?_ _ | with_reducible refine Below.alloc ?_ ?_ _ | with_reducible refine Below.setCell ?_ ?_ _ | (focus (simp; done)) | (focus (simp; omega)) | omega))⟩
    · go_ret
      exact ⟨_, rfl, CvB.made _ _ _ [112, 97, 115, 115] _ _ _ _ (by simp) (by simp) rfl rfl, by (repeat (first | with_reducible exact hB | with_reducible exact Below.refl _ _ | with_reducible refine Below.drew ?_ | with_reducible refine below_drewN ?_ _ | with_reducible refine Below.alloc ?_ ?_ _ | with_reducible refine Below.setCell ?_ ?_ _ | (focus (simp; done)) | (focus (simp; omega)) | omega))⟩
    · go_ret
      exact ⟨_, rfl, CvB.made _ _ _ [114, 115, 116] _ _ _ _ (by simp) (by simp) rfl rfl, by (repeat (first | with_reducible exact hB | with_reducible exact Below.refl _ _ | with_reducible refine Below.drew ?_ | with_reducible refine below_drewN ?_ _ | with_reducible refine Below.alloc ?_ ?_ _ | with_reducible refine Below.setCell ?_ ?_ _ | (focus (simp; done)) | (focus (simp; omega)) | omega))⟩
    · go_ret
      exact ⟨_, rfl, CvB.made _ _ _ [111, 108, 100] _ _ _ _ (by simp) (by simp) rfl rfl, by (repeat (first | with_reducible exact hB | with_reducible exact Below.refl _ _ | with_reducible refine Below.drew ?_ | with_reducible refine below_drewN ?_ _ | with_reducible refine Below.alloc ?_ ?_ _ | with_reducible refine Below.setCell ?_ ?_ _ | (focus (simp; done)) | (focus (simp; omega)) | omega))⟩
    · go_ret
      exact ⟨_, rfl, CvB.made _ _ _ [102, 117, 108, 108] _ _ _ _ (by simp) (by simp) rfl rfl, by (repeat (first | with_reducible exact hB | with_reducible exact Below.refl _ _ | with_reducible refine Below.drew ?_ | with_reducible refine below_drewN ?_ _ | with_reducible refine Below.alloc ?_ ?_ _ | with_reducible refine Below.setCell ?_ ?_ _ | (focus (simp; done)) | (focus (simp; omega)) | omega))⟩
    · go_ret
      exact ⟨_, rfl, CvB.made _ _ _ [108, 111, 115, 116] _ _ _ _ (by simp) (by simp) rfl rfl, by (repeat (first | with_reducible exact hB | with_reducible exact Below.refl _ _ | with_reducible refine Below.drew ?_ | with_reducible refine below_drewN ?_ _ | with_reducible refine Below.alloc ?_ ?_ _ | with_reducible refine Below.setCell ?_ ?_ _ | (focus (simp; done)) | (focus (simp; omega)) | omega))⟩
  · have h1 : ¬ (0 ≤ v) ∨ 6 < v := by omega
    have HV := hide (show verdL v = [] by unfold verdL; rw [if_neg (by omega), if_neg (by omega), if_neg (by omega), if_neg (by omega), if_neg (by omega), if_neg (by omega), if_neg (by omega)])
    rcases h1 with h1 | h1
    · go_enter Try.func30, Try.ntmps30
      go_wp2
      go_ret
      exact ⟨_, rfl, by rw [HV.out]; exact .inl ⟨rfl, rfl⟩, by (repeat (first | with_reducible exact hB | with_reducible exact Below.refl _ _ | with_reducible refine Below.drew ?_ | with_reducible refine below_drewN ?_ _ | with_reducible refine Below.alloc ?_ ?_ _ | with_reducible refine Below.setCell ?_ ?_ _ | (focus (simp; done)) | (focus (simp; omega)) | omega))⟩
    · have h2 : 0 ≤ v := by omega
      go_enter Try.func30, Try.ntmps30
      go_wp2
      go_ret
      exact ⟨_, rfl, by rw [HV.out]; exact .inl ⟨rfl, rfl⟩, by (repeat (first | with_reducible exact hB | with_reducible exact Below.refl _ _ | with_reducible refine Below.drew ?_ | with_reducible refine below_drewN ?_ _ | with_reducible refine Below.alloc ?_ ?_ _ | with_reducible refine Below.setCell ?_ ?_ _ | (focus (simp; done)) | (focus (simp; omega)) | omega))⟩
end Go.Proofs.Ytdoijnmgnocjaaa
