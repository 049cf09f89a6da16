/- Where somebody stands in a list of those who serve, or would have to; what a command makes of the list. -/
import Derived.Test.YtldjaapbkihibaaSBacks2
import Derived.Test.YtldjaapbkihibaaGrow
namespace Go.Proofs.Ytldjaapbkihibaa
open Go.ChangeShapes Go.WideShapes Go.ChangeAt Go.RowKit Go.Joins
set_option linter.unusedVariables false
set_option linter.unusedSimpArgs false

/-- How many at the list's beginning have an Id below id. -/
def placeN (l : List Bk) (id : Int) : Nat := (l.takeWhile (fun b => decide (b.1 < id))).length
theorem placeN_le (l : List Bk) (id : Int) : placeN l id ≤ l.length := by
  unfold placeN; exact (List.takeWhile_sublist _).length_le
theorem placeN_lt : ∀ (l : List Bk) (id : Int) (k : Nat), k < placeN l id → (l.getD k (0, 0, false)).1 < id
  | [], id, k, h => by simp [placeN] at h
  | b :: l, id, k, h => by
    unfold placeN at h
    rw [List.takeWhile_cons] at h
    by_cases hb : b.1 < id
    · simp [hb] at h
      cases k with
      | zero => simpa using hb
      | succ k => simpa using placeN_lt l id k (by unfold placeN; omega)
    · simp [hb] at h
theorem placeN_at : ∀ (l : List Bk) (id : Int), placeN l id < l.length → ¬ (l.getD (placeN l id) (0, 0, false)).1 < id
  | [], id, h => by simp at h
  | b :: l, id, h => by
    by_cases hb : b.1 < id
    · have e : placeN (b :: l) id = placeN l id + 1 := by unfold placeN; rw [List.takeWhile_cons]; simp [hb]
      rw [e] at h ⊢
      simpa using placeN_at l id (by simpa using h)
    · have e : placeN (b :: l) id = 0 := by unfold placeN; rw [List.takeWhile_cons]; simp [hb]
      rw [e]
      simpa using hb
/-- The place is the one behind all that are below. -/
theorem placeN_eq {l : List Bk} {id : Int} {k : Nat} (hk : k ≤ l.length) (h1 : ∀ j, j < k → (l.getD j (0, 0, false)).1 < id) (h2 : k = l.length ∨ ¬ (l.getD k (0, 0, false)).1 < id) : placeN l id = k := by
  rcases Nat.lt_trichotomy (placeN l id) k with h | h | h
  · exact absurd (h1 _ h) (placeN_at l id (by omega))
  · exact h
  · have := placeN_lt l id k h
    have := placeN_le l id
    rcases h2 with h2 | h2
    · omega
    · exact absurd ‹_› h2
def thereB (l : List Bk) (id : Int) : Bool := decide (placeN l id < l.length) && ((l.getD (placeN l id) (0, 0, false)).1 == id)

/-- What a command makes of those who serve; none: it can't be done. -/
def doL (l : List Bk) (k i g : Int) : Option (List Bk) :=
  if thereB l i = (k == 0) then none
  else some (
    if k = 0 then l.take (placeN l i) ++ (i, g, false) :: l.drop (placeN l i)
    else if k = 1 then l.set (placeN l i) (i, g, (l.getD (placeN l i) (0, 0, false)).2.2)
    else if k = 2 then l.set (placeN l i) (i, (l.getD (placeN l i) (0, 0, false)).2.1, true)
    else l.take (placeN l i) ++ l.drop (placeN l i + 1))

set_option maxHeartbeats 2000000 in
theorem placeOf_any (o : Option Addr) (cap : Nat) (l : List Bk) (id : Int) (w : World) (hR : RdK w.heap.size w o l) (hl : l.length ≤ 1048576) :
    Calls Try.prog 108 #[.slice o l.length cap, .int .i64 id] w fun e w' => e = .returned (.tuple #[.int .i64 (placeN l id), .bool (thereB l id)]) ∧ Below w.heap.size w w' := by
  go_enter Try.func108, Try.ntmps108
  go_wp2
  go_loop [6] (fun av => ∃ k : Nat, k ≤ l.length ∧ av = .int .i64 k ∧ Hid (∀ j, j < k → (l.getD j (0, 0, false)).1 < id))
    (fun av => l.length - (intOf av).toNat)
  case atStart => exact ⟨0, Nat.zero_le _, rfl, fun j hj => absurd hj (Nat.not_lt_zero _)⟩
  case round =>
    obtain ⟨k, hk, rfl, HJ⟩ := hrel
    by_cases hlt : k < l.length
    · rcases hR with hR | ⟨b, off, rfl, hbl, hcell⟩
      · subst hR; simp at hlt
      obtain ⟨x, y, z, hxy⟩ : ∃ x y z, l.getD k (0, 0, false) = (x, y, z) := ⟨_, _, _, rfl⟩
      have hcx := (RdL.back (C := w.heap.size) hcell k hlt).1
      rw [hxy] at hcx
      dsimp only at hcx
      have z1 : (k : Int) < (l.length : Int) := by omega
      by_cases hx : x < id
      · have HJ2 : Hid (∀ j, j < k + 1 → (l.getD j (0, 0, false)).1 < id) := fun j hj => by
          rcases Nat.lt_succ_iff_lt_or_eq.1 hj with h | h
          · exact HJ.out j h
          · rw [h, hxy]; exact hx
        clear hxy hcell
        go_wp2
        go_round
        case rel => exact ⟨k + 1, by omega, by go_num, HJ2⟩
        case measure => simp [intOf]; omega
      · have hp : placeN l id = k := placeN_eq (Nat.le_of_lt hlt) HJ.out (.inr (by rw [hxy]; exact hx))
        have HT := hide (show thereB l id = (x == id) by unfold thereB; rw [hp, hxy]; simp [hlt])
        have HP := hide hp
        have G0 := Grown.cell hcx hbl
        clear hxy hcell hp HJ
        go_wp2
        (refine wp_region_grown (by kernel_rfl) (by kernel_rfl) ?_; intro hne9; (repeat (go_big_quiet_step ((fail)))); (with_reducible refine wpQuiet_nil ?_); intro _ hw9; obtain ⟨pq, hw8⟩ := hw9; subst hw8)
        have HB := hide pq.b
        go_wp2
        go_ret2
        exact ⟨by rw [HP.out, HT.out]; rfl, HB.out⟩
    · have e : k = l.length := by omega
      have hp : placeN l id = l.length := placeN_eq (Nat.le_refl _) (e ▸ HJ.out) (.inl rfl)
      have HT := hide (show thereB l id = false by unfold thereB; rw [hp]; simp)
      have HP := hide hp
      subst e
      clear hp HJ
      go_wp2
      (refine wp_region_grown (by kernel_rfl) (by kernel_rfl) ?_; intro hne9; (repeat (go_big_quiet_step ((fail)))); (with_reducible refine wpQuiet_nil ?_); intro _ hw9; obtain ⟨pq, hw8⟩ := hw9; subst hw8)
      have HB := hide pq.b
      go_wp2
      go_ret2
      exact ⟨by rw [HP.out, HT.out]; rfl, HB.out⟩

end Go.Proofs.Ytldjaapbkihibaa
