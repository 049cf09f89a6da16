/- The laws' own helpers over ints and rows of ints: szIntS, szIntSS, toIntS, toIntSS, eqIntS, eqIntSS. -/
import Derived.Test.YtfmnhdemhbbjlaaGrInts
import Derived.Deep.RegionHeld3
namespace Go.Proofs.Ytfmnhdemhbbjlaa
open Go.ChangeShapes Go.WideShapes Go.ChangeAt Go.RowKit Go.Joins
set_option linter.unusedVariables false
set_option linter.unusedSimpArgs false

/-- What is left behind the first k rows; below 0: -1. -/
def leftTo (ll : List (List Int)) (n : Int) : Nat → Int
  | 0 => n - ll.length
  | k + 1 => leftTo ll n k - (ll.getD k []).length
theorem leftTo_le (ll : List (List Int)) (n : Int) : ∀ k, leftTo ll n k ≤ n - ll.length
  | 0 => Int.le_refl _
  | k + 1 => by have := leftTo_le ll n k; unfold leftTo; omega
/-- All rows fit. -/
def fits (ll : List (List Int)) (n : Int) : Prop := ∀ k, k ≤ ll.length → 0 ≤ leftTo ll n k
def leftLL (ll : List (List Int)) (n : Int) : Int := leftTo ll n ll.length

/-- The row of ints that is filled, at its (k+1)st store. -/
theorem fillI_step {w wr : World} {base g c : Nat} {l : List Int} {k : Nat} (hk : k < l.length) (hg : base ≤ g) (hown : wr.ownsRow w.heap.size 3 1 (.slice (some ⟨g, 0, none⟩) l.length c) l.length ((fillL layI l k).flatMap layI.cs))
    (hB : Below base w wr) : (wr.setCell ⟨g, k, none⟩ (.int .i64 (l.getD k 0))).ownsRow w.heap.size 3 1 (.slice (some ⟨g, 0, none⟩) l.length c) l.length ((fillL layI l (k + 1)).flatMap layI.cs) ∧
      Below base w (wr.setCell ⟨g, k, none⟩ (.int .i64 (l.getD k 0))) := by
  have h := (hown.stored k (.int .i64 (l.getD k 0))).1
  rw [flat_set1 layI rfl (a := l.getD k 0) rfl, show l.getD k 0 = l.getD k layI.d from rfl, fillL_set layI l k hk] at h
  exact ⟨h, hB.setCell (p := ⟨g, k, none⟩) hg _⟩

/-- The rows that have been copied so far: the outer row's heads, and how each reads. -/
structure Rows2 (ll : List (List Int)) (k g lo : Nat) (wr : World) (base : Nat) (hs : List Hd) : Prop where
  len : hs.length = k
  own : wr.ownsRow base 117 1 (.slice (some ⟨g, 0, none⟩) ll.length ll.length) ll.length ((hs ++ List.replicate (ll.length - k) layH.d).flatMap layH.cs)
  row : ∀ i, i < k → (hs.getD i (none, 0, 0)).2.1 = (ll.getD i []).length ∧ RdLo layI lo wr.heap.size wr (hs.getD i (none, 0, 0)).1 (ll.getD i [])

theorem Rows2.kept {ll : List (List Int)} {k g lo : Nat} {wr w' : World} {base : Nat} {hs : List Hd} (h : Rows2 ll k g lo wr base hs) (hb : Below wr.heap.size wr w') : Rows2 ll k g lo w' base hs :=
  ⟨h.len, own_kept h.own hb, fun i hi => ⟨(h.row i hi).1, ((h.row i hi).2.kept hb (Nat.le_refl _)).le hb.size⟩⟩
theorem Rows2.step {ll : List (List Int)} {k g lo : Nat} {wr : World} {base : Nat} {hs : List Hd} {o : Option Addr} {c : Nat} (h : Rows2 ll k g lo wr base hs) (hk : k < ll.length) (hg : g < lo) (hr : RdLo layI lo wr.heap.size wr o (ll.getD k [])) :
    Rows2 ll (k + 1) g lo (wr.setCell ⟨g, k, none⟩ (.slice o (ll.getD k []).length c)) base (hs ++ [(o, (ll.getD k []).length, c)]) := by
  have hsz : (wr.setCell ⟨g, k, none⟩ (.slice o (ll.getD k []).length c)).heap.size = wr.heap.size := by simp
  have hlen := h.len
  refine ⟨by simp [hlen], ?_, fun i hi => ?_⟩
  · have h1 := (h.own.stored k (.slice o (ll.getD k []).length c)).1
    rw [flat_set1 layH rfl (a := (o, (ll.getD k []).length, c)) rfl] at h1
    have e1 : ll.length - k = (ll.length - (k + 1)) + 1 := by omega
    rw [e1, List.replicate_succ, List.set_append_right _ _ (by omega), hlen, Nat.sub_self, List.set_cons_zero] at h1
    rw [List.append_assoc]
    exact h1
  · rcases Nat.lt_succ_iff_lt_or_eq.1 hi with h' | h'
    · have e : (hs ++ [(o, (ll.getD k []).length, c)]).getD i (none, 0, 0) = hs.getD i (none, 0, 0) := by
        rw [List.getD_eq_getElem?_getD, List.getElem?_append_left (by omega), ← List.getD_eq_getElem?_getD]
      rw [e, hsz]
      exact ⟨(h.row i h').1, (h.row i h').2.put hg⟩
    · subst h'
      have e : (hs ++ [(o, (ll.getD i []).length, c)]).getD i (none, 0, 0) = (o, (ll.getD i []).length, c) := by
        rw [List.getD_eq_getElem?_getD, List.getElem?_append_right (by omega), hlen, Nat.sub_self]; rfl
      rw [e, hsz]
      exact ⟨rfl, hr.put hg⟩
theorem Rows2.all {ll : List (List Int)} {g lo : Nat} {wr : World} {base : Nat} {hs : List Hd} (h : Rows2 ll ll.length g lo wr base hs) : RdLL wr.heap.size wr (some ⟨g, 0, none⟩) ll := by
  have ho := h.own
  rw [Nat.sub_self, List.replicate_zero, List.append_nil] at ho
  have hl := h.len
  have ho' : ownL layH 117 wr base (.slice (some ⟨g, 0, none⟩) hs.length ll.length) hs := by
    rw [hl]; exact (by unfold ownL; rw [hl]; exact ho)
  exact ⟨hs, hl, ho'.rd, fun i hi => ⟨(h.row i hi).1, (h.row i hi).2.rd⟩⟩

set_option maxHeartbeats 1000000 in
theorem eqIntSS_same (o1 o2 : Option Addr) (c1 c2 : Nat) (ll : List (List Int)) (w : World) (h1 : RdLL w.heap.size w o1 ll) (h2 : RdLL w.heap.size w o2 ll) (hl : ll.length ≤ 1048576) (hx : ∀ i, i < ll.length → (ll.getD i []).length ≤ 1048576) :
    Calls Try.prog 81 #[.slice o1 ll.length c1, .slice o2 ll.length c2] w fun e w' => e = .returned (.bool true) ∧ Below w.heap.size w w' := by
  go_enter Try.func81, Try.ntmps81
  go_wp2
  go_loopw [5] (fun i wr => ∃ k : Nat, k ≤ ll.length ∧ i = .int .i64 k ∧ Below w.heap.size w wr)
    (fun i _ => ll.length - (intOf i).toNat)
  case atStart => exact ⟨0, Nat.zero_le _, rfl, Below.refl _ _⟩
  case round =>
    obtain ⟨k, hk, rfl, hBr⟩ := hrel
    by_cases hlt : k < ll.length
    · obtain ⟨b1, off1, o1', c1', rfl, hb1, hc1, hr1⟩ := ((h1.kept hBr (Nat.le_refl _)).le hBr.size).at (Nat.le_refl _) k hlt
      obtain ⟨b2, off2, o2', c2', rfl, hb2, hc2, hr2⟩ := ((h2.kept hBr (Nat.le_refl _)).le hBr.size).at (Nat.le_refl _) k hlt
      have hxk := hx k hlt
      have HB := hide hBr
      have G1 := Grown.cell hc1 hb1
      have G2 := Grown.cell hc2 hb2
      have HE := hide (fun p : Grown wr => eqIntS_same o1' o2' c1' c2' (ll.getD k []) p.v ((hr1.kept p.b (Nat.le_refl _)).le p.b.size) ((hr2.kept p.b (Nat.le_refl _)).le p.b.size) hxk)
      clear hBr hr1 hr2 hx h1 h2 hc1 hc2
      have i1 : (k : Int) < (ll.length : Int) := by omega
      generalize ll.getD k [] = row at *
      go_wp2
      (refine wp_region_grown (by kernel_rfl) (by kernel_rfl) ?_; intro hne9; (repeat (go_big_quiet_step ((go_at_call 98; exact grown_of _ (HE.out _))))); (with_reducible refine wpQuiet_nil ?_); intro _ hw9; obtain ⟨pq, hw8⟩ := hw9; subst hw8)
      go_wp2
      go_roundw
      case rel => exact ⟨k + 1, by omega, by go_num, HB.out.trans (pq.b.mono HB.out.size)⟩
      case measure => simp [intOf]; omega
    · have e : k = ll.length := by omega
      subst e
      go_wp2
      go_ret
      exact ⟨rfl, hBr⟩

end Go.Proofs.Ytfmnhdemhbbjlaa
