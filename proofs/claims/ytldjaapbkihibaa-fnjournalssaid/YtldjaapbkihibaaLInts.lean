/- The laws' own helpers over ints and rows of ints: szIntS, szIntSS, toIntS, toIntSS, eqIntS, eqIntSS. -/
import Derived.Test.YtldjaapbkihibaaInts
import Derived.Deep.RegionHeld3
namespace Go.Proofs.Ytldjaapbkihibaa
open Go.ChangeShapes Go.WideShapes Go.ChangeAt Go.RowKit Go.Joins
set_option linter.unusedVariables false
set_option linter.unusedSimpArgs false

set_option maxHeartbeats 400000 in
theorem szIntS_any (o : Option Addr) (len cap : Nat) (n : Int) (w : World) (hl : len ≤ maxLen) (h0 : 0 ≤ n) (h1 : n ≤ 1048576) :
    Calls Try.prog 136 #[.slice o len cap, .int .i64 n] w fun e w' => e = .returned (.int .i64 (if n - len < 0 then -1 else n - len)) ∧ w = w' := by
  unfold maxLen at hl
  by_cases h : n - len < 0
  · rw [if_pos h]
    go_enter Try.func136, Try.ntmps136
    go_wp2
    go_ret
    exact ⟨rfl, rfl⟩
  · rw [if_neg h]
    go_enter Try.func136, Try.ntmps136
    go_wp2
    go_ret
    exact ⟨rfl, rfl⟩

/-- What is left behind the first k rows; below 0: -1. -/
def leftTo (ll : List (List Int)) (n : Int) : Nat → Int
  | 0 => n - ll.length
  | k + 1 => leftTo ll n k - (ll.getD k []).length
theorem leftTo_le (ll : List (List Int)) (n : Int) : ∀ k, leftTo ll n k ≤ n - ll.length
  | 0 => Int.le_refl _
  | k + 1 => by have := leftTo_le ll n k; unfold leftTo; omega
/-- All rows fit. -/
def fits (ll : List (List Int)) (n : Int) : Prop := ∀ k, k ≤ ll.length → 0 ≤ leftTo ll n k
def leftLL (ll : List (List Int)) (n : Int) : Int := leftTo ll n ll.length

set_option maxHeartbeats 1000000 in
theorem szIntSS_any (o : Option Addr) (ll : List (List Int)) (cap : Nat) (n : Int) (w : World) (hR : RdLL w.heap.size w o ll) (hl : ll.length ≤ maxLen) (hx : ∀ i, i < ll.length → (ll.getD i []).length ≤ maxLen) (h0 : 0 ≤ n) (h1 : n ≤ 1048576) :
    Calls Try.prog 118 #[.slice o ll.length cap, .int .i64 n] w fun e w' => (e = .returned (.int .i64 (-1)) ∨ fits ll n ∧ e = .returned (.int .i64 (leftLL ll n))) ∧ Below w.heap.size w w' := by
  have hl' := hl
  unfold maxLen at hl'
  by_cases h : n - ll.length < 0
  · go_enter Try.func118, Try.ntmps118
    go_wp2
    go_ret
    exact ⟨.inl rfl, Below.refl _ _⟩
  · go_enter Try.func118, Try.ntmps118
    go_wp2
    go_loopw [1, 5] (fun n' i wr => ∃ k : Nat, k ≤ ll.length ∧ i = .int .i64 k ∧ n' = .int .i64 (leftTo ll n k) ∧ (∀ j, j ≤ k → 0 ≤ leftTo ll n j) ∧ Below w.heap.size w wr)
      (fun _ i _ => ll.length - (intOf i).toNat)
    case atStart =>
      refine ⟨0, Nat.zero_le _, rfl, rfl, fun j hj => ?_, Below.refl _ _⟩
      have : j = 0 := by omega
      subst this
      show 0 ≤ n - ll.length
      omega
    case round =>
      obtain ⟨k, hk, rfl, rfl, hpos, hBr⟩ := hrel
      have hle := leftTo_le ll n k
      have hp := hpos k (Nat.le_refl _)
      by_cases hlt : k < ll.length
      · obtain ⟨b, off, o', c', rfl, hb, hc, hr⟩ := ((hR.kept hBr (Nat.le_refl _)).le hBr.size).at (Nat.le_refl _) k hlt
        have hxk := hx k hlt
        have HS := hide (show leftTo ll n (k + 1) = leftTo ll n k - (ll.getD k []).length from rfl)
        have HP := hide hpos
        have HB := hide hBr
        have hz := fun W => szIntS_any o' (ll.getD k []).length c' (leftTo ll n k) W hxk hp (by omega)
        unfold maxLen at hxk
        clear hpos hr hBr hx
        generalize (ll.getD k []).length = q at *
        generalize hlk : leftTo ll n k = z at *
        by_cases hneg : z - q < 0
        · rw [if_pos hneg] at hz
          go_wp2_with fail
          refine (hz _).mono ?_
          rintro e w2 ⟨rfl, rfl⟩
          go_wp2
          go_ret
          exact ⟨.inl rfl, HB.out⟩
        · rw [if_neg hneg] at hz
          go_wp2_with fail
          refine (hz _).mono ?_
          rintro e w2 ⟨rfl, rfl⟩
          go_wp2
          go_roundw
          case rel =>
            refine ⟨k + 1, by omega, by go_num, by rw [HS.out], fun j hj => ?_, HB.out⟩
            rcases Nat.lt_succ_iff_lt_or_eq.1 (Nat.lt_succ_of_le hj) with h' | h'
            · exact HP.out j (by omega)
            · rw [h', HS.out]; omega
          case measure => simp [intOf]; omega
      · have e : k = ll.length := by omega
        subst e
        have HE := hide (show leftTo ll n ll.length = leftLL ll n from rfl)
        have HF := hide (show fits ll n from hpos)
        clear hpos
        go_wp2
        go_ret
        exact ⟨.inr ⟨HF.out, ret_int HE.out⟩, hBr⟩

/-- The row of ints that is filled, at its (k+1)st store. -/
theorem fillI_step {w wr : World} {base g c : Nat} {l : List Int} {k : Nat} (hk : k < l.length) (hg : base ≤ g) (hown : wr.ownsRow w.heap.size 3 1 (.slice (some ⟨g, 0, none⟩) l.length c) l.length ((fillL layI l k).flatMap layI.cs))
    (hB : Below base w wr) : (wr.setCell ⟨g, k, none⟩ (.int .i64 (l.getD k 0))).ownsRow w.heap.size 3 1 (.slice (some ⟨g, 0, none⟩) l.length c) l.length ((fillL layI l (k + 1)).flatMap layI.cs) ∧
      Below base w (wr.setCell ⟨g, k, none⟩ (.int .i64 (l.getD k 0))) := by
  have h := (hown.stored k (.int .i64 (l.getD k 0))).1
  rw [flat_set1 layI rfl (a := l.getD k 0) rfl, show l.getD k 0 = l.getD k layI.d from rfl, fillL_set layI l k hk] at h
  exact ⟨h, hB.setCell (p := ⟨g, k, none⟩) hg _⟩

set_option maxHeartbeats 1000000 in
theorem toIntS_any (o : Option Addr) (cap : Nat) (l : List Int) (w : World) (hR : RdI w.heap.size w o l) (hlen : l.length ≤ 1048576) :
    Calls Try.prog 137 #[.slice o l.length cap] w fun e w' => ∃ g, e = .returned (.slice (some ⟨g, 0, none⟩) l.length l.length) ∧ ownI w' w.heap.size (.slice (some ⟨g, 0, none⟩) l.length l.length) l ∧ Below w.heap.size w w' := by
  obtain ⟨i0, hi, hz0, hz1, hz2⟩ := info_parts infoInt
  have hB : Below w.heap.size w w := Below.refl _ _
  go_enter Try.func137, Try.ntmps137
  go_wp2_with (at_make; refine wpList_make_full _ rfl _ _ 43 rfl w.heap.size 3 i0 (.int .i64 0) 1 Try.underlying43 hi hz0 hz1 _ _ _ _ l.length rfl rfl rfl rfl ?b2 ?b3 ?b4 ?_)
  case b2 => rw [hz2]; omega
  case b3 => unfold maxLen; omega
  case b4 => simp
  intro w1 hown hgrow
  have hB1 : Below w.heap.size w w1 := hB.grown hgrow (Nat.le_refl _) (fun k h => by cases h)
  have hown1 : w1.ownsRow w.heap.size 3 1 (.slice (some ⟨w.heap.size, 0, none⟩) l.length l.length) l.length ((fillL layI l 0).flatMap layI.cs) := by
    rw [fillL_zero, ← made_flat layI (.int .i64 0) rfl, show layI.k = 1 from rfl, Nat.mul_one]; exact hown
  clear hown hgrow hB
  go_wp2
  go_loopw [4] (fun i wr => ∃ k : Nat, k ≤ l.length ∧ i = .int .i64 k ∧ wr.ownsRow w.heap.size 3 1 (.slice (some ⟨w.heap.size, 0, none⟩) l.length l.length) l.length ((fillL layI l k).flatMap layI.cs) ∧ Below w.heap.size w wr)
    (fun i _ => l.length - (intOf i).toNat)
  case atStart => exact ⟨0, Nat.zero_le _, rfl, hown1, hB1⟩
  case round =>
    obtain ⟨k, hk, rfl, hown, hBr⟩ := hrel
    by_cases hlt : k < l.length
    · rcases hR with hR | ⟨b, off, rfl, hbl, hcell⟩
      · subst hR; simp at hlt
      have hc : wr.cell? ⟨b, off + k, none⟩ = some (.int .i64 (l.getD k 0)) := (hBr.cell (p := ⟨b, off + k, none⟩) hbl).trans (RdL.int hcell k hlt)
      have hln : ((fillL layI l k).flatMap layI.cs).length = l.length := by rw [flat_length, fillL_length layI l k hk]; exact Nat.mul_one _
      have hcl := hown.cellAt k (by omega)
      have hfr := hown.frozenAt k
      obtain ⟨u, hu⟩ : ∃ u, wr.cell? ⟨w.heap.size, k, none⟩ = some u := ⟨_, hcl.trans (List.getElem?_eq_getElem (by omega))⟩
      have HR := hide (fillI_step (g := w.heap.size) hlt (Nat.le_refl _) hown hBr)
      clear hown hBr hcl hB1 hown1 hln hcell
      generalize l.getD k 0 = x at *
      go_wp2
      go_roundw
      case rel => exact ⟨k + 1, by omega, by go_num, HR.out.1, HR.out.2⟩
      case measure => simp [intOf]; omega
    · have e : k = l.length := by omega
      subst e
      rw [fillL_all] at hown
      go_wp2
      go_ret
      exact ⟨w.heap.size, rfl, hown, hBr⟩

/-- The rows that have been copied so far: the outer row's heads, and how each reads. -/
structure Rows2 (ll : List (List Int)) (k g lo : Nat) (wr : World) (base : Nat) (hs : List Hd) : Prop where
  len : hs.length = k
  own : wr.ownsRow base 43 1 (.slice (some ⟨g, 0, none⟩) ll.length ll.length) ll.length ((hs ++ List.replicate (ll.length - k) layH.d).flatMap layH.cs)
  row : ∀ i, i < k → (hs.getD i (none, 0, 0)).2.1 = (ll.getD i []).length ∧ RdLo layI lo wr.heap.size wr (hs.getD i (none, 0, 0)).1 (ll.getD i [])

theorem Rows2.kept {ll : List (List Int)} {k g lo : Nat} {wr w' : World} {base : Nat} {hs : List Hd} (h : Rows2 ll k g lo wr base hs) (hb : Below wr.heap.size wr w') : Rows2 ll k g lo w' base hs :=
  ⟨h.len, own_kept h.own hb, fun i hi => ⟨(h.row i hi).1, ((h.row i hi).2.kept hb (Nat.le_refl _)).le hb.size⟩⟩
theorem Rows2.step {ll : List (List Int)} {k g lo : Nat} {wr : World} {base : Nat} {hs : List Hd} {o : Option Addr} {c : Nat} (h : Rows2 ll k g lo wr base hs) (hk : k < ll.length) (hg : g < lo) (hr : RdLo layI lo wr.heap.size wr o (ll.getD k [])) :
    Rows2 ll (k + 1) g lo (wr.setCell ⟨g, k, none⟩ (.slice o (ll.getD k []).length c)) base (hs ++ [(o, (ll.getD k []).length, c)]) := by
  have hsz : (wr.setCell ⟨g, k, none⟩ (.slice o (ll.getD k []).length c)).heap.size = wr.heap.size := by simp
  have hlen := h.len
  refine ⟨by simp [hlen], ?_, fun i hi => ?_⟩
  · have h1 := (h.own.stored k (.slice o (ll.getD k []).length c)).1
    rw [flat_set1 layH rfl (a := (o, (ll.getD k []).length, c)) rfl] at h1
    have e1 : ll.length - k = (ll.length - (k + 1)) + 1 := by omega
    rw [e1, List.replicate_succ, List.set_append_right _ _ (by omega), hlen, Nat.sub_self, List.set_cons_zero] at h1
    rw [List.append_assoc]
    exact h1
  · rcases Nat.lt_succ_iff_lt_or_eq.1 hi with h' | h'
    · have e : (hs ++ [(o, (ll.getD k []).length, c)]).getD i (none, 0, 0) = hs.getD i (none, 0, 0) := by
        rw [List.getD_eq_getElem?_getD, List.getElem?_append_left (by omega), ← List.getD_eq_getElem?_getD]
      rw [e, hsz]
      exact ⟨(h.row i h').1, (h.row i h').2.put hg⟩
    · subst h'
      have e : (hs ++ [(o, (ll.getD i []).length, c)]).getD i (none, 0, 0) = (o, (ll.getD i []).length, c) := by
        rw [List.getD_eq_getElem?_getD, List.getElem?_append_right (by omega), hlen, Nat.sub_self]; rfl
      rw [e, hsz]
      exact ⟨rfl, hr.put hg⟩
theorem Rows2.all {ll : List (List Int)} {g lo : Nat} {wr : World} {base : Nat} {hs : List Hd} (h : Rows2 ll ll.length g lo wr base hs) : RdLL wr.heap.size wr (some ⟨g, 0, none⟩) ll := by
  have ho := h.own
  rw [Nat.sub_self, List.replicate_zero, List.append_nil] at ho
  have hl := h.len
  have ho' : ownL layH 43 wr base (.slice (some ⟨g, 0, none⟩) hs.length ll.length) hs := by
    rw [hl]; exact (by unfold ownL; rw [hl]; exact ho)
  exact ⟨hs, hl, ho'.rd, fun i hi => ⟨(h.row i hi).1, (h.row i hi).2.rd⟩⟩

set_option maxHeartbeats 1000000 in
theorem toIntSS_any (o : Option Addr) (cap : Nat) (ll : List (List Int)) (w : World) (hR : RdLL w.heap.size w o ll) (hlen : ll.length ≤ 1048576) (hx : ∀ i, i < ll.length → (ll.getD i []).length ≤ 1048576) :
    Calls Try.prog 120 #[.slice o ll.length cap] w fun e w' => ∃ g, e = .returned (.slice (some ⟨g, 0, none⟩) ll.length ll.length) ∧ RdLL w'.heap.size w' (some ⟨g, 0, none⟩) ll ∧ Below w.heap.size w w' := by
  obtain ⟨i0, hi, hz0, hz1, hz2⟩ := info_parts infoIntS
  have hB : Below w.heap.size w w := Below.refl _ _
  go_enter Try.func120, Try.ntmps120
  go_wp2_with (at_make; refine wpList_make_full _ rfl _ _ 37 rfl w.heap.size 43 i0 (.slice none 0 0) 1 Try.underlying37 hi hz0 hz1 _ _ _ _ ll.length rfl rfl rfl rfl ?b2 ?b3 ?b4 ?_)
  case b2 => rw [hz2]; omega
  case b3 => unfold maxLen; omega
  case b4 => simp
  intro w1 hown hgrow
  have hB1 : Below w.heap.size w w1 := hB.grown hgrow (Nat.le_refl _) (fun k h => by cases h)
  have hrows1 : Rows2 ll 0 w.heap.size (w.heap.size + 1) w1 w.heap.size [] := by
    refine ⟨rfl, ?_, fun i hi => absurd hi (Nat.not_lt_zero _)⟩
    rw [List.nil_append, Nat.sub_zero, ← made_flat layH (.slice none 0 0) rfl, show layH.k = 1 from rfl, Nat.mul_one]; exact hown
  have hs1 : w.heap.size + 1 ≤ w1.heap.size := (hown.lt w.heap.size rfl).2
  clear hown hgrow hB
  go_wp2
  go_loopw [4] (fun i wr => ∃ (k : Nat) (hs : List Hd), k ≤ ll.length ∧ i = .int .i64 k ∧ Rows2 ll k w.heap.size (w.heap.size + 1) wr w.heap.size hs ∧ w.heap.size + 1 ≤ wr.heap.size ∧ Below w.heap.size w wr)
    (fun i _ => ll.length - (intOf i).toNat)
  case atStart => exact ⟨0, [], Nat.zero_le _, rfl, hrows1, hs1, hB1⟩
  case round =>
    obtain ⟨k, hs, hk, rfl, hrows, hsr, hBr⟩ := hrel
    by_cases hlt : k < ll.length
    · obtain ⟨b, off, o', c', rfl, hb, hc, hr⟩ := ((hR.kept hBr (Nat.le_refl _)).le hBr.size).at (Nat.le_refl _) k hlt
      have hto := toIntS_any o' c' (ll.getD k []) wr hr (hx k hlt)
      clear hr
      generalize hrow : ll.getD k [] = row at *
      have HROW := hide hrow
      clear hrow
      go_wp2_with fail
      refine hto.mono ?_
      rintro e w2 ⟨g2, rfl, hown2, hb2⟩
      have hB2 : Below w.heap.size w w2 := hBr.trans (hb2.mono hBr.size)
      have hrows2 := hrows.kept hb2
      have hrd2 : RdLo layI (w.heap.size + 1) w2.heap.size w2 (some ⟨g2, 0, none⟩) (ll.getD k []) := by
        rw [HROW.out]
        rcases hown2.rdLo with h | ⟨b', off', e', h0, h1, r⟩
        · exact .inl h
        · exact .inr ⟨b', off', e', Nat.le_trans hsr h0, h1, r⟩
      have hln : ((hs ++ List.replicate (ll.length - k) layH.d).flatMap layH.cs).length = ll.length := by rw [flat_length, List.length_append, List.length_replicate, hrows.len, show layH.k = 1 from rfl]; omega
      have hcl := hrows2.own.cellAt k (by omega)
      have hfr := hrows2.own.frozenAt k
      obtain ⟨u, hu⟩ : ∃ u, w2.cell? ⟨w.heap.size, k, none⟩ = some u := ⟨_, hcl.trans (List.getElem?_eq_getElem (by omega))⟩
      have HR := hide (hrows2.step (c := row.length) hlt (Nat.lt_succ_self _) hrd2)
      rw [HROW.out] at HR
      have HB2 := hide (hB2.setCell (p := ⟨w.heap.size, k, none⟩) (Nat.le_refl _) (.slice (some ⟨g2, 0, none⟩) row.length row.length))
      have HS2 := hide (Nat.le_trans hsr hb2.size)
      clear hrows hBr hcl hB1 hrows1 hln hown2 hb2 hB2 hrows2 hrd2 hto hx hc
      go_wp2
      go_roundw
      case rel => exact ⟨k + 1, _, by omega, by go_num, HR.out, by simpa using HS2.out, HB2.out⟩
      case measure => simp [intOf]; omega
    · have e : k = ll.length := by omega
      subst e
      go_wp2
      go_ret
      exact ⟨w.heap.size, rfl, hrows.all, hBr⟩

set_option maxHeartbeats 1000000 in
theorem eqIntSS_same (o1 o2 : Option Addr) (c1 c2 : Nat) (ll : List (List Int)) (w : World) (h1 : RdLL w.heap.size w o1 ll) (h2 : RdLL w.heap.size w o2 ll) (hl : ll.length ≤ 1048576) (hx : ∀ i, i < ll.length → (ll.getD i []).length ≤ 1048576) :
    Calls Try.prog 122 #[.slice o1 ll.length c1, .slice o2 ll.length c2] w fun e w' => e = .returned (.bool true) ∧ Below w.heap.size w w' := by
  go_enter Try.func122, Try.ntmps122
  go_wp2
  go_loopw [5] (fun i wr => ∃ k : Nat, k ≤ ll.length ∧ i = .int .i64 k ∧ Below w.heap.size w wr)
    (fun i _ => ll.length - (intOf i).toNat)
  case atStart => exact ⟨0, Nat.zero_le _, rfl, Below.refl _ _⟩
  case round =>
    obtain ⟨k, hk, rfl, hBr⟩ := hrel
    by_cases hlt : k < ll.length
    · obtain ⟨b1, off1, o1', c1', rfl, hb1, hc1, hr1⟩ := ((h1.kept hBr (Nat.le_refl _)).le hBr.size).at (Nat.le_refl _) k hlt
      obtain ⟨b2, off2, o2', c2', rfl, hb2, hc2, hr2⟩ := ((h2.kept hBr (Nat.le_refl _)).le hBr.size).at (Nat.le_refl _) k hlt
      have hxk := hx k hlt
      have HB := hide hBr
      have G1 := Grown.cell hc1 hb1
      have G2 := Grown.cell hc2 hb2
      have HE := hide (fun p : Grown wr => eqIntS_same o1' o2' c1' c2' (ll.getD k []) p.v ((hr1.kept p.b (Nat.le_refl _)).le p.b.size) ((hr2.kept p.b (Nat.le_refl _)).le p.b.size) hxk)
      clear hBr hr1 hr2 hx h1 h2 hc1 hc2
      have i1 : (k : Int) < (ll.length : Int) := by omega
      generalize ll.getD k [] = row at *
      go_wp2
      (refine wp_region_grown (by kernel_rfl) (by kernel_rfl) ?_; intro hne9; (repeat (go_big_quiet_step ((go_at_call 44; exact grown_of _ (HE.out _))))); (with_reducible refine wpQuiet_nil ?_); intro _ hw9; obtain ⟨pq, hw8⟩ := hw9; subst hw8)
      go_wp2
      go_roundw
      case rel => exact ⟨k + 1, by omega, by go_num, HB.out.trans (pq.b.mono HB.out.size)⟩
      case measure => simp [intOf]; omega
    · have e : k = ll.length := by omega
      subst e
      go_wp2
      go_ret
      exact ⟨rfl, hBr⟩

end Go.Proofs.Ytldjaapbkihibaa
