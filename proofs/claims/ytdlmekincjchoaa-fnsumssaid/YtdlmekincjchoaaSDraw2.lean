/- Draws of numbers out of a list, and of bytes. -/
import Derived.Test.YtdlmekincjchoaaSDraw
import Derived.Test.YtdlmekincjchoaaApp
namespace Go.Proofs.Ytdlmekincjchoaa
open Go.ChangeShapes Go.WideShapes Go.ChangeAt Go.RowKit Go.Joins
set_option linter.unusedVariables false
set_option linter.unusedSimpArgs false

theorem grown_cell {w w' : World} {k g o : Nat} (h : w.grownBy w' (some k)) (hg : g < w.heap.size) (hne : g ≠ k) : w'.cell? ⟨g, o, none⟩ = w.cell? ⟨g, o, none⟩ :=
  World.cell?_of_block (w := w) (h.block g hg (by simp [hne]))

set_option maxHeartbeats 1000000 in
theorem l1PickInt_any (k g : Nat) (vs : List Int) (w : World) (hc : isCur k w) (hg : g < w.heap.size) (hne : g ≠ k) (h0 : 0 < vs.length) (h1 : vs.length ≤ 1000) (hcell : ∀ q, q < vs.length → w.cell? ⟨g, q, none⟩ = some (.int .i64 (vs.getD q 0))) :
    Calls Try.prog 75 #[.pointer (some ⟨k, 0, none⟩), .slice (some ⟨g, 0, none⟩) vs.length vs.length] w fun e w' => ∃ q : Nat, q < vs.length ∧ e = .returned (.int .i64 (vs.getD q 0)) ∧ isCur k w' ∧ w.grownBy w' (some k) := by
  generalize hn : vs.length = n at *
  go_enter Try.func75, Try.ntmps75
  go_wp2_with fail
  refine (l1Below_any k (n : Int) _ hc (by omega) (by omega)).mono ?_
  rintro e w1 ⟨x, rfl, hx0, hx1, hc1, hg1⟩
  obtain ⟨q, rfl⟩ := Int.eq_ofNat_of_zero_le hx0
  have hq : q < n := by omega
  have c := (grown_cell hg1 hg hne).trans (hcell q hq)
  have HC := hide hc1
  have HG := hide hg1
  clear hc hc1 hg1 hcell
  generalize hy : vs.getD q 0 = y at *
  have HY := hide hy
  clear hy
  go_wp2
  go_ret
  exact ⟨q, hq, ret_int HY.out.symm, HC.out, HG.out⟩

theorem rd_one (w : World) (x : Int) (e : TypeId) : Rd (w.alloc (.cells #[.int .u8 x] e)) (some ⟨w.heap.size, 0, none⟩) [x] := by
  right
  refine ⟨w.heap.size, 0, rfl, by simp, fun i hi => ?_⟩
  have : i = 0 := by simpa using hi
  subst this
  simp
theorem own_other {w w' : World} {base k : Nat} {v : Value} {l : List Int} (h : ownB w base v l) (hg : w.grownBy w' (some k)) (hk : k < base) : ownB w' base v l :=
  h.kept hg (by
    cases hob : v.ownBlock with
    | none => exact .inl rfl
    | some j => right; have := (h.lt j hob).1; intro e; simp at e; omega)
theorem below_of_grown {w w' : World} {k : Nat} (h : w.grownBy w' (some k)) (hk : k < w.heap.size) : Below k w w' := (Below.refl _ _).grown h (Nat.le_of_lt hk) (fun j e => by cases e; exact Nat.le_refl _)
theorem isCur.below {k : Nat} {w w' : World} (h : isCur k w) (hb : Below (k + 1) w w') : isCur k w' := by
  obtain ⟨o, cap, l, i, hh, c⟩ := h
  exact ⟨o, cap, l, i, hh, ⟨(hb.cell (p := ⟨k, 0, none⟩) (Nat.lt_succ_self _)).trans c.c0, (hb.cell (p := ⟨k, 1, none⟩) (Nat.lt_succ_self _)).trans c.c1, (hb.cell (p := ⟨k, 2, none⟩) (Nat.lt_succ_self _)).trans c.c2,
    (hb.frozen (p := ⟨k, 1, none⟩) (Nat.lt_succ_self _)).trans c.f1, (hb.frozen (p := ⟨k, 2, none⟩) (Nat.lt_succ_self _)).trans c.f2, c.ml, c.rd.kept hb (Nat.le_succ _), c.b8, c.i0, c.i1⟩⟩

set_option maxHeartbeats 2000000 in
theorem l1someBytes_any (k : Nat) (w : World) (hc : isCur k w) (hk : k < w.heap.size) :
    Calls Try.prog 43 #[.pointer (some ⟨k, 0, none⟩), .int .i64 20] w fun e w' => ∃ v L, e = .returned v ∧ ownB w' w.heap.size v L ∧ isB L ∧ L.length ≤ 20 ∧ isCur k w' ∧ Below k w w' := by
  go_enter Try.func43, Try.ntmps43
  go_wp2_with fail
  refine (l1Below_any k 21 _ hc (by omega) (by omega)).mono ?_
  rintro e w1 ⟨n, rfl, hn0, hn1, hc1, hg1⟩
  have hb1 := below_of_grown hg1 hk
  have hs1 : w.heap.size ≤ w1.heap.size := hg1.size
  have H1 := hide hc1
  have H2 := hide hb1
  clear hc hc1 hg1 hb1
  go_wp2
  go_loopw [5, 7] (fun v i wr => ∃ (j : Nat) (L : List Int), (j : Int) ≤ n ∧ i = .int .i64 j ∧ ownB wr w.heap.size v L ∧ L.length = j ∧ isB L ∧ isCur k wr ∧ Below k w wr ∧ w.heap.size ≤ wr.heap.size)
    (fun _ i _ => n.toNat - (intOf i).toNat)
  case atStart => exact ⟨0, [], hn0, rfl, World.ownsRow_nil _ _ _ _, rfl, fun x hx => (by cases hx), H1.out, H2.out, hs1⟩
  case round =>
    obtain ⟨j, L, hj, rfl, hv, hL, hLb, hcr, hbr, hsr⟩ := hrel
    have HL := hide hL
    have hLn : L.length ≤ 20 := by omega
    clear hL
    by_cases hlt : (j : Int) < n
    · go_wp2_with fail
      refine (l1Byte_any k _ hcr).mono ?_
      rintro e w2 ⟨y, rfl, hy0, hy1, hc2, hg2⟩
      have hv2 := own_other hv hg2 hk
      have hb2 : Below k w w2 := hbr.trans (below_of_grown hg2 (by omega))
      have hs2 : w.heap.size ≤ w2.heap.size := Nat.le_trans hsr hg2.size
      have hc3 : isCur k (w2.alloc (.cells #[.int .i64 0, .int .i64 255, .int .i64 y] 3)) := hc2.below ((Below.refl _ _).alloc (by omega) _)
      have hv3 : ownB (w2.alloc (.cells #[.int .i64 0, .int .i64 255, .int .i64 y] 3)) w.heap.size u5 L := hv2.alloc _
      go_wp2_with fail
      refine (l1PickInt_any k w2.heap.size [0, 255, y] _ hc3 (by simp) (by omega) (by simp) (by simp) ?hcl).mono ?_
      case hcl =>
        intro q hq
        have : q = 0 ∨ q = 1 ∨ q = 2 := by simp at hq; omega
        rcases this with h | h | h <;> subst h <;> simp
      rintro e w4 ⟨q, hq, rfl, hc4, hg4⟩
      have hx : 0 ≤ ([0, 255, y] : List Int).getD q 0 ∧ ([0, 255, y] : List Int).getD q 0 ≤ 255 := by
        have : q = 0 ∨ q = 1 ∨ q = 2 := by simp at hq; omega
        rcases this with h | h | h <;> subst h <;> simp <;> omega
      generalize ([0, 255, y] : List Int).getD q 0 = x at *
      have hv4 := own_other hv3 hg4 hk
      have hs4 : w.heap.size ≤ w4.heap.size := by have := hg4.size; simp at this; omega
      have hb4 : Below k w w4 := (hb2.alloc (by omega) _).trans (below_of_grown hg4 (by simp; omega))
      have HC4 := hide hc4
      clear hc2 hc3 hc4 hg4 hg2 hv2 hv3 hv hcr hbr hb2 hq
      go_wp2_with (at_builtin; refine wpList_append_bytes rfl (.tmp 17) (.tmp 24) rfl w.heap.size u5 L rfl (hv4.alloc _) (some ⟨w4.heap.size, 0, none⟩) 1 [x] rfl (by simp) (rd_one w4 x _) (by simp; omega) (by simp; omega) ?_)
      intro v5 w5 hv5 _ hb5
      have hb5' : Below w.heap.size w4 w5 := by
        refine Below.trans ?_ hb5
        exact (Below.refl _ _).alloc hs4 _
      have R : Hid (ownB w5 w.heap.size v5 (L ++ [x]) ∧ isCur k w5 ∧ Below k w w5 ∧ w.heap.size ≤ w5.heap.size) :=
        ⟨hv5, HC4.out.below (hb5'.mono hk), hb4.trans (hb5'.mono (Nat.le_of_lt hk)), Nat.le_trans hs4 hb5'.size⟩
      have hLx : Hid (isB (L ++ [x])) := by
        intro z hz
        rcases List.mem_append.1 hz with h | h
        · exact hLb z h
        · have : z = x := by simpa using h
          omega
      clear hv5 hb5 hb5' hb4 hv4
      go_wp2
      go_roundw
      case rel => exact ⟨j + 1, L ++ [x], by omega, by go_num, R.out.1, by have := HL.out; simp; omega, hLx.out, R.out.2.1, R.out.2.2.1, R.out.2.2.2⟩
      case measure => simp [intOf]; omega
    · have HV := hide hv
      have HCc := hide hcr
      have HB := hide hbr
      clear hv hcr hbr
      go_wp2
      go_ret
      exact ⟨_, rfl, L, HV.out, hLb, hLn, HCc.out, HB.out⟩

set_option maxHeartbeats 1000000 in
theorem drawCheckSum_any (o : Option Addr) (cap : Nat) (l : List Int) (w : World) (hR : Rd w o l) (hB8 : isB l) (hm : l.length ≤ maxLen) :
    Calls Try.prog 11 #[.slice o l.length cap] w fun e w' => ∃ v L, e = .returned v ∧ ownB w' w.heap.size v L ∧ isB L ∧ L.length ≤ 20 ∧ Below w.heap.size w w' := by
  go_enter Try.func11, Try.ntmps11
  go_wp2_with fail
  refine (l1New_any o cap l _ hR hB8 hm).mono ?_
  rintro e w1 ⟨rfl, hc1, hb1, hs1⟩
  go_wp2_with fail
  refine (l1someBytes_any w.heap.size _ hc1 hs1).mono ?_
  rintro e w2 ⟨v, L, rfl, hv, hL, hn, hc2, hb2⟩
  have R : Hid (ownB w2 w.heap.size v L ∧ isB L ∧ L.length ≤ 20 ∧ Below w.heap.size w w2) := ⟨own_mono hv (Nat.le_of_lt hs1), hL, hn, hb1.trans hb2⟩
  clear hc1 hb1 hv hL hn hc2 hb2
  go_wp2
  go_ret
  exact ⟨_, L, rfl, R.out.1, R.out.2.1, R.out.2.2.1, R.out.2.2.2⟩

end Go.Proofs.Ytdlmekincjchoaa
