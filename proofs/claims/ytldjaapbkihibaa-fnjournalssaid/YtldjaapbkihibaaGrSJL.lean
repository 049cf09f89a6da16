/- Several texts in one: SDraw4, SDraw5, SDrawH, SDrawK, SDrP, SDrP2, SDrP3, CandMath, DoSaid, SamePool, LBytes, LMark, ShB, SSum, SJB, SJR0, SJR, SJRI, SJR2, SJR3, SConv, Cut4, JrnMath, SJL. -/
import Derived.Test.YtldjaapbkihibaaGrSDraw3
import Derived.Deep.RegionLaw
import Derived.OwnWalk
import Derived.Test.YtldjaapbkihibaaSPair2
import Derived.Laws.AppendOwnNone
import Derived.Maps.AppendAt
import Derived.Test.YtldjaapbkihibaaGrSDr4c
import Derived.Test.YtldjaapbkihibaaGrSPools
import Derived.BigQuiet
import Derived.Test.YtldjaapbkihibaaBytes
import Derived.Test.YtldjaapbkihibaaGrShJ
import Derived.Test.YtldjaapbkihibaaBits
import Derived.Deep.RegionHeld3
import Derived.Deep.CutRange
import Derived.Laws.BytesArg
/- A drawn packet: fields of any size, a body of at most four bytes that is its own. -/
namespace Go.Proofs.Ytldjaapbkihibaa
open Go.ChangeShapes Go.WideShapes Go.ChangeAt Go.RowKit Go.Joins
set_option linter.unusedVariables false
set_option linter.unusedSimpArgs false

theorem boxed.other {k q : Nat} {a b f s : Int} {v : Value} {w w' : World} (h : boxed q a b f s v w) (hg : w.grownBy w' (some k)) (hq : q < w.heap.size) (hne : q ≠ k) : boxed q a b f s v w' := by
  have e : ∀ o, w'.cell? ⟨q, o, none⟩ = w.cell? ⟨q, o, none⟩ := fun o => grown_cell hg hq hne
  exact ⟨(e 0).trans h.1, (e 1).trans h.2.1, (e 2).trans h.2.2.1, (e 3).trans h.2.2.2.1, (e 4).trans h.2.2.2.2⟩
theorem froz_other {k q o : Nat} {w w' : World} (hg : w.grownBy w' (some k)) (hq : q < w.heap.size) (hne : q ≠ k) : w'.frozen? ⟨q, o, none⟩ = w.frozen? ⟨q, o, none⟩ :=
  World.frozen?_of_block (w := w) (hg.block q hq (by simp [hne]))
theorem empty5.other {k q : Nat} {w w' : World} (h : empty5 q w) (hg : w.grownBy w' (some k)) (hq : q < w.heap.size) (hne : q ≠ k) : empty5 q w' :=
  ⟨h.1.other hg hq hne, (froz_other hg hq hne).trans h.2.1, (froz_other hg hq hne).trans h.2.2.1, (froz_other hg hq hne).trans h.2.2.2.1, (froz_other hg hq hne).trans h.2.2.2.2.1, (froz_other hg hq hne).trans h.2.2.2.2.2⟩

theorem boxed.put4 {k : Nat} {a b f s : Int} {v v' : Value} {w : World} (h : boxed k a b f s v w) : boxed k a b f s v' (w.setCell ⟨k, 4, none⟩ v') := by
  refine ⟨?_, ?_, ?_, ?_, World.cell?_setCell_same w _ _ h.2.2.2.2⟩
  · exact (World.cell?_setCell_other w _ _ _ (by simp)).trans h.1
  · exact (World.cell?_setCell_other w _ _ _ (by simp)).trans h.2.1
  · exact (World.cell?_setCell_other w _ _ _ (by simp)).trans h.2.2.1
  · exact (World.cell?_setCell_other w _ _ _ (by simp)).trans h.2.2.2.1
theorem isCur.drew {k : Nat} {w : World} (h : isCur k w) : isCur k w.drew := h.below (Below.drew (Below.refl _ _))
theorem wrap_u8 (n : Int) (h0 : 0 ≤ n) (h1 : n ≤ 255) : IntKind.u8.wrap n = n := by
  simp [IntKind.wrap, IntKind.bits, IntKind.signed]; omega
theorem isB_snoc {L : List Int} {x : Int} (h : isB L) (hx : 0 ≤ x ∧ x ≤ 255) : isB (L ++ [x]) := by
  intro z hz
  rcases List.mem_append.1 hz with h1 | h1
  · exact h z h1
  · have : z = x := by simpa using h1
    omega
theorem grown_below {w w1 w2 : World} {k B : Nat} (h : w.grownBy w1 (some k)) (hb : Below B w1 w2) (hB : w.heap.size ≤ B) : w.grownBy w2 (some k) :=
  ⟨hb.os.trans h.os, hb.tape.trans h.tape, hb.output.trans h.output, Nat.le_trans h.size hb.size, fun j hj hne => (hb.block j (by omega)).trans (h.block j hj hne)⟩

theorem put_at {P : Nat} {w w' : World} (h : Below P w w') (o : Nat) (v : Value) : Below P w (w'.setCell ⟨P, o, none⟩ v) :=
  Below.setCell (p := ⟨P, o, none⟩) h (Nat.le_refl P) v
theorem draw_put {B R P k : Nat} {w0 w8 : World} {a b f s : Int} {v v8 : Value} {M : List Int} (hbp : boxed P a b f s v w8) (hfp : w8.frozen? ⟨P, 4, none⟩ = false) (hv8 : ownB w8 B v8 M) (hE : empty5 R w8) (hc : isCur k w8) (hg : w0.grownBy w8 (some k)) (h0 : w0.heap.size ≤ P) (hPB : P < B) (hkP : k < P) (hRP : R < P) (hs : B ≤ w8.heap.size) :
    boxed P a b f s v8 (w8.setCell ⟨P, 4, none⟩ v8) ∧ (w8.setCell ⟨P, 4, none⟩ v8).frozen? ⟨P, 4, none⟩ = false ∧ ownB (w8.setCell ⟨P, 4, none⟩ v8) B v8 M ∧ isCur k (w8.setCell ⟨P, 4, none⟩ v8) ∧ w0.grownBy (w8.setCell ⟨P, 4, none⟩ v8) (some k) ∧ empty5 R (w8.setCell ⟨P, 4, none⟩ v8) ∧ B ≤ (w8.setCell ⟨P, 4, none⟩ v8).heap.size := by
  have hb : Below P w8 (w8.setCell ⟨P, 4, none⟩ v8) := put_at (Below.refl P w8) 4 v8
  exact ⟨hbp.put4, (World.frozen?_setCell _ _ _ _).trans hfp, ownsRow_setCell_below hv8 hPB _, hc.below (hb.mono hkP), grown_below hg hb h0, hE.kept hb hRP, Nat.le_trans hs hb.size⟩

end Go.Proofs.Ytldjaapbkihibaa

/- A drawn packet, bent once in a while: fields of any size, a body of its own. -/
namespace Go.Proofs.Ytldjaapbkihibaa
open Go.ChangeShapes Go.WideShapes Go.ChangeAt Go.RowKit Go.Joins
set_option linter.unusedVariables false
set_option linter.unusedSimpArgs false

/-- A box none of whose five cells is frozen. -/
def free5 (q : Nat) (w : World) : Prop := w.frozen? ⟨q, 0, none⟩ = false ∧ w.frozen? ⟨q, 1, none⟩ = false ∧ w.frozen? ⟨q, 2, none⟩ = false ∧ w.frozen? ⟨q, 3, none⟩ = false ∧ w.frozen? ⟨q, 4, none⟩ = false
theorem free5.other {k q : Nat} {w w' : World} (h : free5 q w) (hg : w.grownBy w' (some k)) (hq : q < w.heap.size) (hne : q ≠ k) : free5 q w' :=
  ⟨(froz_other hg hq hne).trans h.1, (froz_other hg hq hne).trans h.2.1, (froz_other hg hq hne).trans h.2.2.1, (froz_other hg hq hne).trans h.2.2.2.1, (froz_other hg hq hne).trans h.2.2.2.2⟩
theorem free5_new (w : World) (a b f s : Int) (v : Value) (e : TypeId) : free5 w.heap.size (w.alloc (.cells #[.int .i64 a, .int .i64 b, .int .i64 f, .int .i64 s, v] e)) := by
  unfold free5; simp

theorem boxed.put0 {k : Nat} {a b f s : Int} {v : Value} {w : World} (h : boxed k a b f s v w) (z : Int) : boxed k z b f s v (w.setCell ⟨k, 0, none⟩ (.int .i64 z)) := by
  exact ⟨World.cell?_setCell_same w _ _ h.1, (World.cell?_setCell_other w _ _ _ (by simp)).trans h.2.1, (World.cell?_setCell_other w _ _ _ (by simp)).trans h.2.2.1, (World.cell?_setCell_other w _ _ _ (by simp)).trans h.2.2.2.1, (World.cell?_setCell_other w _ _ _ (by simp)).trans h.2.2.2.2⟩
theorem boxed.put1 {k : Nat} {a b f s : Int} {v : Value} {w : World} (h : boxed k a b f s v w) (z : Int) : boxed k a z f s v (w.setCell ⟨k, 1, none⟩ (.int .i64 z)) := by
  exact ⟨(World.cell?_setCell_other w _ _ _ (by simp)).trans h.1, World.cell?_setCell_same w _ _ h.2.1, (World.cell?_setCell_other w _ _ _ (by simp)).trans h.2.2.1, (World.cell?_setCell_other w _ _ _ (by simp)).trans h.2.2.2.1, (World.cell?_setCell_other w _ _ _ (by simp)).trans h.2.2.2.2⟩
theorem boxed.put2 {k : Nat} {a b f s : Int} {v : Value} {w : World} (h : boxed k a b f s v w) (z : Int) : boxed k a b z s v (w.setCell ⟨k, 2, none⟩ (.int .i64 z)) := by
  exact ⟨(World.cell?_setCell_other w _ _ _ (by simp)).trans h.1, (World.cell?_setCell_other w _ _ _ (by simp)).trans h.2.1, World.cell?_setCell_same w _ _ h.2.2.1, (World.cell?_setCell_other w _ _ _ (by simp)).trans h.2.2.2.1, (World.cell?_setCell_other w _ _ _ (by simp)).trans h.2.2.2.2⟩
theorem boxed.put3 {k : Nat} {a b f s : Int} {v : Value} {w : World} (h : boxed k a b f s v w) (z : Int) : boxed k a b f z v (w.setCell ⟨k, 3, none⟩ (.int .i64 z)) := by
  exact ⟨(World.cell?_setCell_other w _ _ _ (by simp)).trans h.1, (World.cell?_setCell_other w _ _ _ (by simp)).trans h.2.1, (World.cell?_setCell_other w _ _ _ (by simp)).trans h.2.2.1, World.cell?_setCell_same w _ _ h.2.2.2.1, (World.cell?_setCell_other w _ _ _ (by simp)).trans h.2.2.2.2⟩
theorem own_lt {w : World} {B n c : Nat} {o : Option Addr} {L : List Int} (h : ownB w B (.slice o n c) L) : ∀ g, o = some ⟨g, 0, none⟩ → g < w.heap.size := by
  intro g hg
  subst hg
  obtain ⟨_, h2⟩ := h
  rcases h2 with ⟨h2, _⟩ | ⟨g', cap, cur, hv, hg', hh, r⟩
  · simp at h2
  · simp at hv
    obtain ⟨rfl, _⟩ := hv
    obtain ⟨hlt, _⟩ := Array.getElem?_eq_some_iff.1 hh
    exact hlt
theorem own_put {w : World} {B n c : Nat} {o : Option Addr} {L : List Int} (h : ownB w B (.slice o n c) L) (P q : Nat) (u : Value) (hP : ∀ g, o = some ⟨g, 0, none⟩ → g < P) : ownB (w.setCell ⟨P, q, none⟩ u) B (.slice o n c) L := by
  obtain ⟨h1, h2⟩ := h
  refine ⟨h1, ?_⟩
  rcases h2 with h2 | ⟨g, cap, cur, hv, hg, hh, r⟩
  · exact Or.inl h2
  · have hlt : g < P := hP g (by simp at hv; exact hv.1)
    exact Or.inr ⟨g, cap, cur, hv, hg, by rw [Below.heap_setCell _ _ _ _ (by simp; omega)]; exact hh, r⟩

end Go.Proofs.Ytldjaapbkihibaa

/- Drawn keys, numbers and flows; and that one alone is its own pair. -/
namespace Go.Proofs.Ytldjaapbkihibaa
open Go.ChangeShapes Go.WideShapes Go.ChangeAt Go.RowKit Go.Joins
set_option linter.unusedVariables false
set_option linter.unusedSimpArgs false

theorem put_overH {B : Nat} {w w' : World} (h : Below B w w') (P o : Nat) (v : Value) (hP : B ≤ P) : Below B w (w'.setCell ⟨P, o, none⟩ v) :=
  Below.setCell (p := ⟨P, o, none⟩) h hP v
theorem pair_one : pairI 5 0 [(3, 1, false)] = [3, 3] := by first | decide | rfl | kernel_rfl
theorem bucketOfI_bd (k a p : Int) : -1 ≤ bucketOfI k a p ∧ bucketOfI k a p < 8 := by
  unfold bucketOfI
  split
  · unfold bucketI; omega
  · omega
theorem bucketOfI_pos (k a p : Int) : decide (0 ≤ bucketOfI k a p) = (keyB k && flowOkB a p) := by
  unfold bucketOfI
  by_cases h : 0 ≤ k ∧ k < 1000000 ∧ flowOkB a p = true
  · rw [if_pos h, keyB_iff.2 ⟨h.1, h.2.1⟩, h.2.2]
    have : 0 ≤ bucketI k a p := by unfold bucketI; omega
    simp [this]
  · rw [if_neg h]
    have : (keyB k && flowOkB a p) = false := by
      rw [Bool.and_eq_false_iff]
      by_cases hk : keyB k = true
      · right
        have := keyB_iff.1 hk
        simp at h
        exact h this.1 this.2
      · left; simpa using hk
    rw [this]; decide
theorem stirI_inj {a b : Int} (h : stirI a = stirI b) : a % 2147483647 = b % 2147483647 := by
  unfold stirI at h
  generalize ha : a % 2147483647 = x at *
  generalize hb : b % 2147483647 = y at *
  have : 0 ≤ x ∧ x < 2147483647 := by omega
  have : 0 ≤ y ∧ y < 2147483647 := by omega
  omega
theorem hashI_next {k x : Int} : hashI k x ≠ hashI k (x + 1) := by
  intro h
  unfold hashI at h
  have h1 := stirI_inj h
  have b1 := stirI_bd (stirI (k + 1) + x)
  have b2 := stirI_bd (stirI (k + 1) + (x + 1))
  have h2 : stirI (stirI (k + 1) + x) = stirI (stirI (k + 1) + (x + 1)) := by
    generalize stirI (stirI (k + 1) + x) = p at *
    generalize stirI (stirI (k + 1) + (x + 1)) = q at *
    omega
  have h3 := stirI_inj h2
  generalize stirI (k + 1) = t at *
  omega

end Go.Proofs.Ytldjaapbkihibaa

/- Drawn lists of backs. -/
namespace Go.Proofs.Ytldjaapbkihibaa
open Go.ChangeShapes Go.WideShapes Go.ChangeAt Go.RowKit Go.Joins
set_option linter.unusedVariables false
set_option linter.unusedSimpArgs false

theorem wpList_append_back {w : World} {ops : Array Oper} {rest : List Oper} {o : Oper} {a : Act} {Q : Exit → Act → World → Prop} (hgd : o.guard = none) (s x : Operand)
    (ho : o.op = .call { callee := .builtin .append, args := #[s, x], argTypes := #[23, 23] }) (base : Nat) (v : Value) (hs : List Bk) (he : a.eval s = v) (hown : ownK w base v hs)
    (n : Nat) (i g : Int) (d : Bool) (hx : a.eval x = .slice (some ⟨n, 0, none⟩) 1 1) (h0 : w.cell? ⟨n, 0, none⟩ = some (.int .i64 i)) (h1 : w.cell? ⟨n, 1, none⟩ = some (.int .i64 g)) (h2 : w.cell? ⟨n, 2, none⟩ = some (.bool d)) (hlen : hs.length ≤ 1000) (hbase : base ≤ w.heap.size)
    (h : ∀ v' w', ownK w' base v' (hs ++ [(i, g, d)]) → w.grownBy w' v.ownBlock → wpList Try.prog ops Q rest (a.put o.dst v') w') : wpList Try.prog ops Q (o :: rest) a w := by
  obtain ⟨i0, hi, hz0, hz1, hz2⟩ := info_parts infoBack
  refine wpList_append_own _ hgd s x 23 ho base 39 i0 (.agg #[.int .i64 0, .int .i64 0, .bool false]) 3 24 Try.underlying23 hi hz0 hz1 hz2 rfl (by decide) v _ _ he hown ⟨n, 0, none⟩ 1 1 [.int .i64 i, .int .i64 g, .bool d] hx rfl ?_ (by simp [Value.oneCell']) (by unfold maxLen; omega) (by omega) hbase ?_
  · intro j u hj
    match j, hj with
    | 0, hj => simp at hj; subst hj; exact h0
    | 1, hj => simp at hj; subst hj; exact h1
    | 2, hj => simp at hj; subst hj; exact h2
  · intro v' w' h1 h2 _
    refine h v' w' ?_ h2
    unfold ownK ownL
    simpa [layK] using h1

theorem ownK_other {w w' : World} {base k : Nat} {v : Value} {l : List Bk} (h : ownK w base v l) (hg : w.grownBy w' (some k)) (hk : k < base) : ownK w' base v l :=
  World.ownsRow.kept h hg (by
    cases hob : v.ownBlock with
    | none => exact .inl rfl
    | some j => right; have := (h.lt j hob).1; intro e; simp at e; omega)

set_option maxHeartbeats 1000000 in
theorem l3some_any (k : Nat) (w : World) (hc : isCur k w) (hk : k < w.heap.size) :
    Calls Try.prog 127 #[.pointer (some ⟨k, 0, none⟩)] w fun e w' => ∃ v L, e = .returned v ∧ ownK w' w.heap.size v L ∧ L.length ≤ 6 ∧ isCur k w' ∧ w.grownBy w' (some k) := by
  go_enter Try.func127, Try.ntmps127
  go_wp2
  go_loopw [3, 4] (fun out iv wr => ∃ (j : Nat) (L : List Bk), j ≤ 6 ∧ iv = .int .i64 j ∧ ownK wr w.heap.size out L ∧ L.length ≤ j ∧ isCur k wr ∧ w.grownBy wr (some k))
    (fun _ iv _ => 6 - (intOf iv).toNat)
  case atStart => exact ⟨0, [], Nat.zero_le _, rfl, World.ownsRow_nil _ _ _ _, Nat.le_refl _, hc, World.grownBy.refl _ _⟩
  case round =>
    obtain ⟨j, L, hj, rfl, hv, hL, hcr, hgr⟩ := hrel
    have HL := hide hL
    clear hL hc
    by_cases hlt : j < 6
    · have z1 : (j : Int) < 6 := by omega
      have hsr : w.heap.size ≤ wr.heap.size := hgr.size
      go_wp2_with fail
      refine (l1Once_any k 2 _ hcr (by omega) (by omega)).mono ?_
      rintro e w1 ⟨y, rfl, hc1, hg1⟩
      have hs1 : w.heap.size ≤ w1.heap.size := Nat.le_trans hsr hg1.size
      have hv1 := ownK_other hv hg1 hk
      have hG1 := grownBy_then hgr hg1
      clear hv hcr hgr hg1
      cases y with
      | false =>
        have HC := hide hc1
        have HG := hide hG1
        have HV := hide hv1
        clear hc1 hG1 hv1
        go_wp2
        go_roundw
        case rel => exact ⟨j + 1, L, by omega, by go_num, HV.out, Nat.le_succ_of_le HL.out, HC.out, HG.out⟩
        case measure => simp [intOf]; omega
      | true =>
        have hc2 := hc1.alloc (by omega) (.cells #[.int .i64 1, .int .i64 1, .int .i64 2, .int .i64 10, .int .i64 100] 3)
        have hG2 := grownBy_then hG1 (grown_alloc w1 (.cells #[.int .i64 1, .int .i64 1, .int .i64 2, .int .i64 10, .int .i64 100] 3) k)
        have hv2 : ownK (w1.alloc (.cells #[.int .i64 1, .int .i64 1, .int .i64 2, .int .i64 10, .int .i64 100] 3)) w.heap.size u3 L := World.ownsRow.alloc hv1 _
        clear hc1 hG1 hv1
        go_wp2_with fail
        refine (l1PickInt_any k w1.heap.size [1, 1, 2, 10, 100] _ hc2 (by simp) (by omega) (by simp) (by simp) ?hcl).mono ?_
        case hcl =>
          intro q hq
          have : q = 0 ∨ q = 1 ∨ q = 2 ∨ q = 3 ∨ q = 4 := by simp at hq; omega
          rcases this with h | h | h | h | h <;> subst h <;> simp
        rintro e w3 ⟨q, hq, rfl, hc3, hg3⟩
        generalize ([1, 1, 2, 10, 100] : List Int).getD q 0 = x at *
        have hG3 := grownBy_then hG2 hg3
        have hv3 := ownK_other hv2 hg3 hk
        clear hc2 hG2 hv2 hg3
        go_wp2_with fail
        refine (l1Once_any k 5 _ hc3 (by omega) (by omega)).mono ?_
        rintro e w4 ⟨d, rfl, hc4, hg4⟩
        have hG4 := grownBy_then hG3 hg4
        have hv4 := ownK_other hv3 hg4 hk
        have hs4 : w.heap.size ≤ w4.heap.size := hG4.size
        have HC4 := hide hc4
        have HG4 := hide hG4
        have hl4 : L.length ≤ 1000 := by have := HL.out; omega
        have HV4 := hide hv4
        clear hc3 hG3 hv3 hg4 hc4 hG4 hv4
        go_wp2_with (at_builtin; refine wpList_append_back rfl (.tmp 11) (.tmp 19) rfl w.heap.size _ L rfl (World.ownsRow.alloc HV4.out _) w4.heap.size j x d rfl ?c1 ?c2 ?c3 hl4 ?c4 ?_)
        case c1 => simp
        case c2 => simp
        case c3 => simp
        case c4 => simp; omega
        intro v5 w5 ho5 hg5
        have HA := hide (World.ownsRow.alloc HV4.out (.cells #[.int .i64 j, .int .i64 x, .bool d] 39))
        have hb5 : Below w.heap.size w4 w5 := ((Below.refl w.heap.size w4).alloc hs4 _).grown hg5 (by simp; omega) (fun k h => (HA.out.lt k h).1)
        have HR := hide (show ownK w5 w.heap.size v5 (L ++ [((j : Int), x, d)]) ∧ isCur k w5 ∧ w.grownBy w5 (some k) from ⟨ho5, HC4.out.below (hb5.mono hk), grown_below HG4.out hb5 (Nat.le_refl _)⟩)
        clear hg5 ho5 hb5
        go_wp2
        go_roundw
        case rel => exact ⟨j + 1, L ++ [((j : Int), x, d)], by omega, by go_num, HR.out.1, by have := HL.out; simp; omega, HR.out.2.1, HR.out.2.2⟩
        case measure => simp [intOf]; omega
    · have e : j = 6 := by omega
      subst e
      have HR := hide (show ownK wr w.heap.size u3 L ∧ isCur k wr ∧ w.grownBy wr (some k) from ⟨hv, hcr, hgr⟩)
      clear hv hcr hgr
      go_wp2
      go_ret
      exact ⟨_, L, rfl, HR.out.1, HL.out, HR.out.2.1, HR.out.2.2⟩

set_option maxHeartbeats 1000000 in
theorem l3bent_any (k : Nat) (w : World) (hc : isCur k w) (hk : k < w.heap.size) :
    Calls Try.prog 102 #[.pointer (some ⟨k, 0, none⟩)] w fun e w' => ∃ v L, e = .returned v ∧ ownK w' w.heap.size v L ∧ L.length ≤ 7 ∧ isCur k w' ∧ w.grownBy w' (some k) := by
  go_enter Try.func102, Try.ntmps102
  go_wp2_with fail
  refine (l3some_any k _ hc hk).mono ?_
  rintro e w0 ⟨out, L, rfl, hv0, hL, hc0, hG0⟩
  have hs0 : w.heap.size ≤ w0.heap.size := hG0.size
  go_wp2_with fail
  refine (l1Once_any k 7 _ hc0 (by omega) (by omega)).mono ?_
  rintro e w1 ⟨y, rfl, hc1, hg1⟩
  have hs1 : w.heap.size ≤ w1.heap.size := Nat.le_trans hs0 hg1.size
  have hv1 := ownK_other hv0 hg1 hk
  have hG1 := grownBy_then hG0 hg1
  clear hv0 hc0 hG0 hg1 hc
  cases y with
  | false =>
    have HC := hide hc1
    have HG := hide hG1
    have HV := hide hv1
    clear hc1 hG1 hv1
    go_wp2
    go_ret
    exact ⟨_, L, rfl, HV.out, by omega, HC.out, HG.out⟩
  | true =>
    have hc2 := hc1.alloc (by omega) (.cells #[.int .i64 (-1), .int .i64 0, .int .i64 5, .int .i64 6] 3)
    have hG2 := grownBy_then hG1 (grown_alloc w1 (.cells #[.int .i64 (-1), .int .i64 0, .int .i64 5, .int .i64 6] 3) k)
    have hv2 : ownK (w1.alloc (.cells #[.int .i64 (-1), .int .i64 0, .int .i64 5, .int .i64 6] 3)) w.heap.size out L := World.ownsRow.alloc hv1 _
    clear hc1 hG1 hv1
    go_wp2_with fail
    refine (l1PickInt_any k w1.heap.size [-1, 0, 5, 6] _ hc2 (by simp) (by omega) (by simp) (by simp) ?hcl).mono ?_
    case hcl =>
      intro q hq
      have : q = 0 ∨ q = 1 ∨ q = 2 ∨ q = 3 := by simp at hq; omega
      rcases this with h | h | h | h <;> subst h <;> simp
    rintro e w3 ⟨q, hq, rfl, hc3, hg3⟩
    generalize ([-1, 0, 5, 6] : List Int).getD q 0 = i at *
    have hG3 := grownBy_then hG2 hg3
    have hv3 := ownK_other hv2 hg3 hk
    have hs3 : w.heap.size ≤ w3.heap.size := hG3.size
    clear hc2 hG2 hv2 hg3
    have hc4 := hc3.alloc (by omega) (.cells #[.int .i64 0, .int .i64 1, .int .i64 101] 3)
    have hG4 := grownBy_then hG3 (grown_alloc w3 (.cells #[.int .i64 0, .int .i64 1, .int .i64 101] 3) k)
    have hv4 : ownK (w3.alloc (.cells #[.int .i64 0, .int .i64 1, .int .i64 101] 3)) w.heap.size out L := World.ownsRow.alloc hv3 _
    clear hc3 hG3 hv3
    go_wp2_with fail
    refine (l1PickInt_any k w3.heap.size [0, 1, 101] _ hc4 (by simp) (by omega) (by simp) (by simp) ?hcm).mono ?_
    case hcm =>
      intro q hq
      have : q = 0 ∨ q = 1 ∨ q = 2 := by simp at hq; omega
      rcases this with h | h | h <;> subst h <;> simp
    rintro e w5 ⟨q', hq', rfl, hc5, hg5⟩
    generalize ([0, 1, 101] : List Int).getD q' 0 = x at *
    have HG5 := hide (grownBy_then hG4 hg5)
    have HV5 := hide (ownK_other hv4 hg5 hk)
    have HC5 := hide hc5
    have hs5 : w.heap.size ≤ w5.heap.size := HG5.out.size
    have hl4 : L.length ≤ 1000 := by omega
    clear hc4 hG4 hv4 hg5 hc5
    go_wp2_with (at_builtin; refine wpList_append_back rfl _ _ rfl w.heap.size _ L rfl (World.ownsRow.alloc HV5.out _) w5.heap.size i x false rfl ?c1 ?c2 ?c3 hl4 ?c4 ?_)
    case c1 => simp
    case c2 => simp
    case c3 => simp
    case c4 => simp; omega
    intro v6 w6 ho6 hg6
    have HA := hide (World.ownsRow.alloc HV5.out (.cells #[.int .i64 i, .int .i64 x, .bool false] 39))
    have hb6 : Below w.heap.size w5 w6 := ((Below.refl w.heap.size w5).alloc hs5 _).grown hg6 (by simp; omega) (fun k h => (HA.out.lt k h).1)
    have HR := hide (show ownK w6 w.heap.size v6 (L ++ [(i, x, false)]) ∧ isCur k w6 ∧ w.grownBy w6 (some k) from ⟨ho6, HC5.out.below (hb6.mono hk), grown_below HG5.out hb6 (Nat.le_refl _)⟩)
    clear hg6 ho6 hb6
    go_wp2
    go_ret
    exact ⟨_, L ++ [(i, x, false)], rfl, HR.out.1, by simp; omega, HR.out.2.1, HR.out.2.2⟩

end Go.Proofs.Ytldjaapbkihibaa

/- Drawn pools. -/
namespace Go.Proofs.Ytldjaapbkihibaa
open Go.ChangeShapes Go.WideShapes Go.ChangeAt Go.RowKit Go.Joins
set_option linter.unusedVariables false
set_option linter.unusedSimpArgs false


/-- What is told of a drawn pool's rows: eight a table, no more than two a row. -/
def smallR (lll : List (List (List Int))) : Prop := 1 ≤ lll.length ∧ lll.length ≤ 3 ∧ ∀ i, i < lll.length → (lll.getD i []).length = 8 ∧ ∀ j, ((lll.getD i []).getD j []).length ≤ 2
theorem ringR_pos (cs : List Cd) : ∀ n, 1 ≤ (ringR cs n).length
  | 0 => by simp [ringR]
  | n + 1 => by rw [ringR]; simp
theorem ringT_small (key : Int) (R : List (List Bk)) (h1 : 1 ≤ R.length) (h3 : R.length ≤ 3) : smallR (ringT key R) := by
  refine ⟨by simpa [ringT] using h1, by simpa [ringT] using h3, fun i hi => ?_⟩
  have hi' : i < R.length := by simpa [ringT] using hi
  rw [ringT_get key R i hi']
  exact ⟨newT_len _ _, fun j => newT_row _ _ j⟩
theorem GTabs.draw {w w' : World} {base k : Nat} {hs : List Hd} {R : List (List (List Int))} (h : GTabs w base hs R) (hg : w.grownBy w' (some k)) (hk : k < base) : GTabs w' base hs R :=
  ⟨h.1, fun i hi => by
    obtain ⟨o3, c3, hs8, e, h1, h2⟩ := h.2 i hi
    refine ⟨o3, c3, hs8, e, ownL_other (L := layH) h1 hg hk, h2.grown hg (fun q hq => ?_)⟩
    cases hob : (hv hs8 q).ownBlock with
    | none => exact .inl rfl
    | some j => right; have := ((h2.row q hq).lt j hob).1; intro e; simp at e; omega⟩

set_option maxRecDepth 100000 in
set_option maxHeartbeats 8000000 in
theorem l4draw_any (k : Nat) (w : World) (hc : isCur k w) (hk : k < w.heap.size) :
    Calls Try.prog 101 #[.pointer (some ⟨k, 0, none⟩)] w fun e w' => ∃ key l lll hs o2 c2 oQ cQ, e = .returned (plv key (.slice o2 l.length c2) (.slice oQ lll.length cQ)) ∧ l.length ≤ 100 ∧ smallR lll ∧ ownK w' w.heap.size (.slice o2 l.length c2) l ∧ ownL layH 37 w' w.heap.size (.slice oQ lll.length cQ) hs ∧ GTabs w' w.heap.size hs lll ∧ Dr k w w' := by
  obtain ⟨W0, hW0⟩ : ∃ W, w.alloc (.cells #[.int .i64 0, .slice none 0 0, .slice none 0 0] 26) = W := ⟨_, rfl⟩
  have hb0 : Below w.heap.size w W0 := by rw [← hW0]; exact (Below.refl _ _).alloc (Nat.le_refl _) _
  have HD0 := hide (show Dr k w W0 from ⟨hc.below (hb0.mono hk), by rw [← hW0]; exact grown_alloc w _ k⟩)
  have HR0 : Hid (W0.heap[w.heap.size]? = some (.cells #[.int .i64 0, .slice none 0 0, .slice none 0 0] 26 (0, 0))) := by rw [← hW0]; exact World.alloc_heap_new w _
  have hs0 : w.heap.size < W0.heap.size := by rw [← hW0]; simp
  clear hb0 hc
  go_enter Try.func101, Try.ntmps101
  go_wp2_with fail
  refine (l4drawJ_any k W0 HD0.out.cur (HD0.out.lt hk)).mono ?_
  rintro e w1 ⟨v, ⟨key, cs, s⟩, rfl, ⟨vl, rfl, hin⟩, hj, hl10, hd1⟩
  obtain ⟨o, c, e1, _⟩ := ownL.open (L := layC) hin.1
  subst e1
  dsimp only at hin hl10 hj ⊢
  obtain ⟨⟨hkey, hl, _, _⟩, hrun⟩ := And.intro (journal_facts hj) (journal_run hj)
  have HSE := hide (served_each hj cs.length (by omega))
  obtain ⟨W2, hW2⟩ : ∃ W, w1.alloc (.cells #[.int .i64 key, .slice o cs.length c, .int .i64 s] 47) = W := ⟨_, rfl⟩
  have hb2 : Below w1.heap.size w1 W2 := by rw [← hW2]; exact (Below.refl _ _).alloc (Nat.le_refl _) _
  have hs1 : W0.heap.size ≤ w1.heap.size := hd1.gr.size
  have hs2 := hb2.size
  have HD2 := hide ((HD0.out.step hd1.cur hd1.gr).below hk (hb2.mono (by omega)))
  have HR2 := hide ((hb2.block _ (by omega)).trans (grown_box hd1.gr hs0 (by omega) HR0.out))
  have HRP := hide (l4replay_any key o c cs W2 (ownL.rds (L := layC) (own_kept hin.1 hb2)) hkey hl hrun)
  have j0 : W2.cell? ⟨w1.heap.size, 0, none⟩ = some (.int .i64 key) := by rw [← hW2]; simp [go_sem]
  have j1 : W2.cell? ⟨w1.heap.size, 1, none⟩ = some (.slice o cs.length c) := by rw [← hW2]; simp [go_sem]
  clear hd1 hin HR0 HD0 hb2 hrun hj
  obtain ⟨n, hn⟩ : ∃ n, cs.length = n := ⟨_, rfl⟩
  rw [hn] at hW2 j1 HRP ⊢
  have HN := hide hn
  obtain ⟨sv, hsv⟩ : ∃ s, servedOf cs cs.length = s := ⟨_, rfl⟩
  rw [hn] at hsv hl hl10
  rw [hsv] at HRP
  rw [hn, hsv] at HSE
  obtain ⟨rg, hrg⟩ : ∃ s, ringR cs n = s := ⟨_, rfl⟩
  rw [hrg] at HRP
  have HRG := hide (show 1 ≤ rg.length ∧ rg.length ≤ 3 by rw [← hrg]; exact ⟨ringR_pos cs n, ringR_len cs n⟩)
  clear hsv hrg hn
  go_wp2_with fail
  refine (HRP.out).mono ?_
  rintro e w3 ⟨oB, cB, oR, cR, hs, rfl, owB, owR, pt, hs3, hb⟩
  have HOB := hide owB
  have HOR := hide owR
  have HG := hide (ptabs_g pt)
  have HD3 := hide (HD2.out.below hk (hb.mono (by omega)))
  have HR3 := hide ((hb.block _ (by omega)).trans HR2.out)
  have hs3' := hb.size
  clear owB owR pt hb HRP HR2 HD2
  have HFI := hide (ringT_fit key sv rg (by have := HSE.out.2; omega) HRG.out.2)
  have HSM := hide (ringT_small key rg HRG.out.1 HRG.out.2)
  obtain ⟨lll, hlll⟩ : ∃ s, ringT key rg = s := ⟨_, rfl⟩
  rw [hlll] at HG HFI HSM
  clear hlll
  have HRK := hide (ownL.rds (L := layK) HOB.out)
  have hcb := (fun e => (InRow.cap (InRow.of HOB.out)) sv.length cB (by rw [e]) : oB = none → cB = 0)
  have HOW := hide (l4own_gt key oB cB sv oR cR lll hs.length HG.out.1 w3 HRK.out hcb (by have := HSE.out.2; omega) (RcR.mon.go (HG.out.rc HOR.out) (Nat.zero_le _) (Nat.le_refl _)) (by omega) HFI.out.2.2.2.1 HFI.out.2.2.2.2)
  have HHL := hide HG.out.1
  clear HRK hcb
  go_wp2_with fail
  refine (HOW.out).mono ?_
  rintro e w4 ⟨o2, c2, oQ, cQ, hq, rfl, h1, h2, h3, hb⟩
  have hr4 := (hb.block _ (by omega)).trans HR3.out
  have hs4 := hb.size
  have r0 : w4.cell? ⟨w.heap.size, 0, none⟩ = some (.int .i64 0) := bx_cell hr4 0 _ rfl
  have fr0 : w4.frozen? ⟨w.heap.size, 0, none⟩ = false := bx_frozen hr4 0
  have r1 : w4.cell? ⟨w.heap.size, 1, none⟩ = some (.slice none 0 0) := bx_cell hr4 1 _ rfl
  have fr1 : w4.frozen? ⟨w.heap.size, 1, none⟩ = false := bx_frozen hr4 1
  have r2 : w4.cell? ⟨w.heap.size, 2, none⟩ = some (.slice none 0 0) := bx_cell hr4 2 _ rfl
  have fr2 : w4.frozen? ⟨w.heap.size, 2, none⟩ = false := bx_frozen hr4 2
  have HFF : Hid (ownK (setP w4 w.heap.size (.int .i64 key) (.slice o2 sv.length c2) (.slice oQ hs.length cQ)) w.heap.size (.slice o2 sv.length c2) sv ∧ ownL layH 37 (setP w4 w.heap.size (.int .i64 key) (.slice o2 sv.length c2) (.slice oQ hs.length cQ)) w.heap.size (.slice oQ hs.length cQ) hq ∧ GTabs (setP w4 w.heap.size (.int .i64 key) (.slice o2 sv.length c2) (.slice oQ hs.length cQ)) w.heap.size hq lll ∧ Dr k w (setP w4 w.heap.size (.int .i64 key) (.slice o2 sv.length c2) (.slice oQ hs.length cQ))) := by
    have g1 := box_put hr4 0 (.int .i64 key)
    have g2 := box_put g1 1 (.slice o2 sv.length c2)
    exact ⟨own_mono (own_putB (own_putB (own_putB h1 hr4 neP4 0 _) g1 neP4 1 _) g2 neP4 2 _) (by omega), own_mono (own_putB (own_putB (own_putB h2 hr4 neP1 0 _) g1 neP1 1 _) g2 neP1 2 _) (by omega), GTabs.mono (((h3.putB hr4 0 _).putB g1 1 _).putB g2 2 _) (by omega), (HD3.out.below hk (hb.mono (by omega))).below hk (setP_below (Below.refl _ _) (Nat.le_refl _) _ _ _)⟩
  clear h1 h2 h3 hb hr4 HOW HOB HOR HG HD3 HR3
  go_wp2
  refine bodyPost_ret (v := plv key (.slice o2 sv.length c2) (.slice oQ hs.length cQ)) (by simp [results, Try.results101, go_sem, r0, r1, r2]) rfl ⟨key, sv, lll, hq, o2, c2, oQ, cQ, by rw [← HHL.out], HSE.out.2, HSM.out, HFF.out.1, by rw [← HHL.out]; exact HFF.out.2.1, HFF.out.2.2.1, HFF.out.2.2.2⟩

end Go.Proofs.Ytldjaapbkihibaa

/- Bent pools. -/
namespace Go.Proofs.Ytldjaapbkihibaa
open Go.ChangeShapes Go.WideShapes Go.ChangeAt Go.RowKit Go.Joins
set_option linter.unusedVariables false
set_option linter.unusedSimpArgs false


theorem RcPm.mono {a b a' b' : Nat} {w : World} {v : Value} {m : Pm} (h : RcPm a b w v m) (k1 : a' ≤ a) (k2 : b ≤ b') : RcPm a' b' w v m := by
  obtain ⟨vb, vr, e, h1, h2, h3, h4⟩ := h
  exact ⟨vb, vr, e, h1.mono k1 k2, h2, RcR.mon.go h3 k1 k2, h4⟩
theorem RcPm.step {a b lo hi : Nat} {w w' : World} {v : Value} {m : Pm} (h : RcPm a b w v m) (s : Stp lo hi w w') (hd : hi ≤ a ∨ b ≤ lo) : RcPm a b w' v m := by
  obtain ⟨vb, vr, e, h1, h2, h3, h4⟩ := h
  exact ⟨vb, vr, e, h1.step s hd, h2, RcR.stp.go h3 s hd, h4⟩
theorem small_fit {key : Int} {l : List Bk} {lll : List (List (List Int))} (hl : l.length ≤ 1000) (h3 : lll.length ≤ 3) (h : ∀ i, i < lll.length → (lll.getD i []).length = 8 ∧ ∀ j, ((lll.getD i []).getD j []).length ≤ 2) : fitPm ⟨key, l, lll⟩ := by
  refine ⟨by dsimp only; omega, by dsimp only; omega, ?_, fun i hi => by dsimp only at *; rw [(h i hi).1]; decide, fun i hi j hj => by have := (h i hi).2 j; dsimp only; omega⟩
  dsimp only
  have hz2 : ∀ i, lenR lll i ≤ 16 := fun i => by
    by_cases h' : i < lll.length
    · have hb := sumN_bd (lenT (lll.getD i [])) 2 (fun j => (h i h').2 j) (lll.getD i []).length
      have h8 := (h i h').1
      show sumN (lenT (lll.getD i [])) (lll.getD i []).length ≤ 16
      rw [h8] at hb ⊢
      omega
    · unfold lenR; rw [List.getD_eq_getElem?_getD, List.getElem?_eq_none (by omega)]; exact Nat.zero_le _
  have hb := sumN_bd (lenR lll) 16 hz2 lll.length
  show sumN (lenR lll) lll.length ≤ 1048576
  omega
theorem own_pool {w : World} {base : Nat} {key : Int} {l : List Bk} {hs : List Hd} {lll : List (List (List Int))} {o2 oQ : Option Addr} {nb c2 n cQ : Nat} (hn : nb = l.length) (h1 : ownK w base (.slice o2 nb c2) l) (h2 : ownL layH 37 w base (.slice oQ n cQ) hs) (h3 : GTabs w base hs lll) : RcPm base w.heap.size w (plv key (.slice o2 nb c2) (.slice oQ n cQ)) ⟨key, l, lll⟩ := by
  subst hn
  exact ⟨_, _, rfl, InRow.ri (InRow.of h1), InRow.cap (InRow.of h1), GTabs.rc h3 h2, InRow.cap (InRow.of h2)⟩
theorem own_pool0 {w : World} {base : Nat} {key : Int} {l : List Bk} {o2 : Option Addr} {nb c2 : Nat} (hn : nb = l.length) (h1 : ownK w base (.slice o2 nb c2) l) : RcPm base w.heap.size w (plv key (.slice o2 nb c2) (.slice none 0 0)) ⟨key, l, []⟩ := by
  subst hn
  exact ⟨_, _, rfl, InRow.ri (InRow.of h1), InRow.cap (InRow.of h1), ⟨[], rfl, ⟨none, 0, rfl, .inl rfl⟩, fun i h => absurd h (Nat.not_lt_zero _)⟩, fun n c e => by injection e with _ _ e3; exact e3.symm⟩
theorem choose_rows {n : Nat} {α : Type} {d : α} {Q : Nat → α → Prop} (h : ∀ i, i < n → ∃ x, Q i x) : ∃ xs : List α, xs.length = n ∧ ∀ i, i < n → Q i (xs.getD i d) := by
  induction n with
  | zero => exact ⟨[], rfl, fun i hi => absurd hi (Nat.not_lt_zero _)⟩
  | succ n ih =>
    obtain ⟨xs, hl, hx⟩ := ih (fun i hi => h i (by omega))
    obtain ⟨y, hy⟩ := h n (by omega)
    refine ⟨xs ++ [y], by simp [hl], fun i hi => ?_⟩
    by_cases hi' : i < n
    · rw [List.getD_eq_getElem?_getD, List.getElem?_append_left (by omega), ← List.getD_eq_getElem?_getD]; exact hx i hi'
    · have e : i = n := by omega
      subst e
      have : (xs ++ [y]).getD i d = y := by rw [← hl]; simp
      rw [this]; exact hy
theorem hv_set_ne {hs : List Hd} {j q : Nat} {x : Hd} (h : q ≠ j) : hv (hs.set j x) q = hv hs q := by
  unfold hv; rw [List.getD_eq_getElem?_getD, List.getElem?_set_ne (Ne.symm h), ← List.getD_eq_getElem?_getD]
theorem hv_set_eq {hs : List Hd} {j : Nat} {x : Hd} (h : j < hs.length) : hv (hs.set j x) j = .slice x.1 x.2.1 x.2.2 := by
  unfold hv; rw [List.getD_eq_getElem?_getD, List.getElem?_set_self h]; rfl
theorem flat_setH (hs : List Hd) (j : Nat) (x : Hd) : (hs.set j x).flatMap layH.cs = (hs.flatMap layH.cs).set j (.slice x.1 x.2.1 x.2.2) := by
  have e : ∀ l : List Hd, l.flatMap layH.cs = l.map (fun x => Value.slice x.1 x.2.1 x.2.2) := fun l => by
    induction l with
    | nil => rfl
    | cons a l ih => rw [List.flatMap_cons, ih]; rfl
  rw [e, e, List.map_set]
theorem neT3 : (37 : TypeId) ≠ 43 := by decide
theorem neK3 : (39 : TypeId) ≠ 43 := by decide
theorem ring_bend {w1 : World} {base g3 r n c3 i : Nat} {cQ : Nat} {oQ : Option Addr} {hs : List Hd} {lll : List (List (List Int))} {x y : Int} (h : GTabs w1 base hs lll) (ho : ownL layH 37 w1 base (.slice oQ n cQ) hs) (hsm : smallR lll) (hi : i < lll.length) (he : hv hs i = .slice (some ⟨g3, 0, none⟩) 8 c3) (hr : ownI w1 base (.slice (some ⟨r, 0, none⟩) 2 2) [x, y]) :
    ∃ lll', smallR lll' ∧ lll'.length = lll.length ∧ RcR base (w1.setCell ⟨g3, 2, none⟩ (.slice (some ⟨r, 0, none⟩) 2 2)).heap.size (w1.setCell ⟨g3, 2, none⟩ (.slice (some ⟨r, 0, none⟩) 2 2)) (.slice oQ n cQ) lll' := by
  obtain ⟨W, hW⟩ : ∃ W, w1.setCell ⟨g3, 2, none⟩ (.slice (some ⟨r, 0, none⟩) 2 2) = W := ⟨_, rfl⟩
  obtain ⟨o3, c3', hs8, e3, k1, k2⟩ := h.2 i hi
  have e4 : hv hs i = .slice o3 (lll.getD i []).length c3' := by unfold hv; rw [e3]
  have hl8 := (hsm.2.2 i hi).1
  rw [he, hl8] at e4
  injection e4 with q1 q2 q3
  subst q1 q3
  rw [hl8] at k1
  have hgr : w1.grownBy W (some g3) := by rw [← hW]; exact grown_set w1 g3 2 _
  have rowI : ∀ v l, ownI w1 base v l → ownI W base v l := fun v l hv => World.ownsRow.kept hv hgr (own_apart hv k1 intNe)
  have key : ∀ q, q < lll.length → ∃ t : List (List Int), (t.length = 8 ∧ ∀ j, (t.getD j []).length ≤ 2) ∧ RcT base W.heap.size W (hv hs q) t := by
    intro q hq
    obtain ⟨o5, c5, hs5, e5, m1, m2⟩ := h.2 q hq
    have f8 := hsm.2.2 q hq
    have e6 : hv hs q = .slice o5 (lll.getD q []).length c5 := by unfold hv; rw [e5]
    rw [f8.1] at m1 m2 e6
    rw [e6]
    have hlen5 := m2.len
    by_cases hb : o5 = some ⟨g3, 0, none⟩
    · subst hb
      have m1' : w1.ownsRow base 43 layH.k (.slice (some ⟨g3, 0, none⟩) 8 c5) 8 (hs5.flatMap layH.cs) := by have h := m1; unfold ownL at h; rw [hlen5] at h; exact h
      have m3 := (World.ownsRow.stored m1' 2 (.slice (some ⟨r, 0, none⟩) 2 2)).1
      rw [hW, ← flat_setH hs5 2 (some ⟨r, 0, none⟩, 2, 2)] at m3
      have m4 : ownL layH 43 W base (.slice (some ⟨g3, 0, none⟩) 8 c5) (hs5.set 2 (some ⟨r, 0, none⟩, 2, 2)) := by
        unfold ownL; rw [List.length_set, hlen5]; exact m3
      refine ⟨(lll.getD q []).set 2 [x, y], ⟨by rw [List.length_set]; exact f8.1, fun j => ?_⟩, ⟨hs5.set 2 (some ⟨r, 0, none⟩, 2, 2), by rw [List.length_set, List.length_set, f8.1]; exact hlen5, ?_, fun j hj => ?_⟩⟩
      · by_cases hj : j = 2
        · subst hj; rw [List.getD_eq_getElem?_getD, List.getElem?_set_self (by rw [f8.1]; decide)]; simp
        · rw [List.getD_eq_getElem?_getD, List.getElem?_set_ne (Ne.symm hj), ← List.getD_eq_getElem?_getD]; exact f8.2 j
      · have := InRow.ri (L := layH) (InRow.of m4); simpa [hlen5] using this
      · rw [List.length_set, f8.1] at hj
        by_cases hj2 : j = 2
        · subst hj2
          rw [hv_set_eq (by omega), List.getD_eq_getElem?_getD, List.getElem?_set_self (by rw [f8.1]; decide)]
          exact ⟨InRow.ri (L := layI) (InRow.of (rowI _ _ hr)), InRow.cap (InRow.of (rowI _ _ hr))⟩
        · rw [hv_set_ne hj2, List.getD_eq_getElem?_getD, List.getElem?_set_ne (Ne.symm hj2), ← List.getD_eq_getElem?_getD]
          exact ⟨InRow.ri (L := layI) (InRow.of (rowI _ _ (m2.row j hj))), InRow.cap (InRow.of (rowI _ _ (m2.row j hj)))⟩
    · have m4 : ownL layH 43 W base (.slice o5 8 c5) hs5 := by
        refine World.ownsRow.kept m1 hgr ?_
        obtain ⟨g5, c5', q1⟩ := own_someH m1 (by rw [hlen5]; decide)
        injection q1 with q1 _ _
        · subst q1; right; intro e; simp [Value.ownBlock] at e; exact hb (by rw [e])
      refine ⟨lll.getD q [], f8, ⟨hs5, by rw [f8.1]; exact hlen5, ?_, fun j hj => ?_⟩⟩
      · have := InRow.ri (L := layH) (InRow.of m4); simpa [hlen5] using this
      · rw [f8.1] at hj
        exact ⟨InRow.ri (L := layI) (InRow.of (rowI _ _ (m2.row j hj))), InRow.cap (InRow.of (rowI _ _ (m2.row j hj)))⟩
  obtain ⟨ts, hts, hq⟩ := choose_rows (d := ([] : List (List Int))) key
  rw [hW]
  refine ⟨ts, ⟨by rw [hts]; exact hsm.1, by rw [hts]; exact hsm.2.1, fun j hj => (hq j (by omega)).1⟩, hts, ⟨hs, by rw [hts]; exact h.1, ?_, fun j hj => (hq j (by omega)).2⟩⟩
  exact InRow.ri (L := layH) (InRow.of (World.ownsRow.kept ho hgr (own_apart ho k1 neT3)))

structure PS (k B R C : Nat) (w0 wr : World) (key : Int) (l : List Bk) (lll : List (List (List Int))) (hs : List Hd) (o2 : Option Addr) (nb c2 : Nat) (oQ : Option Addr) (n cQ : Nat) : Prop where
  len : nb = l.length
  box : wr.heap[B]? = some (.cells #[.int .i64 key, .slice o2 nb c2, .slice oQ n cQ] 26 (0, 0))
  res : wr.heap[R]? = some (.cells #[.int .i64 0, .slice none 0 0, .slice none 0 0] 26 (0, 0))
  bk : ownK wr C (.slice o2 nb c2) l
  ow : ownL layH 37 wr C (.slice oQ n cQ) hs
  gt : GTabs wr C hs lll
  dr : Dr k w0 wr
theorem PS.draw {k B R C : Nat} {w0 wr : World} {key : Int} {l : List Bk} {lll : List (List (List Int))} {hs : List Hd} {o2 oQ : Option Addr} {nb c2 n cQ : Nat} {x : World} (h : PS k B R C w0 wr key l lll hs o2 nb c2 oQ n cQ) (hc : isCur k x) (hg : wr.grownBy x (some k)) (hB : B ≠ k) (hR : R ≠ k) (hC : k < C) : PS k B R C w0 x key l lll hs o2 nb c2 oQ n cQ :=
  ⟨h.len, grown_box hg (Array.getElem?_eq_some_iff.1 h.box).1 hB h.box, grown_box hg (Array.getElem?_eq_some_iff.1 h.res).1 hR h.res, ownL_other h.bk hg hC, ownL_other (L := layH) h.ow hg hC, h.gt.draw hg hC, h.dr.step hc hg⟩
theorem PS.below {k B R C : Nat} {w0 wr : World} {key : Int} {l : List Bk} {lll : List (List (List Int))} {hs : List Hd} {o2 oQ : Option Addr} {nb c2 n cQ : Nat} {x : World} (h : PS k B R C w0 wr key l lll hs o2 nb c2 oQ n cQ) (hb : Below wr.heap.size wr x) (hk : k < w0.heap.size) : PS k B R C w0 x key l lll hs o2 nb c2 oQ n cQ :=
  ⟨h.len, (hb.block _ (Array.getElem?_eq_some_iff.1 h.box).1).trans h.box, (hb.block _ (Array.getElem?_eq_some_iff.1 h.res).1).trans h.res, own_kept h.bk hb, own_kept h.ow hb, h.gt.kept hb, h.dr.below hk (hb.mono h.dr.gr.size)⟩
/-- What a bent pool's end wants. -/
structure PE (k B R C : Nat) (w0 wr : World) (v0 v1 v2 : Value) (m : Pm) : Prop where
  box : wr.heap[B]? = some (.cells #[v0, v1, v2] 26 (0, 0))
  res : wr.heap[R]? = some (.cells #[.int .i64 0, .slice none 0 0, .slice none 0 0] 26 (0, 0))
  rc : RcPm C wr.heap.size wr (.agg #[v0, v1, v2]) m
  fit : fitPm m
  dr : Dr k w0 wr
theorem PE.done {k B C : Nat} {w0 wr : World} {v0 v1 v2 : Value} {m : Pm} (h : PE k B w0.heap.size C w0 wr v0 v1 v2 m) (hk : k < w0.heap.size) (hC : w0.heap.size < C) : RcPm w0.heap.size (setP wr w0.heap.size v0 v1 v2).heap.size (setP wr w0.heap.size v0 v1 v2) (.agg #[v0, v1, v2]) m ∧ fitPm m ∧ Dr k w0 (setP wr w0.heap.size v0 v1 v2) :=
  ⟨by rw [setQ_size]; exact (h.rc.step (stp_setQ wr w0.heap.size v0 v1 v2) (.inl hC)).mono (Nat.le_of_lt hC) (Nat.le_refl _), h.fit, h.dr.below hk (setP_below (Below.refl _ _) (Nat.le_refl _) _ _ _)⟩
theorem PS.end0 {k B R C : Nat} {w0 wr : World} {key : Int} {l : List Bk} {lll : List (List (List Int))} {hs : List Hd} {o2 oQ : Option Addr} {nb c2 n cQ : Nat} (h : PS k B R C w0 wr key l lll hs o2 nb c2 oQ n cQ) (hs3 : smallR lll) (hl : l.length ≤ 1000) : PE k B R C w0 wr (.int .i64 key) (.slice o2 nb c2) (.slice oQ n cQ) ⟨key, l, lll⟩ := ⟨h.box, h.res, own_pool h.len h.bk h.ow h.gt, small_fit hl hs3.2.1 hs3.2.2, h.dr⟩
theorem PS.key {k B R C : Nat} {w0 wr : World} {key : Int} {l : List Bk} {lll : List (List (List Int))} {hs : List Hd} {o2 oQ : Option Addr} {nb c2 n cQ : Nat} (h : PS k B R C w0 wr key l lll hs o2 nb c2 oQ n cQ) (hs3 : smallR lll) (hl : l.length ≤ 1000) (hk : k < w0.heap.size) (hB : w0.heap.size ≤ B) (hR : R ≠ B) (y : Int) : PE k B R C w0 (wr.setCell ⟨B, 0, none⟩ (.int .i64 y)) (.int .i64 y) (.slice o2 nb c2) (.slice oQ n cQ) ⟨y, l, lll⟩ :=
  ⟨box_put h.box 0 _, set_box h.res hR, own_pool h.len (own_putB h.bk h.box neP4 0 _) (own_putB h.ow h.box neP1 0 _) (h.gt.putB h.box 0 _), small_fit hl hs3.2.1 hs3.2.2, h.dr.below hk ((Below.refl _ _).setCell (p := ⟨B, 0, none⟩) hB _)⟩
theorem PS.backs {k B R C : Nat} {w0 wr : World} {key : Int} {l : List Bk} {lll : List (List (List Int))} {hs : List Hd} {o2 oQ : Option Addr} {nb c2 n cQ : Nat} {L : List Bk} {o3 : Option Addr} {c3 m3 b3 : Nat} (h : PS k B R C w0 wr key l lll hs o2 nb c2 oQ n cQ) (hs3 : smallR lll) (hl : m3 ≤ 7) (hm : m3 = L.length) (hk : k < w0.heap.size) (hB : w0.heap.size ≤ B) (hR : R ≠ B) (hC : C ≤ b3) (ho : ownK wr b3 (.slice o3 m3 c3) L) : PE k B R C w0 (wr.setCell ⟨B, 1, none⟩ (.slice o3 m3 c3)) (.int .i64 key) (.slice o3 m3 c3) (.slice oQ n cQ) ⟨key, L, lll⟩ :=
  ⟨box_put h.box 1 _, set_box h.res hR, own_pool hm (own_mono (own_putB ho h.box neP4 1 _) hC) (own_putB h.ow h.box neP1 1 _) (h.gt.putB h.box 1 _), small_fit (by omega) hs3.2.1 hs3.2.2, h.dr.below hk ((Below.refl _ _).setCell (p := ⟨B, 1, none⟩) hB _)⟩
theorem PS.nil {k B R C : Nat} {w0 wr : World} {key : Int} {l : List Bk} {lll : List (List (List Int))} {hs : List Hd} {o2 oQ : Option Addr} {nb c2 n cQ : Nat} (h : PS k B R C w0 wr key l lll hs o2 nb c2 oQ n cQ) (hl : l.length ≤ 1000) (hk : k < w0.heap.size) (hB : w0.heap.size ≤ B) (hR : R ≠ B) : PE k B R C w0 (wr.setCell ⟨B, 2, none⟩ (.slice none 0 0)) (.int .i64 key) (.slice o2 nb c2) (.slice none 0 0) ⟨key, l, []⟩ :=
  ⟨box_put h.box 2 _, set_box h.res hR, own_pool0 h.len (own_putB h.bk h.box neP4 2 _), small_fit hl (by simp) (fun i hi => absurd hi (Nat.not_lt_zero _)), h.dr.below hk ((Below.refl _ _).setCell (p := ⟨B, 2, none⟩) hB _)⟩
theorem PS.bend {k B R C : Nat} {w0 wr : World} {key : Int} {l : List Bk} {lll : List (List (List Int))} {hs : List Hd} {o2 oQ : Option Addr} {nb c2 n cQ : Nat} {g3 r c3 i : Nat} {x y : Int} (h : PS k B R C w0 wr key l lll hs o2 nb c2 oQ n cQ) (hs3 : smallR lll) (hl : l.length ≤ 1000) (hk : k < w0.heap.size) (hC : w0.heap.size ≤ C) (hi : i < lll.length) (he : hv hs i = .slice (some ⟨g3, 0, none⟩) 8 c3) (hr : ownI wr C (.slice (some ⟨r, 0, none⟩) 2 2) [x, y]) (hgB : g3 ≠ B) (hgR : g3 ≠ R) (hgC : C ≤ g3) :
    ∃ m, PE k B R C w0 (wr.setCell ⟨g3, 2, none⟩ (.slice (some ⟨r, 0, none⟩) 2 2)) (.int .i64 key) (.slice o2 nb c2) (.slice oQ n cQ) m := by
  obtain ⟨lll', s1, s2, s3⟩ := ring_bend h.gt h.ow hs3 hi he hr
  obtain ⟨o3, c3', hs8, e3, k1, k2⟩ := h.gt.2 i hi
  have e4 : hv hs i = .slice o3 (lll.getD i []).length c3' := by unfold hv; rw [e3]
  rw [he, (hs3.2.2 i hi).1] at e4
  injection e4 with q1 q2 q3
  subst q1 q3
  have hgr : wr.grownBy (wr.setCell ⟨g3, 2, none⟩ (.slice (some ⟨r, 0, none⟩) 2 2)) (some g3) := grown_set wr g3 2 _
  have hbk := World.ownsRow.kept h.bk hgr (own_apart h.bk k1 neK3)
  have hln := h.len
  subst hln
  refine ⟨⟨key, l, lll'⟩, set_box h.box (Ne.symm hgB), set_box h.res (Ne.symm hgR), ⟨_, _, rfl, InRow.ri (InRow.of hbk), InRow.cap (InRow.of hbk), s3, InRow.cap (InRow.of h.ow)⟩, small_fit hl s1.2.1 s1.2.2, h.dr.below hk ((Below.refl _ _).setCell (p := ⟨g3, 2, none⟩) (show w0.heap.size ≤ g3 by omega) _)⟩
theorem own_twoI (w : World) (x y : Int) : ownI (w.alloc (.cells #[.int .i64 x, .int .i64 y] 3)) w.heap.size (.slice (some ⟨w.heap.size, 0, none⟩) 2 2) [x, y] := ⟨by simp [layI], .inr ⟨w.heap.size, 2, #[.int .i64 x, .int .i64 y], rfl, Nat.le_refl _, heap_alloc_new w _, by simp, by decide, by simp [layI], by simp [layI]⟩⟩
theorem pickD_any (k : Nat) (vs : List Int) (w : World) (hc : isCur k w) (hk : k < w.heap.size) (h0 : 0 < vs.length) (h1 : vs.length ≤ 1000) :
    Calls Try.prog 81 #[.pointer (some ⟨k, 0, none⟩), .slice (some ⟨w.heap.size, 0, none⟩) vs.length vs.length] (w.alloc (.cells (vs.map (Value.int .i64)).toArray 3)).drew fun e w' => ∃ x, x ∈ vs ∧ e = .returned (.int .i64 x) ∧ isCur k w' ∧ w.grownBy w' (some k) := by
  refine (l1PickInt_any k w.heap.size vs _ ((hc.alloc hk _).below (Below.drew (Below.refl _ _))) (by simp) (by omega) h0 h1 (fun q hq => ?_)).mono ?_
  · refine bx_cell (World.alloc_heap_new w _) q _ ?_
    rw [List.getElem?_toArray, List.getElem?_map, List.getElem?_eq_getElem hq, List.getD_eq_getElem?_getD, List.getElem?_eq_getElem hq]
    rfl
  · rintro e w' ⟨q, hq, rfl, hc', hg'⟩
    have hg2 : (w.alloc (.cells (vs.map (Value.int .i64)).toArray 3)).grownBy w' (some k) := ⟨hg'.os, hg'.tape, hg'.output, hg'.size, hg'.block⟩
    refine ⟨_, ?_, rfl, hc', grownBy_then (grown_alloc w _ k) hg2⟩
    rw [List.getD_eq_getElem?_getD, List.getElem?_eq_getElem hq]
    exact List.getElem_mem hq

theorem bent_a {k B R C : Nat} {w0 wr : World} {key : Int} {l : List Bk} {lll : List (List (List Int))} {hs : List Hd} {o2 oQ : Option Addr} {nb c2 n cQ : Nat} {x : World} (h : PS k B R C w0 wr key l lll hs o2 nb c2 oQ n cQ) (hc : isCur k x) (hg : wr.grownBy x (some k)) (hB : B ≠ k) (hR : R ≠ k) (hC : k < C) : x.cell? ⟨B, 2, none⟩ = some (.slice oQ n cQ) := bx_cell (h.draw hc hg hB hR hC).box 2 _ rfl
theorem bent_b {k B R C : Nat} {w0 wr : World} {key : Int} {l : List Bk} {lll : List (List (List Int))} {hs : List Hd} {o2 : Option Addr} {nb c2 n cQ : Nat} {x : World} {g i g3 c3 : Nat} (h : PS k B R C w0 wr key l lll hs o2 nb c2 (some ⟨g, 0, none⟩) n cQ) (hc : isCur k x) (hg : wr.grownBy x (some k)) (hB : B ≠ k) (hR : R ≠ k) (hC : k < C) (hi : i < lll.length) (hvi : hv hs i = .slice (some ⟨g3, 0, none⟩) 8 c3) : x.cell? ⟨g, i, none⟩ = some (.slice (some ⟨g3, 0, none⟩) 8 c3) := by
  have h2 := h.draw hc hg hB hR hC
  rw [← hvi]; exact head_cell h2.ow i (by rw [h2.gt.1]; exact hi)
theorem bent_d {wr : World} {B g g3 i n cQ c3 : Nat} (hB : g3 ≠ B) (hg : g3 ≠ g) (h1 : ∀ O, (wr.alloc O).cell? ⟨B, 2, none⟩ = some (.slice (some ⟨g, 0, none⟩) n cQ)) (h2 : ∀ O, (wr.alloc O).cell? ⟨g, i, none⟩ = some (.slice (some ⟨g3, 0, none⟩) 8 c3)) (O : Obj) (v : Value) : ((wr.alloc O).setCell ⟨g3, 2, none⟩ v).cell? ⟨B, 2, none⟩ = some (.slice (some ⟨g, 0, none⟩) n cQ) ∧ ((wr.alloc O).setCell ⟨g3, 2, none⟩ v).cell? ⟨g, i, none⟩ = some (.slice (some ⟨g3, 0, none⟩) 8 c3) :=
  ⟨(World.cell?_setCell_far _ _ _ _ hB).trans (h1 O), (World.cell?_setCell_far _ _ _ _ hg).trans (h2 O)⟩
theorem bent_c {k B R C : Nat} {w0 wr : World} {key : Int} {l : List Bk} {lll : List (List (List Int))} {hs : List Hd} {o2 : Option Addr} {nb c2 n cQ g i g3 c3 : Nat} (h : PS k B R C w0 wr key l lll hs o2 nb c2 (some ⟨g, 0, none⟩) n cQ) (hi : i < lll.length) (hvi : hv hs i = .slice (some ⟨g3, 0, none⟩) 8 c3) (hsm : smallR lll) (hl : l.length ≤ 1000) (hk : k < w0.heap.size) (hC : w0.heap.size ≤ C) (hgB : g3 ≠ B) (hgR : g3 ≠ R) (hgC : C ≤ g3) (x : Int) :
    (∀ O, (wr.alloc O).cell? ⟨B, 2, none⟩ = some (.slice (some ⟨g, 0, none⟩) n cQ)) ∧ (∀ O, (wr.alloc O).cell? ⟨g, i, none⟩ = some (.slice (some ⟨g3, 0, none⟩) 8 c3)) ∧ (∃ u, (wr.alloc (.cells #[.int .i64 x, .int .i64 1] 3)).cell? ⟨g3, 2, none⟩ = some u) ∧ (∀ O, (wr.alloc O).frozen? ⟨g3, 2, none⟩ = false) ∧ Hid (∃ m, PE k B R C w0 ((wr.alloc (.cells #[.int .i64 x, .int .i64 1] 3)).setCell ⟨g3, 2, none⟩ (.slice (some ⟨wr.heap.size, 0, none⟩) 2 2)) (.int .i64 key) (.slice o2 nb c2) (.slice (some ⟨g, 0, none⟩) n cQ) m) := by
  have hA : ∀ O, PS k B R C w0 (wr.alloc O) key l lll hs o2 nb c2 (some ⟨g, 0, none⟩) n cQ := fun O => h.below ((Below.refl _ _).alloc (Nat.le_refl _) O) hk
  have hT : ∀ O, ∃ hs8 : List Hd, hs8.length = 8 ∧ (wr.alloc O).ownsRow C 43 layH.k (.slice (some ⟨g3, 0, none⟩) 8 c3) 8 (hs8.flatMap layH.cs) := fun O => by
    obtain ⟨o3, c3', hs8, e3, k1, k2⟩ := (hA O).gt.2 i hi
    have e4 : hv hs i = .slice o3 (lll.getD i []).length c3' := by unfold hv; rw [e3]
    rw [hvi, (hsm.2.2 i hi).1] at e4
    injection e4 with q1 q2 q3
    subst q1 q3
    have hl := k2.len
    rw [(hsm.2.2 i hi).1] at hl k1
    unfold ownL at k1
    rw [hl] at k1
    exact ⟨hs8, hl, k1⟩
  refine ⟨fun O => bx_cell (hA O).box 2 _ rfl, fun O => by rw [← hvi]; exact head_cell (hA O).ow i (by rw [(hA O).gt.1]; exact hi), ?_, fun O => ?_, ?_⟩
  · obtain ⟨hs8, hl, k1⟩ := hT (.cells #[.int .i64 x, .int .i64 1] 3)
    have k2 : ownL layH 43 (wr.alloc (.cells #[.int .i64 x, .int .i64 1] 3)) C (.slice (some ⟨g3, 0, none⟩) 8 c3) hs8 := by unfold ownL; rw [hl]; exact k1
    exact ⟨_, head_cell k2 2 (by omega)⟩
  · obtain ⟨hs8, hl, k1⟩ := hT O
    exact World.ownsRow.frozenAt k1 2
  · have hCw : C ≤ wr.heap.size := Nat.le_trans hgC (by obtain ⟨o3, c3', hs8, e3, k1, k2⟩ := h.gt.2 i hi; have e4 : hv hs i = .slice o3 (lll.getD i []).length c3' := (by unfold hv; rw [e3]); rw [hvi] at e4; injection e4 with q1 _ _; subst q1; exact Nat.le_of_lt (k1.lt g3 rfl).2)
    exact (hA _).bend hsm hl hk hC hi hvi (own_mono (own_twoI wr x 1) hCw) hgB hgR hgC

set_option maxRecDepth 100000 in
set_option maxHeartbeats 16000000 in
theorem l4bent_any (k : Nat) (w : World) (hc : isCur k w) (hk : k < w.heap.size) :
    Calls Try.prog 53 #[.pointer (some ⟨k, 0, none⟩)] w fun e w' => ∃ v m, e = .returned v ∧ RcPm w.heap.size w'.heap.size w' v m ∧ fitPm m ∧ Dr k w w' := by
  obtain ⟨W0, hW0⟩ : ∃ W, w.alloc (.cells #[.int .i64 0, .slice none 0 0, .slice none 0 0] 26) = W := ⟨_, rfl⟩
  have hb0 : Below w.heap.size w W0 := by rw [← hW0]; exact (Below.refl _ _).alloc (Nat.le_refl _) _
  have HD0 := hide (show Dr k w W0 from ⟨hc.below (hb0.mono hk), by rw [← hW0]; exact grown_alloc w _ k⟩)
  have HR0 : Hid (W0.heap[w.heap.size]? = some (.cells #[.int .i64 0, .slice none 0 0, .slice none 0 0] 26 (0, 0))) := by rw [← hW0]; exact World.alloc_heap_new w _
  have hs0 : w.heap.size < W0.heap.size := by rw [← hW0]; simp
  clear hb0 hc
  go_enter Try.func53, Try.ntmps53
  go_wp2_with fail
  refine (l4draw_any k W0 HD0.out.cur (HD0.out.lt hk)).mono ?_
  rintro e w1 ⟨key, l, lll, hs, o2, c2, oQ, cQ, rfl, hl100, hsm, ow1, ow2, hgt, hd1⟩
  obtain ⟨nb, hnb⟩ : ∃ n, l.length = n := ⟨_, rfl⟩
  obtain ⟨n, hn⟩ : ∃ n, lll.length = n := ⟨_, rfl⟩
  rw [hnb] at ow1 ⊢
  rw [hn] at ow2 ⊢
  have HSM := hide hsm
  have HNB := hide hnb
  have HN := hide hn
  have hL : l.length ≤ 1000 := by omega
  have HL := hide hL
  have hn1 : 1 ≤ n := by rw [← hn]; exact hsm.1
  have hn3 : n ≤ 3 := by rw [← hn]; exact hsm.2.1
  have hs1 : W0.heap.size ≤ w1.heap.size := hd1.gr.size
  have hb2 : Below w1.heap.size w1 (w1.alloc (.cells #[.int .i64 key, .slice o2 nb c2, .slice oQ n cQ] 26)) := (Below.refl _ _).alloc (Nat.le_refl _) _
  have HJ2 := hide (show PS k w1.heap.size w.heap.size W0.heap.size w (w1.alloc (.cells #[.int .i64 key, .slice o2 nb c2, .slice oQ n cQ] 26)) key l lll hs o2 nb c2 oQ n cQ from ⟨hnb.symm, World.alloc_heap_new w1 _, (hb2.block _ (by omega)).trans (grown_box hd1.gr hs0 (by omega) HR0.out), own_kept ow1 hb2, own_kept ow2 hb2, hgt.kept hb2, (HD0.out.step hd1.cur hd1.gr).below hk (hb2.mono (by omega))⟩)
  clear hb2 ow1 ow2 hgt hd1 HR0 HD0 hnb hn hsm hL hl100
  go_wp2_with fail
  generalize (w1.alloc (.cells #[.int .i64 key, .slice o2 nb c2, .slice oQ n cQ] 26)) = W2 at *
  obtain ⟨B, hB⟩ : ∃ B, w1.heap.size = B := ⟨_, rfl⟩
  simp only [hB] at HJ2 hs1 ⊢
  have hkB : B ≠ k := by omega
  have hkR : w.heap.size ≠ k := by omega
  have hRB : w.heap.size ≠ B := by omega
  have hwB : w.heap.size ≤ B := by omega
  have hkC : k < W0.heap.size := by omega
  clear hB
  refine (l1Once_any k 8 W2 HJ2.out.dr.cur (by decide) (by decide)).mono ?_
  rintro e w3 ⟨yes, rfl, hc3, hg3⟩
  have HJ3 := hide (HJ2.out.draw hc3 hg3 hkB hkR hkC)
  clear hc3 hg3 HJ2
  cases yes with
  | false =>
    have HE := hide (HJ3.out.end0 HSM.out HL.out)
    have z0 : w3.cell? ⟨B, 0, none⟩ = some (.int .i64 key) := bx_cell HE.out.box 0 _ rfl
    have z1 : w3.cell? ⟨B, 1, none⟩ = some (.slice o2 nb c2) := bx_cell HE.out.box 1 _ rfl
    have z2 : w3.cell? ⟨B, 2, none⟩ = some (.slice oQ n cQ) := bx_cell HE.out.box 2 _ rfl
    have r0 : w3.cell? ⟨w.heap.size, 0, none⟩ = some (.int .i64 0) := bx_cell HE.out.res 0 _ rfl
    have fr0 : w3.frozen? ⟨w.heap.size, 0, none⟩ = false := bx_frozen HE.out.res 0
    have r1 : w3.cell? ⟨w.heap.size, 1, none⟩ = some (.slice none 0 0) := bx_cell HE.out.res 1 _ rfl
    have fr1 : w3.frozen? ⟨w.heap.size, 1, none⟩ = false := bx_frozen HE.out.res 1
    have r2 : w3.cell? ⟨w.heap.size, 2, none⟩ = some (.slice none 0 0) := bx_cell HE.out.res 2 _ rfl
    have fr2 : w3.frozen? ⟨w.heap.size, 2, none⟩ = false := bx_frozen HE.out.res 2
    have HF := hide (HE.out.done hk hs0)
    clear HJ3 HE
    go_wp2
    refine bodyPost_ret (v := .agg #[.int .i64 key, .slice o2 nb c2, .slice oQ n cQ]) (by simp [results, Try.results53, go_sem, r0, r1, r2]) rfl ⟨_, _, rfl, HF.out.1, HF.out.2.1, HF.out.2.2⟩
  | true =>
    go_wp2_with fail
    refine (l1Below_any k 4 w3 HJ3.out.dr.cur (by decide) (by decide)).mono ?_
    rintro e w4 ⟨x, rfl, hx0, hx3, hc4, hg4⟩
    have HJ4 := hide (HJ3.out.draw hc4 hg4 hkB hkR hkC)
    clear hc4 hg4 HJ3
    by_cases e0 : x = 0
    · subst e0
      go_wp2_with fail
      refine (pick_any k [-1, 1000000, 3] w4 HJ4.out.dr.cur (HJ4.out.dr.lt hk) (by simp) (by simp)).mono ?_
      rintro e w5 ⟨y, _, rfl, hc5, hg5⟩
      have HJ5 := hide (HJ4.out.draw hc5 hg5 hkB hkR hkC)
      have HE := hide (HJ5.out.key HSM.out HL.out hk hwB hRB y)
      have y2 : w5.cell? ⟨B, 0, none⟩ = some (.int .i64 key) := bx_cell HJ5.out.box 0 _ rfl
      have fy2 : w5.frozen? ⟨B, 0, none⟩ = false := bx_frozen HJ5.out.box 0
      have q0 : (w5.setCell ⟨B, 0, none⟩ (.int .i64 y)).cell? ⟨B, 0, none⟩ = some (.int .i64 y) := bx_cell HE.out.box 0 _ rfl
      have q1 : (w5.setCell ⟨B, 0, none⟩ (.int .i64 y)).cell? ⟨B, 1, none⟩ = some (.slice o2 nb c2) := bx_cell HE.out.box 1 _ rfl
      have q2 : (w5.setCell ⟨B, 0, none⟩ (.int .i64 y)).cell? ⟨B, 2, none⟩ = some (.slice oQ n cQ) := bx_cell HE.out.box 2 _ rfl
      have r0 : (w5.setCell ⟨B, 0, none⟩ (.int .i64 y)).cell? ⟨w.heap.size, 0, none⟩ = some (.int .i64 0) := bx_cell HE.out.res 0 _ rfl
      have fr0 : (w5.setCell ⟨B, 0, none⟩ (.int .i64 y)).frozen? ⟨w.heap.size, 0, none⟩ = false := bx_frozen HE.out.res 0
      have r1 : (w5.setCell ⟨B, 0, none⟩ (.int .i64 y)).cell? ⟨w.heap.size, 1, none⟩ = some (.slice none 0 0) := bx_cell HE.out.res 1 _ rfl
      have fr1 : (w5.setCell ⟨B, 0, none⟩ (.int .i64 y)).frozen? ⟨w.heap.size, 1, none⟩ = false := bx_frozen HE.out.res 1
      have r2 : (w5.setCell ⟨B, 0, none⟩ (.int .i64 y)).cell? ⟨w.heap.size, 2, none⟩ = some (.slice none 0 0) := bx_cell HE.out.res 2 _ rfl
      have fr2 : (w5.setCell ⟨B, 0, none⟩ (.int .i64 y)).frozen? ⟨w.heap.size, 2, none⟩ = false := bx_frozen HE.out.res 2
      have HF := hide (HE.out.done hk hs0)
      clear HJ4 HJ5 HE
      go_wp2
      refine bodyPost_ret (v := .agg #[.int .i64 y, .slice o2 nb c2, .slice oQ n cQ]) (by simp [results, Try.results53, go_sem, r0, r1, r2]) rfl ⟨_, _, rfl, HF.out.1, HF.out.2.1, HF.out.2.2⟩
    by_cases e1 : x = 1
    · subst e1
      go_wp2_with fail
      refine (l3bent_any k w4 HJ4.out.dr.cur (HJ4.out.dr.lt hk)).mono ?_
      rintro e w5 ⟨v5, L5, rfl, ow5, hl7, hc5, hg5⟩
      obtain ⟨o5, c5, e5, _⟩ := ownL.open (L := layK) ow5
      subst e5
      obtain ⟨m5, hm5⟩ : ∃ m, L5.length = m := ⟨_, rfl⟩
      rw [hm5] at hl7 ow5 ⊢
      have HJ5 := hide (HJ4.out.draw hc5 hg5 hkB hkR hkC)
      have HE := hide (HJ5.out.backs HSM.out hl7 hm5.symm hk hwB hRB (Nat.le_trans hs1 (Nat.le_of_lt (Array.getElem?_eq_some_iff.1 HJ4.out.box).1)) ow5)
      clear ow5 hm5
      have y2 : w5.cell? ⟨B, 1, none⟩ = some (.slice o2 nb c2) := bx_cell HJ5.out.box 1 _ rfl
      have fy2 : w5.frozen? ⟨B, 1, none⟩ = false := bx_frozen HJ5.out.box 1
      have q0 : (w5.setCell ⟨B, 1, none⟩ (.slice o5 m5 c5)).cell? ⟨B, 0, none⟩ = some (.int .i64 key) := bx_cell HE.out.box 0 _ rfl
      have q1 : (w5.setCell ⟨B, 1, none⟩ (.slice o5 m5 c5)).cell? ⟨B, 1, none⟩ = some (.slice o5 m5 c5) := bx_cell HE.out.box 1 _ rfl
      have q2 : (w5.setCell ⟨B, 1, none⟩ (.slice o5 m5 c5)).cell? ⟨B, 2, none⟩ = some (.slice oQ n cQ) := bx_cell HE.out.box 2 _ rfl
      have r0 : (w5.setCell ⟨B, 1, none⟩ (.slice o5 m5 c5)).cell? ⟨w.heap.size, 0, none⟩ = some (.int .i64 0) := bx_cell HE.out.res 0 _ rfl
      have fr0 : (w5.setCell ⟨B, 1, none⟩ (.slice o5 m5 c5)).frozen? ⟨w.heap.size, 0, none⟩ = false := bx_frozen HE.out.res 0
      have r1 : (w5.setCell ⟨B, 1, none⟩ (.slice o5 m5 c5)).cell? ⟨w.heap.size, 1, none⟩ = some (.slice none 0 0) := bx_cell HE.out.res 1 _ rfl
      have fr1 : (w5.setCell ⟨B, 1, none⟩ (.slice o5 m5 c5)).frozen? ⟨w.heap.size, 1, none⟩ = false := bx_frozen HE.out.res 1
      have r2 : (w5.setCell ⟨B, 1, none⟩ (.slice o5 m5 c5)).cell? ⟨w.heap.size, 2, none⟩ = some (.slice none 0 0) := bx_cell HE.out.res 2 _ rfl
      have fr2 : (w5.setCell ⟨B, 1, none⟩ (.slice o5 m5 c5)).frozen? ⟨w.heap.size, 2, none⟩ = false := bx_frozen HE.out.res 2
      have HF := hide (HE.out.done hk hs0)
      clear HJ4 HJ5 HE
      go_wp2
      refine bodyPost_ret (v := .agg #[.int .i64 key, .slice o5 m5 c5, .slice oQ n cQ]) (by simp [results, Try.results53, go_sem, r0, r1, r2]) rfl ⟨_, _, rfl, HF.out.1, HF.out.2.1, HF.out.2.2⟩
    by_cases e2 : x = 2
    · subst e2
      have HJ5 := HJ4
      have HE := hide (HJ5.out.nil HL.out hk hwB hRB)
      have y2 : w4.cell? ⟨B, 2, none⟩ = some (.slice oQ n cQ) := bx_cell HJ5.out.box 2 _ rfl
      have fy2 : w4.frozen? ⟨B, 2, none⟩ = false := bx_frozen HJ5.out.box 2
      have q0 : (w4.setCell ⟨B, 2, none⟩ (.slice none 0 0)).cell? ⟨B, 0, none⟩ = some (.int .i64 key) := bx_cell HE.out.box 0 _ rfl
      have q1 : (w4.setCell ⟨B, 2, none⟩ (.slice none 0 0)).cell? ⟨B, 1, none⟩ = some (.slice o2 nb c2) := bx_cell HE.out.box 1 _ rfl
      have q2 : (w4.setCell ⟨B, 2, none⟩ (.slice none 0 0)).cell? ⟨B, 2, none⟩ = some (.slice none 0 0) := bx_cell HE.out.box 2 _ rfl
      have r0 : (w4.setCell ⟨B, 2, none⟩ (.slice none 0 0)).cell? ⟨w.heap.size, 0, none⟩ = some (.int .i64 0) := bx_cell HE.out.res 0 _ rfl
      have fr0 : (w4.setCell ⟨B, 2, none⟩ (.slice none 0 0)).frozen? ⟨w.heap.size, 0, none⟩ = false := bx_frozen HE.out.res 0
      have r1 : (w4.setCell ⟨B, 2, none⟩ (.slice none 0 0)).cell? ⟨w.heap.size, 1, none⟩ = some (.slice none 0 0) := bx_cell HE.out.res 1 _ rfl
      have fr1 : (w4.setCell ⟨B, 2, none⟩ (.slice none 0 0)).frozen? ⟨w.heap.size, 1, none⟩ = false := bx_frozen HE.out.res 1
      have r2 : (w4.setCell ⟨B, 2, none⟩ (.slice none 0 0)).cell? ⟨w.heap.size, 2, none⟩ = some (.slice none 0 0) := bx_cell HE.out.res 2 _ rfl
      have fr2 : (w4.setCell ⟨B, 2, none⟩ (.slice none 0 0)).frozen? ⟨w.heap.size, 2, none⟩ = false := bx_frozen HE.out.res 2
      have HF := hide (HE.out.done hk hs0)
      clear HJ4 HJ5 HE
      go_wp2
      refine bodyPost_ret (v := .agg #[.int .i64 key, .slice o2 nb c2, .slice none 0 0]) (by simp [results, Try.results53, go_sem, r0, r1, r2]) rfl ⟨_, _, rfl, HF.out.1, HF.out.2.1, HF.out.2.2⟩
    · have HCD : Hid (isCur k w4) := HJ4.out.dr.cur
      have HKD : Hid (k < w4.heap.size) := HJ4.out.dr.lt hk
      obtain ⟨g, cg, hve⟩ := own_someH HJ4.out.ow (by rw [HJ4.out.gt.1, HN.out]; omega)
      injection hve with ho1 hA1 hA2
      clear hA1 hA2
      subst ho1
      obtain ⟨i, hi⟩ : ∃ i, n = i + 1 := ⟨n - 1, by omega⟩
      have hil : i < lll.length := by rw [HN.out]; omega
      obtain ⟨o3, c3, hs8, e3, k1, k2⟩ := HJ4.out.gt.2 i hil
      rw [(HSM.out.2.2 i hil).1] at e3 k1 k2
      obtain ⟨g3, c3', hv3⟩ := own_someH k1 (by rw [k2.len]; decide)
      injection hv3 with ho3 hA1 hA2
      clear hA1 hA2
      subst ho3
      have hgl : W0.heap.size ≤ g ∧ g < w4.heap.size := HJ4.out.ow.lt g rfl
      have hg3l : W0.heap.size ≤ g3 ∧ g3 < w4.heap.size := k1.lt g3 rfl
      have hg3B : g3 ≠ B := by
        rcases own_box k1 HJ4.out.box neP2 with h | h
        · cases h
        · exact fun e => h (by rw [e]; rfl)
      have hgB : g ≠ B := by
        rcases own_box HJ4.out.ow HJ4.out.box neP1 with h | h
        · cases h
        · exact fun e => h (by rw [e]; rfl)
      have hvI : hv hs i = .slice (some ⟨g3, 0, none⟩) 8 c3 := by unfold hv; rw [e3]
      have z2 : w4.cell? ⟨B, 2, none⟩ = some (.slice (some ⟨g, 0, none⟩) n cQ) := bx_cell HJ4.out.box 2 _ rfl
      have zc : w4.cell? ⟨g, i, none⟩ = some (.slice (some ⟨g3, 0, none⟩) 8 c3) := by rw [← hvI]; exact head_cell HJ4.out.ow i (by rw [HJ4.out.gt.1]; exact hil)
      have HGG : g3 ≠ g := by
        rcases own_apart k1 HJ4.out.ow neT1 with h | h
        · cases h
        · exact fun e => h (by rw [e]; rfl)
      clear k1 k2 e3
      have hBl : B < w4.heap.size := (Array.getElem?_eq_some_iff.1 HJ4.out.box).1
      have hg3R : g3 ≠ w.heap.size := by omega
      have hgg : g3 ≠ g := HGG
      obtain ⟨rfl, rfl⟩ | ⟨rfl, rfl⟩ | ⟨rfl, rfl⟩ : (i = 0 ∧ n = 1) ∨ (i = 1 ∧ n = 2) ∨ (i = 2 ∧ n = 3) := by omega
      · have HPK : Hid (Calls Try.prog 81 #[.pointer (some ⟨k, 0, none⟩), .slice (some ⟨w4.heap.size, 0, none⟩) 3 3] (w4.alloc (.cells #[.int .i64 (-1), .int .i64 0, .int .i64 6] 3)).drew fun e w' => ∃ x, x ∈ ([-1, 0, 6] : List Int) ∧ e = .returned (.int .i64 x) ∧ isCur k w' ∧ w4.grownBy w' (some k)) := pickD_any k [-1, 0, 6] w4 HCD.out HKD.out (by decide) (by decide)
        have z2d : w4.drew.cell? ⟨B, 2, none⟩ = some (.slice (some ⟨g, 0, none⟩) 1 cQ) := z2
        have zcd : w4.drew.cell? ⟨g, 0, none⟩ = some (.slice (some ⟨g3, 0, none⟩) 8 c3) := zc
        have z2a : ∀ O, (w4.alloc O).cell? ⟨B, 2, none⟩ = some (.slice (some ⟨g, 0, none⟩) 1 cQ) := fun O => bC ((Below.refl _ _).alloc (Nat.le_refl _) O) z2 hBl
        have zca : ∀ O, (w4.alloc O).cell? ⟨g, 0, none⟩ = some (.slice (some ⟨g3, 0, none⟩) 8 c3) := fun O => bC ((Below.refl _ _).alloc (Nat.le_refl _) O) zc hgl.2
        have hwI : IntKind.i64.wrap 0 = 0 := by first | rfl | decide
        go_wp2
        go_region_held3 (fun w' => w'.cell? ⟨B, 2, none⟩ = some (.slice (some ⟨g, 0, none⟩) 1 cQ) ∧ w'.cell? ⟨g, 0, none⟩ = some (.slice (some ⟨g3, 0, none⟩) 8 c3)) (first | with_reducible exact ⟨z2, zc⟩ | with_reducible exact ⟨z2d, zcd⟩ | with_reducible exact ⟨z2a _, zca _⟩ | with_reducible exact ⟨y2, yc⟩ | with_reducible exact ⟨ha2 _, hac _⟩ | with_reducible exact hag _ _ | go_keep) (first | (go_at_call 81; refine (HPK.out).mono ?_; rintro e w5 ⟨x5, hmem, rfl, hc5, hg5⟩; clear hmem; have J5 := HJ4.out.draw hc5 hg5 hkB hkR hkC; have y2 := bent_a HJ4.out hc5 hg5 hkB hkR hkC; have yc := bent_b HJ4.out hc5 hg5 hkB hkR hkC hil hvI; obtain ⟨ha2, hac, ⟨u3, hau⟩, haf, hae⟩ := bent_c J5 hil hvI HSM.out HL.out hk (Nat.le_of_lt hs0) hg3B hg3R hg3l.1 x5; have hag := bent_d hg3B hgg ha2 hac; clear hc5 hg5))
        obtain ⟨m9, he9⟩ := hae.out
        have q0 : ((w5.alloc (.cells #[.int .i64 x5, .int .i64 1] 3)).setCell ⟨g3, 2, none⟩ (.slice (some ⟨w5.heap.size, 0, none⟩) 2 2)).cell? ⟨B, 0, none⟩ = some (.int .i64 key) := bx_cell he9.box 0 _ rfl
        have q1 : ((w5.alloc (.cells #[.int .i64 x5, .int .i64 1] 3)).setCell ⟨g3, 2, none⟩ (.slice (some ⟨w5.heap.size, 0, none⟩) 2 2)).cell? ⟨B, 1, none⟩ = some (.slice o2 nb c2) := bx_cell he9.box 1 _ rfl
        have q2 : ((w5.alloc (.cells #[.int .i64 x5, .int .i64 1] 3)).setCell ⟨g3, 2, none⟩ (.slice (some ⟨w5.heap.size, 0, none⟩) 2 2)).cell? ⟨B, 2, none⟩ = some (.slice (some ⟨g, 0, none⟩) 1 cQ) := bx_cell he9.box 2 _ rfl
        have r0 : ((w5.alloc (.cells #[.int .i64 x5, .int .i64 1] 3)).setCell ⟨g3, 2, none⟩ (.slice (some ⟨w5.heap.size, 0, none⟩) 2 2)).cell? ⟨w.heap.size, 0, none⟩ = some (.int .i64 0) := bx_cell he9.res 0 _ rfl
        have fr0 : ((w5.alloc (.cells #[.int .i64 x5, .int .i64 1] 3)).setCell ⟨g3, 2, none⟩ (.slice (some ⟨w5.heap.size, 0, none⟩) 2 2)).frozen? ⟨w.heap.size, 0, none⟩ = false := bx_frozen he9.res 0
        have r1 : ((w5.alloc (.cells #[.int .i64 x5, .int .i64 1] 3)).setCell ⟨g3, 2, none⟩ (.slice (some ⟨w5.heap.size, 0, none⟩) 2 2)).cell? ⟨w.heap.size, 1, none⟩ = some (.slice none 0 0) := bx_cell he9.res 1 _ rfl
        have fr1 : ((w5.alloc (.cells #[.int .i64 x5, .int .i64 1] 3)).setCell ⟨g3, 2, none⟩ (.slice (some ⟨w5.heap.size, 0, none⟩) 2 2)).frozen? ⟨w.heap.size, 1, none⟩ = false := bx_frozen he9.res 1
        have r2 : ((w5.alloc (.cells #[.int .i64 x5, .int .i64 1] 3)).setCell ⟨g3, 2, none⟩ (.slice (some ⟨w5.heap.size, 0, none⟩) 2 2)).cell? ⟨w.heap.size, 2, none⟩ = some (.slice none 0 0) := bx_cell he9.res 2 _ rfl
        have fr2 : ((w5.alloc (.cells #[.int .i64 x5, .int .i64 1] 3)).setCell ⟨g3, 2, none⟩ (.slice (some ⟨w5.heap.size, 0, none⟩) 2 2)).frozen? ⟨w.heap.size, 2, none⟩ = false := bx_frozen he9.res 2
        have HF := hide (he9.done hk hs0)
        clear HJ4 he9 hae ha2 hac hau haf hag J5 y2 yc z2 zc z2a zca z2d zcd HPK HSM HN HCD HKD
        go_wp2
        refine bodyPost_ret (v := .agg #[.int .i64 key, .slice o2 nb c2, .slice (some ⟨g, 0, none⟩) 1 cQ]) (by simp [results, Try.results53, go_sem, r0, r1, r2]) rfl ⟨_, _, rfl, HF.out.1, HF.out.2.1, HF.out.2.2⟩
      · have HPK : Hid (Calls Try.prog 81 #[.pointer (some ⟨k, 0, none⟩), .slice (some ⟨w4.heap.size, 0, none⟩) 3 3] (w4.alloc (.cells #[.int .i64 (-1), .int .i64 0, .int .i64 6] 3)).drew fun e w' => ∃ x, x ∈ ([-1, 0, 6] : List Int) ∧ e = .returned (.int .i64 x) ∧ isCur k w' ∧ w4.grownBy w' (some k)) := pickD_any k [-1, 0, 6] w4 HCD.out HKD.out (by decide) (by decide)
        have z2d : w4.drew.cell? ⟨B, 2, none⟩ = some (.slice (some ⟨g, 0, none⟩) 2 cQ) := z2
        have zcd : w4.drew.cell? ⟨g, 1, none⟩ = some (.slice (some ⟨g3, 0, none⟩) 8 c3) := zc
        have z2a : ∀ O, (w4.alloc O).cell? ⟨B, 2, none⟩ = some (.slice (some ⟨g, 0, none⟩) 2 cQ) := fun O => bC ((Below.refl _ _).alloc (Nat.le_refl _) O) z2 hBl
        have zca : ∀ O, (w4.alloc O).cell? ⟨g, 1, none⟩ = some (.slice (some ⟨g3, 0, none⟩) 8 c3) := fun O => bC ((Below.refl _ _).alloc (Nat.le_refl _) O) zc hgl.2
        have hwI : IntKind.i64.wrap 1 = 1 := by first | rfl | decide
        go_wp2
        go_region_held3 (fun w' => w'.cell? ⟨B, 2, none⟩ = some (.slice (some ⟨g, 0, none⟩) 2 cQ) ∧ w'.cell? ⟨g, 1, none⟩ = some (.slice (some ⟨g3, 0, none⟩) 8 c3)) (first | with_reducible exact ⟨z2, zc⟩ | with_reducible exact ⟨z2d, zcd⟩ | with_reducible exact ⟨z2a _, zca _⟩ | with_reducible exact ⟨y2, yc⟩ | with_reducible exact ⟨ha2 _, hac _⟩ | with_reducible exact hag _ _ | go_keep) (first | (go_at_call 81; refine (HPK.out).mono ?_; rintro e w5 ⟨x5, hmem, rfl, hc5, hg5⟩; clear hmem; have J5 := HJ4.out.draw hc5 hg5 hkB hkR hkC; have y2 := bent_a HJ4.out hc5 hg5 hkB hkR hkC; have yc := bent_b HJ4.out hc5 hg5 hkB hkR hkC hil hvI; obtain ⟨ha2, hac, ⟨u3, hau⟩, haf, hae⟩ := bent_c J5 hil hvI HSM.out HL.out hk (Nat.le_of_lt hs0) hg3B hg3R hg3l.1 x5; have hag := bent_d hg3B hgg ha2 hac; clear hc5 hg5))
        obtain ⟨m9, he9⟩ := hae.out
        have q0 : ((w5.alloc (.cells #[.int .i64 x5, .int .i64 1] 3)).setCell ⟨g3, 2, none⟩ (.slice (some ⟨w5.heap.size, 0, none⟩) 2 2)).cell? ⟨B, 0, none⟩ = some (.int .i64 key) := bx_cell he9.box 0 _ rfl
        have q1 : ((w5.alloc (.cells #[.int .i64 x5, .int .i64 1] 3)).setCell ⟨g3, 2, none⟩ (.slice (some ⟨w5.heap.size, 0, none⟩) 2 2)).cell? ⟨B, 1, none⟩ = some (.slice o2 nb c2) := bx_cell he9.box 1 _ rfl
        have q2 : ((w5.alloc (.cells #[.int .i64 x5, .int .i64 1] 3)).setCell ⟨g3, 2, none⟩ (.slice (some ⟨w5.heap.size, 0, none⟩) 2 2)).cell? ⟨B, 2, none⟩ = some (.slice (some ⟨g, 0, none⟩) 2 cQ) := bx_cell he9.box 2 _ rfl
        have r0 : ((w5.alloc (.cells #[.int .i64 x5, .int .i64 1] 3)).setCell ⟨g3, 2, none⟩ (.slice (some ⟨w5.heap.size, 0, none⟩) 2 2)).cell? ⟨w.heap.size, 0, none⟩ = some (.int .i64 0) := bx_cell he9.res 0 _ rfl
        have fr0 : ((w5.alloc (.cells #[.int .i64 x5, .int .i64 1] 3)).setCell ⟨g3, 2, none⟩ (.slice (some ⟨w5.heap.size, 0, none⟩) 2 2)).frozen? ⟨w.heap.size, 0, none⟩ = false := bx_frozen he9.res 0
        have r1 : ((w5.alloc (.cells #[.int .i64 x5, .int .i64 1] 3)).setCell ⟨g3, 2, none⟩ (.slice (some ⟨w5.heap.size, 0, none⟩) 2 2)).cell? ⟨w.heap.size, 1, none⟩ = some (.slice none 0 0) := bx_cell he9.res 1 _ rfl
        have fr1 : ((w5.alloc (.cells #[.int .i64 x5, .int .i64 1] 3)).setCell ⟨g3, 2, none⟩ (.slice (some ⟨w5.heap.size, 0, none⟩) 2 2)).frozen? ⟨w.heap.size, 1, none⟩ = false := bx_frozen he9.res 1
        have r2 : ((w5.alloc (.cells #[.int .i64 x5, .int .i64 1] 3)).setCell ⟨g3, 2, none⟩ (.slice (some ⟨w5.heap.size, 0, none⟩) 2 2)).cell? ⟨w.heap.size, 2, none⟩ = some (.slice none 0 0) := bx_cell he9.res 2 _ rfl
        have fr2 : ((w5.alloc (.cells #[.int .i64 x5, .int .i64 1] 3)).setCell ⟨g3, 2, none⟩ (.slice (some ⟨w5.heap.size, 0, none⟩) 2 2)).frozen? ⟨w.heap.size, 2, none⟩ = false := bx_frozen he9.res 2
        have HF := hide (he9.done hk hs0)
        clear HJ4 he9 hae ha2 hac hau haf hag J5 y2 yc z2 zc z2a zca z2d zcd HPK HSM HN HCD HKD
        go_wp2
        refine bodyPost_ret (v := .agg #[.int .i64 key, .slice o2 nb c2, .slice (some ⟨g, 0, none⟩) 2 cQ]) (by simp [results, Try.results53, go_sem, r0, r1, r2]) rfl ⟨_, _, rfl, HF.out.1, HF.out.2.1, HF.out.2.2⟩
      · have HPK : Hid (Calls Try.prog 81 #[.pointer (some ⟨k, 0, none⟩), .slice (some ⟨w4.heap.size, 0, none⟩) 3 3] (w4.alloc (.cells #[.int .i64 (-1), .int .i64 0, .int .i64 6] 3)).drew fun e w' => ∃ x, x ∈ ([-1, 0, 6] : List Int) ∧ e = .returned (.int .i64 x) ∧ isCur k w' ∧ w4.grownBy w' (some k)) := pickD_any k [-1, 0, 6] w4 HCD.out HKD.out (by decide) (by decide)
        have z2d : w4.drew.cell? ⟨B, 2, none⟩ = some (.slice (some ⟨g, 0, none⟩) 3 cQ) := z2
        have zcd : w4.drew.cell? ⟨g, 2, none⟩ = some (.slice (some ⟨g3, 0, none⟩) 8 c3) := zc
        have z2a : ∀ O, (w4.alloc O).cell? ⟨B, 2, none⟩ = some (.slice (some ⟨g, 0, none⟩) 3 cQ) := fun O => bC ((Below.refl _ _).alloc (Nat.le_refl _) O) z2 hBl
        have zca : ∀ O, (w4.alloc O).cell? ⟨g, 2, none⟩ = some (.slice (some ⟨g3, 0, none⟩) 8 c3) := fun O => bC ((Below.refl _ _).alloc (Nat.le_refl _) O) zc hgl.2
        have hwI : IntKind.i64.wrap 2 = 2 := by first | rfl | decide
        go_wp2
        go_region_held3 (fun w' => w'.cell? ⟨B, 2, none⟩ = some (.slice (some ⟨g, 0, none⟩) 3 cQ) ∧ w'.cell? ⟨g, 2, none⟩ = some (.slice (some ⟨g3, 0, none⟩) 8 c3)) (first | with_reducible exact ⟨z2, zc⟩ | with_reducible exact ⟨z2d, zcd⟩ | with_reducible exact ⟨z2a _, zca _⟩ | with_reducible exact ⟨y2, yc⟩ | with_reducible exact ⟨ha2 _, hac _⟩ | with_reducible exact hag _ _ | go_keep) (first | (go_at_call 81; refine (HPK.out).mono ?_; rintro e w5 ⟨x5, hmem, rfl, hc5, hg5⟩; clear hmem; have J5 := HJ4.out.draw hc5 hg5 hkB hkR hkC; have y2 := bent_a HJ4.out hc5 hg5 hkB hkR hkC; have yc := bent_b HJ4.out hc5 hg5 hkB hkR hkC hil hvI; obtain ⟨ha2, hac, ⟨u3, hau⟩, haf, hae⟩ := bent_c J5 hil hvI HSM.out HL.out hk (Nat.le_of_lt hs0) hg3B hg3R hg3l.1 x5; have hag := bent_d hg3B hgg ha2 hac; clear hc5 hg5))
        obtain ⟨m9, he9⟩ := hae.out
        have q0 : ((w5.alloc (.cells #[.int .i64 x5, .int .i64 1] 3)).setCell ⟨g3, 2, none⟩ (.slice (some ⟨w5.heap.size, 0, none⟩) 2 2)).cell? ⟨B, 0, none⟩ = some (.int .i64 key) := bx_cell he9.box 0 _ rfl
        have q1 : ((w5.alloc (.cells #[.int .i64 x5, .int .i64 1] 3)).setCell ⟨g3, 2, none⟩ (.slice (some ⟨w5.heap.size, 0, none⟩) 2 2)).cell? ⟨B, 1, none⟩ = some (.slice o2 nb c2) := bx_cell he9.box 1 _ rfl
        have q2 : ((w5.alloc (.cells #[.int .i64 x5, .int .i64 1] 3)).setCell ⟨g3, 2, none⟩ (.slice (some ⟨w5.heap.size, 0, none⟩) 2 2)).cell? ⟨B, 2, none⟩ = some (.slice (some ⟨g, 0, none⟩) 3 cQ) := bx_cell he9.box 2 _ rfl
        have r0 : ((w5.alloc (.cells #[.int .i64 x5, .int .i64 1] 3)).setCell ⟨g3, 2, none⟩ (.slice (some ⟨w5.heap.size, 0, none⟩) 2 2)).cell? ⟨w.heap.size, 0, none⟩ = some (.int .i64 0) := bx_cell he9.res 0 _ rfl
        have fr0 : ((w5.alloc (.cells #[.int .i64 x5, .int .i64 1] 3)).setCell ⟨g3, 2, none⟩ (.slice (some ⟨w5.heap.size, 0, none⟩) 2 2)).frozen? ⟨w.heap.size, 0, none⟩ = false := bx_frozen he9.res 0
        have r1 : ((w5.alloc (.cells #[.int .i64 x5, .int .i64 1] 3)).setCell ⟨g3, 2, none⟩ (.slice (some ⟨w5.heap.size, 0, none⟩) 2 2)).cell? ⟨w.heap.size, 1, none⟩ = some (.slice none 0 0) := bx_cell he9.res 1 _ rfl
        have fr1 : ((w5.alloc (.cells #[.int .i64 x5, .int .i64 1] 3)).setCell ⟨g3, 2, none⟩ (.slice (some ⟨w5.heap.size, 0, none⟩) 2 2)).frozen? ⟨w.heap.size, 1, none⟩ = false := bx_frozen he9.res 1
        have r2 : ((w5.alloc (.cells #[.int .i64 x5, .int .i64 1] 3)).setCell ⟨g3, 2, none⟩ (.slice (some ⟨w5.heap.size, 0, none⟩) 2 2)).cell? ⟨w.heap.size, 2, none⟩ = some (.slice none 0 0) := bx_cell he9.res 2 _ rfl
        have fr2 : ((w5.alloc (.cells #[.int .i64 x5, .int .i64 1] 3)).setCell ⟨g3, 2, none⟩ (.slice (some ⟨w5.heap.size, 0, none⟩) 2 2)).frozen? ⟨w.heap.size, 2, none⟩ = false := bx_frozen he9.res 2
        have HF := hide (he9.done hk hs0)
        clear HJ4 he9 hae ha2 hac hau haf hag J5 y2 yc z2 zc z2a zca z2d zcd HPK HSM HN HCD HKD
        go_wp2
        refine bodyPost_ret (v := .agg #[.int .i64 key, .slice o2 nb c2, .slice (some ⟨g, 0, none⟩) 3 cQ]) (by simp [results, Try.results53, go_sem, r0, r1, r2]) rfl ⟨_, _, rfl, HF.out.1, HF.out.2.1, HF.out.2.2⟩

end Go.Proofs.Ytldjaapbkihibaa

/- The drawn arguments of FnCandidates and FnPools. -/
namespace Go.Proofs.Ytldjaapbkihibaa
open Go.ChangeShapes Go.WideShapes Go.ChangeAt Go.RowKit Go.Joins
set_option linter.unusedVariables false
set_option linter.unusedSimpArgs false


theorem RcPm.opn {lo hi : Nat} {w : World} {v : Value} {m : Pm} (h : RcPm lo hi w v m) : ∃ (o : Option Addr) (c : Nat) (oR : Option Addr) (cR : Nat), v = plv m.key (.slice o m.l.length c) (.slice oR m.ring.length cR) := by
  obtain ⟨vb, vr, e, ⟨o, c, e1, _⟩, _, h2, _⟩ := h
  obtain ⟨oR, cR, e2⟩ := RiR.len (RcR.ri h2)
  exact ⟨o, c, oR, cR, by rw [e, e1, e2]⟩
theorem RcPm.rd {lo hi : Nat} {w : World} {v : Value} {m : Pm} (h : RcPm lo hi w v m) : RdPm hi w v m := by
  obtain ⟨vb, vr, e, h1, _, h2, _⟩ := h
  exact ⟨vb, vr, e, h1.mono (Nat.zero_le _) (Nat.le_refl _), RiR.mon.go (RcR.ri h2) (Nat.zero_le _) (Nat.le_refl _)⟩
theorem stp_grown1 {w w' : World} {K : Nat} (hg : w.grownBy w' (some K)) : Stp K (K + 1) w w' := Stp.grown hg (fun b e => by have : K = b := Option.some.inj e; omega)

set_option maxRecDepth 100000 in
set_option maxHeartbeats 4000000 in
theorem drawCand_any (o : Option Addr) (cap : Nat) (l : List Int) (w : World) (hR : Rd w o l) (hB8 : isB l) (hm : l.length ≤ maxLen) :
    Calls Try.prog 18 #[.slice o l.length cap] w fun e w' => ∃ v m b, e = .returned (.tuple #[v, .int .i64 b]) ∧ RcPm w.heap.size w'.heap.size w' v m ∧ fitPm m ∧ Below w.heap.size w w' := by
  obtain ⟨W0, hW0⟩ : ∃ W, w.alloc (.cells #[.int .i64 0, .slice none 0 0, .slice none 0 0] 26) = W := ⟨_, rfl⟩
  have hb0 : Below w.heap.size w W0 := by rw [← hW0]; exact (Below.refl _ _).alloc (Nat.le_refl _) _
  have HR0 : Hid (W0.heap[w.heap.size]? = some (.cells #[.int .i64 0, .slice none 0 0, .slice none 0 0] 26 (0, 0))) := by rw [← hW0]; exact World.alloc_heap_new w _
  have hs0 : w.heap.size < W0.heap.size := by rw [← hW0]; simp
  have HNW := hide (l1New_any o cap l W0 (hR.kept hb0) hB8 hm)
  have HB0 := hide hb0
  clear hR hb0
  go_enter Try.func18, Try.ntmps18
  go_wp2_with fail
  refine HNW.out.mono ?_
  rintro e w1 ⟨rfl, hc1, hb1, hs1⟩
  obtain ⟨K, hK⟩ : ∃ K, W0.heap.size = K := ⟨_, rfl⟩
  have HR1 := hide ((hb1.block _ hs0).trans HR0.out)
  have HB1 := hide (HB0.out.trans (hb1.mono HB0.out.size))
  simp only [hK] at hs0 hs1 hc1 ⊢
  have HC1 := hide hc1
  clear hb1 hc1 HR0 HB0 HNW hK
  go_wp2_with fail
  refine (l4bent_any K w1 HC1.out hs1).mono ?_
  rintro e w2 ⟨v, m, rfl, hin, hf, hd2⟩
  have HIN := hide hin
  have HF := hide hf
  obtain ⟨o2, c2, oR2, cR2, hve⟩ := hin.opn
  obtain ⟨key, hkey⟩ : ∃ x, m.key = x := ⟨_, rfl⟩
  obtain ⟨nb, hnb⟩ : ∃ x, m.l.length = x := ⟨_, rfl⟩
  obtain ⟨n, hn⟩ : ∃ x, m.ring.length = x := ⟨_, rfl⟩
  rw [hkey, hnb, hn] at hve
  subst hve
  have HR2 := hide (grown_box hd2.gr (show w.heap.size < w1.heap.size by omega) (by omega) HR1.out)
  have HB2 := hide (show Below w.heap.size w w2 from ⟨hd2.gr.os.trans HB1.out.os, hd2.gr.tape.trans HB1.out.tape, hd2.gr.output.trans HB1.out.output, Nat.le_trans HB1.out.size hd2.gr.size, fun q hq => (hd2.gr.block q (Nat.lt_of_lt_of_le hq HB1.out.size) (by simp; omega)).trans (HB1.out.block q hq)⟩)
  have HC2 := hide hd2.cur
  have hs21 : w1.heap.size ≤ w2.heap.size := hd2.gr.size
  clear hin hf hd2 HR1 HB1 HC1 hkey hnb hn
  go_wp2_with fail
  refine (l1Below_any K 10 w2 HC2.out (by decide) (by decide)).mono ?_
  rintro e w3 ⟨b, rfl, hb0, hb10, hc3, hg3⟩
  have hr3 := grown_box hg3 (show w.heap.size < w2.heap.size by omega) (by omega) HR2.out
  have hs32 : w2.heap.size ≤ w3.heap.size := hg3.size
  have HB3 := hide (show Below w.heap.size w w3 from ⟨hg3.os.trans HB2.out.os, hg3.tape.trans HB2.out.tape, hg3.output.trans HB2.out.output, Nat.le_trans HB2.out.size hg3.size, fun q hq => (hg3.block q (Nat.lt_of_lt_of_le hq HB2.out.size) (by simp; omega)).trans (HB2.out.block q hq)⟩)
  have HI3 := hide (((HIN.out.step (stp_grown1 hg3) (.inl (by omega))).mono (Nat.le_refl _) hs32).step (stp_setQ w3 w.heap.size (.int .i64 key) (.slice o2 nb c2) (.slice oR2 n cR2)) (.inl (by omega)))
  have r0 : w3.cell? ⟨w.heap.size, 0, none⟩ = some (.int .i64 0) := bx_cell hr3 0 _ rfl
  have fr0 : w3.frozen? ⟨w.heap.size, 0, none⟩ = false := bx_frozen hr3 0
  have r1 : w3.cell? ⟨w.heap.size, 1, none⟩ = some (.slice none 0 0) := bx_cell hr3 1 _ rfl
  have fr1 : w3.frozen? ⟨w.heap.size, 1, none⟩ = false := bx_frozen hr3 1
  have r2 : w3.cell? ⟨w.heap.size, 2, none⟩ = some (.slice none 0 0) := bx_cell hr3 2 _ rfl
  have fr2 : w3.frozen? ⟨w.heap.size, 2, none⟩ = false := bx_frozen hr3 2
  clear hc3 hg3 hr3 HR2 HB2 HC2 HIN
  have hwr : IntKind.i64.wrap (b - 1) = b - 1 := by rw [IntKind.wrap_i64]; omega
  go_wp2
  refine bodyPost_ret (v := .tuple #[plv key (.slice o2 nb c2) (.slice oR2 n cR2), .int .i64 (b - 1)]) (by simp [results, Try.results18, go_sem, r0, r1, r2, hwr]) rfl ⟨_, m, b - 1, rfl, ?_, HF.out, setP_below HB3.out (Nat.le_refl _) _ _ _⟩
  exact HI3.out.mono (by omega) (by rw [setQ_size]; exact Nat.le_refl _)

set_option maxRecDepth 100000 in
set_option maxHeartbeats 4000000 in
theorem drawPDo_any (o : Option Addr) (cap : Nat) (l : List Int) (w : World) (hR : Rd w o l) (hB8 : isB l) (hm : l.length ≤ maxLen) :
    Calls Try.prog 12 #[.slice o l.length cap] w fun e w' => ∃ v m a i g, e = .returned (.tuple #[v, cmd a i g]) ∧ RcPm w.heap.size w'.heap.size w' v m ∧ fitPm m ∧ Below w.heap.size w w' := by
  obtain ⟨W0, hW0⟩ : ∃ W, (w.alloc (.cells #[.int .i64 0, .slice none 0 0, .slice none 0 0] 26)).alloc (.cells #[.int .i64 0, .int .i64 0, .int .i64 0] 28) = W := ⟨_, rfl⟩
  have hb0 : Below w.heap.size w W0 := by rw [← hW0]; exact (((Below.refl _ _).alloc (Nat.le_refl _) _).alloc (by simp <;> omega) _)
  have HR0 : Hid (W0.heap[w.heap.size]? = some (.cells #[.int .i64 0, .slice none 0 0, .slice none 0 0] 26 (0, 0))) := by rw [← hW0]; exact box_old2 w _ _ _
  have HK0 : Hid (W0.heap[w.heap.size + 1]? = some (.cells #[.int .i64 0, .int .i64 0, .int .i64 0] 28 (0, 0))) := by rw [← hW0]; exact box_new2 w _ _ _
  have hs0 : w.heap.size + 1 < W0.heap.size := by rw [← hW0]; simp
  have HNW := hide (l1New_any o cap l W0 (hR.kept hb0) hB8 hm)
  have HB0 := hide hb0
  clear hR hb0
  go_enter Try.func12, Try.ntmps12
  go_wp2_with fail
  refine HNW.out.mono ?_
  rintro e w1 ⟨rfl, hc1, hb1, hs1⟩
  obtain ⟨K, hK⟩ : ∃ K, W0.heap.size = K := ⟨_, rfl⟩
  have HR1 := hide ((hb1.block _ (by omega)).trans HR0.out)
  have HK1 := hide ((hb1.block _ (by omega)).trans HK0.out)
  have HB1 := hide (HB0.out.trans (hb1.mono HB0.out.size))
  simp only [hK] at hs0 hs1 hc1 ⊢
  have HC1 := hide hc1
  clear hb1 hc1 HR0 HK0 HB0 HNW hK
  go_wp2_with fail
  refine (l4bent_any K w1 HC1.out hs1).mono ?_
  rintro e w2 ⟨v, m, rfl, hin, hf, hd2⟩
  have HIN := hide hin
  have HF := hide hf
  obtain ⟨o2, c2, oR2, cR2, hve⟩ := hin.opn
  obtain ⟨key, hkey⟩ : ∃ x, m.key = x := ⟨_, rfl⟩
  obtain ⟨nb, hnb⟩ : ∃ x, m.l.length = x := ⟨_, rfl⟩
  obtain ⟨n, hn⟩ : ∃ x, m.ring.length = x := ⟨_, rfl⟩
  rw [hkey, hnb, hn] at hve
  subst hve
  have HR2 := hide (grown_box hd2.gr (show w.heap.size < w1.heap.size by omega) (by omega) HR1.out)
  have HK2 := hide (grown_box hd2.gr (show w.heap.size + 1 < w1.heap.size by omega) (by omega) HK1.out)
  have HB2 := hide (show Below w.heap.size w w2 from ⟨hd2.gr.os.trans HB1.out.os, hd2.gr.tape.trans HB1.out.tape, hd2.gr.output.trans HB1.out.output, Nat.le_trans HB1.out.size hd2.gr.size, fun q hq => (hd2.gr.block q (Nat.lt_of_lt_of_le hq HB1.out.size) (by simp; omega)).trans (HB1.out.block q hq)⟩)
  have HC2 := hide hd2.cur
  have hs21 : w1.heap.size ≤ w2.heap.size := hd2.gr.size
  clear hin hf hd2 HR1 HK1 HB1 HC1 hkey hnb hn
  go_wp2_with fail
  refine (l4bentCmd_any K w2 HC2.out (by omega)).mono ?_
  rintro e w3 ⟨a, i, g, rfl, hd3⟩
  have hr3 := grown_box hd3.gr (show w.heap.size < w2.heap.size by omega) (by omega) HR2.out
  have hk3 := grown_box hd3.gr (show w.heap.size + 1 < w2.heap.size by omega) (by omega) HK2.out
  have hs32 : w2.heap.size ≤ w3.heap.size := hd3.gr.size
  have HB3 := hide (show Below w.heap.size w w3 from ⟨hd3.gr.os.trans HB2.out.os, hd3.gr.tape.trans HB2.out.tape, hd3.gr.output.trans HB2.out.output, Nat.le_trans HB2.out.size hd3.gr.size, fun q hq => (hd3.gr.block q (Nat.lt_of_lt_of_le hq HB2.out.size) (by simp; omega)).trans (HB2.out.block q hq)⟩)
  have HI3 := hide ((((HIN.out.step (stp_grown1 hd3.gr) (.inl (by omega))).mono (Nat.le_refl _) hs32).step (stp_setQ w3 w.heap.size (.int .i64 key) (.slice o2 nb c2) (.slice oR2 n cR2)) (.inl (by omega))).step (stp_setQ (setP w3 w.heap.size (.int .i64 key) (.slice o2 nb c2) (.slice oR2 n cR2)) (w.heap.size + 1) (.int .i64 a) (.int .i64 i) (.int .i64 g)) (.inl (by omega)))
  have r0 : w3.cell? ⟨w.heap.size, 0, none⟩ = some (.int .i64 0) := bx_cell hr3 0 _ rfl
  have fr0 : w3.frozen? ⟨w.heap.size, 0, none⟩ = false := bx_frozen hr3 0
  have r1 : w3.cell? ⟨w.heap.size, 1, none⟩ = some (.slice none 0 0) := bx_cell hr3 1 _ rfl
  have fr1 : w3.frozen? ⟨w.heap.size, 1, none⟩ = false := bx_frozen hr3 1
  have r2 : w3.cell? ⟨w.heap.size, 2, none⟩ = some (.slice none 0 0) := bx_cell hr3 2 _ rfl
  have fr2 : w3.frozen? ⟨w.heap.size, 2, none⟩ = false := bx_frozen hr3 2
  have q0 : w3.cell? ⟨w.heap.size + 1, 0, none⟩ = some (.int .i64 0) := bx_cell hk3 0 _ rfl
  have fq0 : w3.frozen? ⟨w.heap.size + 1, 0, none⟩ = false := bx_frozen hk3 0
  have q1 : w3.cell? ⟨w.heap.size + 1, 1, none⟩ = some (.int .i64 0) := bx_cell hk3 1 _ rfl
  have fq1 : w3.frozen? ⟨w.heap.size + 1, 1, none⟩ = false := bx_frozen hk3 1
  have q2 : w3.cell? ⟨w.heap.size + 1, 2, none⟩ = some (.int .i64 0) := bx_cell hk3 2 _ rfl
  have fq2 : w3.frozen? ⟨w.heap.size + 1, 2, none⟩ = false := bx_frozen hk3 2
  clear hd3 hr3 hk3 HR2 HK2 HB2 HC2 HIN
  go_wp2
  refine bodyPost_ret (v := .tuple #[plv key (.slice o2 nb c2) (.slice oR2 n cR2), cmd a i g]) (by simp [results, Try.results12, go_sem, r0, r1, r2, q0, q1, q2]) rfl ⟨_, m, a, i, g, rfl, ?_, HF.out, setP_below (setP_below HB3.out (Nat.le_refl _) _ _ _) (Nat.le_succ _) _ _ _⟩
  exact HI3.out.mono (by omega) (by rw [setQ_size, setQ_size]; exact Nat.le_refl _)

end Go.Proofs.Ytldjaapbkihibaa

/- Candidates: each once, all of the pairs, no more than six. -/
namespace Go.Proofs.Ytldjaapbkihibaa
open Go.ChangeShapes Go.WideShapes Go.ChangeAt Go.RowKit Go.Joins
set_option linter.unusedVariables false
set_option linter.unusedSimpArgs false


theorem addTo_mem (out : List Int) (x y : Int) : y ∈ addTo out x ↔ y ∈ out ∨ y = x := by
  unfold addTo
  by_cases h : out.contains x = true
  · rw [if_pos h]
    have hx : x ∈ out := by simpa using h
    exact ⟨fun h => .inl h, fun h => h.elim id (fun e => by rw [e]; exact hx)⟩
  · rw [if_neg h]; simp
theorem addAll_mem (l : List Int) : ∀ (out : List Int) (y : Int), y ∈ addAll out l ↔ y ∈ out ∨ y ∈ l := by
  induction l with
  | nil => intro out y; simp [addAll]
  | cons a l ih =>
    intro out y
    show y ∈ addAll (addTo out a) l ↔ _
    rw [ih, addTo_mem]
    simp [or_assoc]
theorem candFold_mem (b : Nat) (R : List (List (List Int))) : ∀ (out : List Int) (y : Int), y ∈ R.foldl (fun out t => addAll out (t.getD b [])) out ↔ y ∈ out ∨ ∃ t ∈ R, y ∈ t.getD b [] := by
  induction R with
  | nil => intro out y; simp
  | cons a R ih =>
    intro out y
    rw [List.foldl_cons, ih, addAll_mem]
    constructor
    · rintro ((h | h) | ⟨t, h1, h2⟩)
      · exact .inl h
      · exact .inr ⟨a, by simp, h⟩
      · exact .inr ⟨t, by simp [h1], h2⟩
    · rintro (h | ⟨t, h1, h2⟩)
      · exact .inl (.inl h)
      · rcases List.mem_cons.1 h1 with e | h1
        · subst e; exact .inl (.inr h2)
        · exact .inr ⟨t, h1, h2⟩
theorem addTo_nodup {out : List Int} (x : Int) (h : out.Nodup) : (addTo out x).Nodup := by
  unfold addTo
  by_cases hc : out.contains x = true
  · rw [if_pos hc]; exact h
  · rw [if_neg hc]
    have hx : x ∉ out := by simpa using hc
    rw [List.nodup_append]
    exact ⟨h, by simp, fun a ha b hb e => by simp at hb; subst hb; subst e; exact hx ha⟩
theorem addAll_nodup (l : List Int) : ∀ {out : List Int}, out.Nodup → (addAll out l).Nodup := by
  induction l with
  | nil => intro out h; exact h
  | cons a l ih => intro out h; exact ih (addTo_nodup a h)
theorem candFold_nodup (b : Nat) (R : List (List (List Int))) : ∀ {out : List Int}, out.Nodup → (R.foldl (fun out t => addAll out (t.getD b [])) out).Nodup := by
  induction R with
  | nil => intro out h; exact h
  | cons a R ih => intro out h; exact ih (addAll_nodup _ h)
theorem six_most : ∀ (n : Nat) (l : List Int), l.Nodup → (∀ x ∈ l, 0 ≤ x ∧ x < (n : Int)) → l.length ≤ n
  | 0, l, _, h => by
    cases l with
    | nil => simp
    | cons a l => have := h a (by simp); omega
  | n + 1, l, hd, h => by
    by_cases hn : ((n : Int)) ∈ l
    · have h1 := six_most n (l.erase (n : Int)) (hd.erase _) (fun x hx => by
        have hx' := (List.Nodup.mem_erase_iff hd).1 hx
        have := h x hx'.2
        have hne := hx'.1
        omega)
      rw [List.length_erase_of_mem hn] at h1
      omega
    · have h1 := six_most n l hd (fun x hx => by
        have := h x hx
        have hne : x ≠ (n : Int) := fun e => hn (e ▸ hx)
        omega)
      omega
theorem pair_ids {l : List Int} (h : pairOkB l = true) : ∀ x ∈ l, 0 ≤ x ∧ x < 6 := by
  intro x hx
  obtain ⟨j, hj, rfl⟩ := List.getElem_of_mem hx
  cases hid : idB (l[j]) with
  | true => unfold idB at hid; simp at hid; omega
  | false =>
    have hb := pairOk_bad (l := l) hj (by rw [List.getD_eq_getElem?_getD, List.getElem?_eq_getElem hj]; exact hid)
    rw [hb] at h
    cases h
/-- What FnCandidates looks at. -/
theorem cand_facts {m : Pm} {q : Int} (h : poolB m = true) (h0 : 0 ≤ q) (h8 : q < 8) : (∀ i k, i < (candM m q).length → k < i → (candM m q).getD i 0 ≠ (candM m q).getD k 0) ∧ (∀ i k, i < m.ring.length → k < ((m.ring.getD i []).getD q.toNat []).length → (candM m q).contains (((m.ring.getD i []).getD q.toNat []).getD k 0) = true) ∧ (candM m q).length ≤ 6 := by
  have e : candM m q = candL m.ring q.toNat := by unfold candM; rw [if_pos (by simp [h, h0, h8])]
  have hf := pool_facts h
  have hnd : (candL m.ring q.toNat).Nodup := candFold_nodup _ _ (List.nodup_nil)
  rw [e]
  refine ⟨fun i k hi hk he => ?_, fun i k hi hk => ?_, ?_⟩
  · have hp := (List.pairwise_iff_getElem.1 hnd) k i (by omega) hi hk
    simp [hi, (show k < (candL m.ring q.toNat).length by omega)] at he
    exact hp he.symm
  · have hm : (((m.ring.getD i []).getD q.toNat []).getD k 0) ∈ candL m.ring q.toNat := by
      refine (candFold_mem q.toNat m.ring [] _).2 (.inr ⟨m.ring.getD i [], ?_, ?_⟩)
      · rw [List.getD_eq_getElem?_getD, List.getElem?_eq_getElem hi]; exact List.getElem_mem hi
      · rw [List.getD_eq_getElem?_getD (l := (m.ring.getD i []).getD q.toNat []), List.getElem?_eq_getElem hk]; exact List.getElem_mem hk
    simpa using hm
  · refine six_most 6 _ hnd (fun x hx => ?_)
    rcases (candFold_mem q.toNat m.ring [] x).1 hx with hx | ⟨t, ht, hx⟩
    · cases hx
    · obtain ⟨i, hi, rfl⟩ := List.getElem_of_mem ht
      have h5 := hf.2.2.2.2 i hi
      have e2 : m.ring.getD i [] = m.ring[i] := by simp [hi]
      rw [e2] at h5
      have := pair_ids ((pair_row h5).2 q.toNat (by omega)) x hx
      exact this

end Go.Proofs.Ytldjaapbkihibaa

/- What a command that is done leaves, as FnPools looks at it. -/
namespace Go.Proofs.Ytldjaapbkihibaa
open Go.ChangeShapes Go.WideShapes Go.ChangeAt Go.RowKit Go.Joins
set_option linter.unusedVariables false
set_option linter.unusedSimpArgs false


theorem pw_uniq : ∀ {m : List Bk}, m.Pairwise (fun a b => a.1 < b.1) → ∀ x ∈ m, ∀ y ∈ m, x.1 = y.1 → x = y
  | [], _, x, hx, _, _, _ => by cases hx
  | a :: m, h, x, hx, y, hy, e => by
    rw [List.pairwise_cons] at h
    rcases List.mem_cons.1 hx with e1 | hx
    · rcases List.mem_cons.1 hy with e2 | hy
      · rw [e1, e2]
      · have := h.1 y hy; rw [e1] at e; omega
    · rcases List.mem_cons.1 hy with e2 | hy
      · have := h.1 x hx; rw [e2] at e; omega
      · exact pw_uniq h.2 x hx y hy e
theorem do_one {m : List Bk} {a i g : Int} {y : Bk} (hp : m.Pairwise (fun a b => a.1 < b.1)) (hy : y ∈ m) (h1 : y.1 = i) (h2 : a ≤ 1 → y.2.1 = g) (h3 : a = 2 → y.2.2 = true) (h4 : a ≠ 3) : (∀ b ∈ m, b.1 = i → (a ≤ 1 → b.2.1 = g) ∧ (a = 2 → b.2.2 = true)) ∧ (m.any (fun b => b.1 == i)) = decide (a ≠ 3) := by
  refine ⟨fun b hb e => ?_, ?_⟩
  · have : b = y := pw_uniq hp b hb y hy (by rw [e, h1])
    rw [this]; exact ⟨h2, h3⟩
  · rw [decide_eq_true h4, List.any_eq_true]
    exact ⟨y, hy, by simp [h1]⟩
theorem do_said {l m : List Bk} {a i g : Int} (hl : backsOkB l = true) (hc : cmdOkB a i g = true) (h : doL l a i g = some m) : (∀ b ∈ m, b.1 = i → (a ≤ 1 → b.2.1 = g) ∧ (a = 2 → b.2.2 = true)) ∧ (m.any (fun b => b.1 == i)) = decide (a ≠ 3) := by
  have hm := (backsOk_pw.1 (doL_ok hl hc h)).1
  have hlp := (backsOk_pw.1 hl).1
  have hcc := cmdOkB_iff.1 hc
  rcases doL_some h with ⟨ht, rfl, rfl⟩ | ⟨ht, rfl, rfl⟩ | ⟨ht, rfl, rfl⟩ | ⟨ht, h0, h1, h2, rfl⟩
  · exact do_one hm (y := (i, g, false)) (by simp) rfl (fun _ => rfl) (fun h => by omega) (by omega)
  · exact do_one hm (y := (i, g, (l.getD (placeN l i) (0, 0, false)).2.2)) (List.mem_set (there_lt0 ht) _) rfl (fun _ => rfl) (fun h => by omega) (by omega)
  · exact do_one hm (y := (i, (l.getD (placeN l i) (0, 0, false)).2.1, true)) (List.mem_set (there_lt0 ht) _) rfl (fun h => by omega) (fun _ => rfl) (by omega)
  · have hlt := there_lt0 ht
    have hii := there_is0 ht
    have ha : a = 3 := by unfold CmdOk at hcc; omega
    have hno : ∀ b ∈ l.take (placeN l i) ++ l.drop (placeN l i + 1), b.1 ≠ i := by
      intro b hb
      rcases List.mem_append.1 hb with hb | hb
      · have := take_below l i b hb; omega
      · have e : l.take (placeN l i + 1) ++ l.drop (placeN l i + 1) = l := List.take_append_drop _ _
        rw [← e, List.pairwise_append] at hlp
        have h1 : l.getD (placeN l i) (0, 0, false) ∈ l.take (placeN l i + 1) := by
          rw [take_snoc hlt]; simp
        have := hlp.2.2 _ h1 b hb
        omega
    refine ⟨fun b hb e => absurd e (hno b hb), ?_⟩
    rw [ha]
    rw [Bool.eq_iff_iff]
    simp only [List.any_eq_true, decide_eq_true_eq]
    constructor
    · rintro ⟨b, hb, e⟩; exact absurd (by simpa using e) (hno b hb)
    · intro h; exact absurd rfl h
theorem take_any (m : List Bk) (i : Int) (j : Nat) (h : j < m.length) : (m.take (j + 1)).any (fun b => b.1 == i) = ((m.take j).any (fun b => b.1 == i) || ((m.getD j (0, 0, false)).1 == i)) := by
  rw [take_snoc h, List.any_append]
  simp
/-- A command that is done leaves a pool that may be. -/
theorem pdo_yes {m : Pm} {a i g : Int} (h : pdoF m a i g = true) : ∃ l, poolB m = true ∧ cmdOkB a i g = true ∧ doL m.l a i g = some l ∧ pdoM m a i g = ⟨m.key, l, (newT m.key l :: m.ring).take 3⟩ ∧ poolB (pdoM m a i g) = true := by
  unfold pdoF at h
  rw [Bool.and_eq_true, Bool.and_eq_true] at h
  obtain ⟨⟨h1, h2⟩, h3⟩ := h
  obtain ⟨l, hl⟩ := Option.isSome_iff_exists.1 h3
  have e : pdoM m a i g = ⟨m.key, l, (newT m.key l :: m.ring).take 3⟩ := by
    unfold pdoM
    rw [if_pos (by rw [h1, h2]; rfl), hl]
  obtain ⟨f1, f2, f3, f4, f5⟩ := pool_facts h1
  have hlo := doL_ok f2 h2 hl
  refine ⟨l, h1, h2, hl, e, ?_⟩
  rw [e]
  refine pool_rest f1 hlo (by dsimp only; rw [List.length_take, List.length_cons]; omega) (by dsimp only; rw [List.length_take]; omega) (fun j hj => ?_) ?_
  · dsimp only at hj ⊢
    rw [List.length_take, List.length_cons] at hj
    rw [take_getD _ _ _ _ (by omega)]
    cases j with
    | zero => exact tabOk_new m.key hlo
    | succ j => rw [List.getD_cons_succ]; exact f5 j (by omega)
  · dsimp only
    rw [take_getD _ _ _ _ (by omega)]
    show movedI (newT m.key l) (newT m.key l) = 0
    unfold movedI
    rw [if_pos ⟨newT_len _ _, newT_len _ _⟩]
    exact moved_none 8 (fun _ _ => rfl)
theorem pdo_no {m : Pm} {a i g : Int} (h : pdoF m a i g = false) : (pdoM m a i g).ring.length = 0 ∨ (pdoM m a i g = m ∧ 1 ≤ m.ring.length ∧ ∀ j, j < m.ring.length → (m.ring.getD j []).length = 8) := by
  by_cases h1 : (poolB m && cmdOkB a i g) = true
  · right
    have hn : doL m.l a i g = none := by
      unfold pdoF at h
      rw [h1] at h
      cases hd : doL m.l a i g with
      | none => rfl
      | some l => rw [hd] at h; cases h
    have hp : poolB m = true := by rw [Bool.and_eq_true] at h1; exact h1.1
    obtain ⟨f1, f2, f3, f4, f5⟩ := pool_facts hp
    refine ⟨by unfold pdoM; rw [if_pos h1, hn], f3, fun j hj => (tab_pair (f5 j hj)).1⟩
  · left
    unfold pdoM; rw [if_neg h1]; rfl

end Go.Proofs.Ytldjaapbkihibaa

/- The laws' samePool: two that read as one pool are one. -/
namespace Go.Proofs.Ytldjaapbkihibaa
open Go.ChangeShapes Go.WideShapes Go.ChangeAt Go.RowKit Go.Joins
set_option linter.unusedVariables false
set_option linter.unusedSimpArgs false


theorem movedI_self {ll : List (List Int)} (h : ll.length = 8) : movedI ll ll = 0 := by
  unfold movedI
  rw [if_pos ⟨h, h⟩]
  exact moved_none 8 (fun i _ => rfl)
theorem RiK.cell {C : Nat} {w : World} {o : Option Addr} {n c : Nat} {l : List Bk} (h : RiV layK 0 C w (.slice o n c) l) (j : Nat) (hj : j < l.length) : ∃ g off, o = some ⟨g, off, none⟩ ∧ g < C ∧ w.cell? ⟨g, off + j * 3, none⟩ = some (.int .i64 (l.getD j (0, 0, false)).1) ∧ w.cell? ⟨g, off + j * 3 + 1, none⟩ = some (.int .i64 (l.getD j (0, 0, false)).2.1) ∧ w.cell? ⟨g, off + j * 3 + 2, none⟩ = some (.bool (l.getD j (0, 0, false)).2.2) := by
  obtain ⟨o1, c1, e, r⟩ := RiV.open h
  injection e with e1 _ _
  subst e1
  rcases r with r | ⟨b, off, ho, hb, r⟩
  · subst r; exact absurd hj (Nat.not_lt_zero _)
  · exact ⟨b, off, ho, hb, r j hj 0 (by decide), r j hj 1 (by decide), r j hj 2 (by decide)⟩

set_option maxRecDepth 100000 in
set_option maxHeartbeats 8000000 in
theorem samePool_sh (v1 v2 : Value) (m : Pm) (w : World) (h1 : RdPm w.heap.size w v1 m) (h2 : RdPm w.heap.size w v2 m) (hf : fitPm m) (h8 : ∀ i, i < m.ring.length → (m.ring.getD i []).length = 8) :
    Calls Try.prog 14 #[v1, v2] w fun e w' => e = .returned (.bool true) ∧ Below w.heap.size w w' := by
  obtain ⟨vb1, vr1, rfl, hb1, r1⟩ := h1
  obtain ⟨vb2, vr2, rfl, hb2, r2⟩ := h2
  obtain ⟨o1, c1, rfl, _⟩ := hb1.open
  obtain ⟨o2, c2, rfl, _⟩ := hb2.open
  obtain ⟨oR1, cR1, rfl⟩ := RiR.len r1
  obtain ⟨oR2, cR2, rfl⟩ := RiR.len r2
  obtain ⟨hf1, hf2, hf3, hf4, hf5⟩ := hf
  have HB1 := hide hb1
  have HB2 := hide hb2
  have HR1 := hide r1
  have HR2 := hide r2
  have H8 := hide h8
  have HF4 := hide hf4
  have HF5 := hide hf5
  obtain ⟨key, hkey⟩ : ∃ x, m.key = x := ⟨_, rfl⟩
  obtain ⟨nb, hnb⟩ : ∃ x, m.l.length = x := ⟨_, rfl⟩
  obtain ⟨n, hn⟩ : ∃ x, m.ring.length = x := ⟨_, rfl⟩
  have HNB := hide hnb
  have HN := hide hn
  rw [hkey, hnb, hn]
  rw [hnb] at HB1 HB2 hf1
  rw [hn] at HR1 HR2 H8 HF4 HF5 hf2
  clear hkey hnb hn hb1 hb2 r1 r2 h8 hf3 hf4 hf5
  obtain ⟨W0, hW0⟩ : ∃ W, ((w.alloc (.cells #[.int .i64 key, .slice o1 nb c1, .slice oR1 n cR1] 26)).alloc (.cells #[.int .i64 key, .slice o2 nb c2, .slice oR2 n cR2] 26)) = W := ⟨_, rfl⟩
  have hb_W0 : Below w.heap.size w W0 := by rw [← hW0]; exact (((Below.refl _ _).alloc (Nat.le_refl _) _).alloc (by simp <;> omega) _)
  have HB := hide hb_W0
  clear hb_W0
  have zz : w.heap.size < W0.heap.size := by rw [← hW0]; simp <;> omega
  have z0 : W0.cell? ⟨w.heap.size, 0, none⟩ = some (.int .i64 key) := by rw [← hW0]; simp [go_sem]
  have z1 : W0.cell? ⟨w.heap.size, 1, none⟩ = some (.slice o1 nb c1) := by rw [← hW0]; simp [go_sem]
  have z2 : W0.cell? ⟨w.heap.size, 2, none⟩ = some (.slice oR1 n cR1) := by rw [← hW0]; simp [go_sem]
  have zu : w.heap.size + 1 < W0.heap.size := by rw [← hW0]; simp
  have u0 : W0.cell? ⟨w.heap.size + 1, 0, none⟩ = some (.int .i64 key) := by rw [← hW0]; simp [go_sem]
  have u1 : W0.cell? ⟨w.heap.size + 1, 1, none⟩ = some (.slice o2 nb c2) := by rw [← hW0]; simp [go_sem]
  have u2 : W0.cell? ⟨w.heap.size + 1, 2, none⟩ = some (.slice oR2 n cR2) := by rw [← hW0]; simp [go_sem]
  go_enter Try.func14, Try.ntmps14
  go_wp2
  go_loopw [4, 5] (fun rv iv wr => ∃ i : Nat, i ≤ nb ∧ iv = .int .i64 (i : Int) ∧ rv = .bool false ∧ Hid (Below W0.heap.size W0 wr))
    (fun _ iv _ => nb - (intOf iv).toNat)
  case atStart => exact ⟨0, Nat.zero_le _, rfl, rfl, Below.refl _ _⟩
  case round =>
    rename World => wr
    obtain ⟨i, hi', rfl, rfl, HBr⟩ := hrel
    have z1' := bC HBr.out z1 zz
    have z2' := bC HBr.out z2 zz
    have u1' := bC HBr.out u1 zu
    have u2' := bC HBr.out u2 zu
    have zz' := Nat.lt_of_lt_of_le zz HBr.out.size
    have zu' := Nat.lt_of_lt_of_le zu HBr.out.size
    have HBw := hide (HB.out.trans (HBr.out.mono HB.out.size))
    by_cases hlt : i < nb
    · have hlt' : (i : Int) < (nb : Int) := by omega
      obtain ⟨g1, f1, rfl, hg1, a0, a1, a2⟩ := RiK.cell HB1.out i (by rw [HNB.out]; exact hlt)
      obtain ⟨g2, f2, rfl, hg2, b0, b1, b2⟩ := RiK.cell HB2.out i (by rw [HNB.out]; exact hlt)
      have G0 := Grown.cell z1' zz'
      have G1 := Grown.cell u1' zu'
      have Ga0 := Grown.cell (bC HBw.out a0 hg1) (Nat.lt_of_lt_of_le hg1 HBw.out.size)
      have Ga1 := Grown.cell (bC HBw.out a1 hg1) (Nat.lt_of_lt_of_le hg1 HBw.out.size)
      have Ga2 := Grown.cell (bC HBw.out a2 hg1) (Nat.lt_of_lt_of_le hg1 HBw.out.size)
      have Gb0 := Grown.cell (bC HBw.out b0 hg2) (Nat.lt_of_lt_of_le hg2 HBw.out.size)
      have Gb1 := Grown.cell (bC HBw.out b1 hg2) (Nat.lt_of_lt_of_le hg2 HBw.out.size)
      have Gb2 := Grown.cell (bC HBw.out b2 hg2) (Nat.lt_of_lt_of_le hg2 HBw.out.size)
      clear a0 a1 a2 b0 b1 b2
      generalize m.l.getD i (0, 0, false) = d at *
      obtain ⟨d0, d1, d2⟩ := d
      dsimp only at Ga0 Ga1 Ga2 Gb0 Gb1 Gb2
      go_wp2
      (refine wp_region_grown (by kernel_rfl) (by kernel_rfl) ?_; intro hne9; (repeat (go_big_quiet_step (fail))); (with_reducible refine wpQuiet_nil ?_); intro _ hw9; obtain ⟨pq, hw8⟩ := hw9; subst hw8)
      have HB9 := hide (HBr.out.trans (pq.b.mono HBr.out.size))
      go_wp2
      go_roundw
      case rel => exact ⟨i + 1, by omega, by go_num, rfl, HB9.out⟩
      case measure => simp [intOf]; omega
    · have e : i = nb := by omega
      subst e
      go_wp2
      go_loopw [4, 6] (fun rv iv wq => ∃ k : Nat, k ≤ n ∧ iv = .int .i64 (k : Int) ∧ rv = .bool false ∧ Hid (Below W0.heap.size W0 wq))
        (fun _ iv _ => n - (intOf iv).toNat)
      case atStart => exact ⟨0, Nat.zero_le _, rfl, rfl, HBr.out⟩
      case round =>
      rename World => wq
      obtain ⟨k, hk', rfl, rfl, HBq⟩ := hrel
      clear z1' z2' u1' u2' zz' zu'
      have z2' := bC HBq.out z2 zz
      have u2' := bC HBq.out u2 zu
      have zz' := Nat.lt_of_lt_of_le zz HBq.out.size
      have zu' := Nat.lt_of_lt_of_le zu HBq.out.size
      have HBv := hide (HB.out.trans (HBq.out.mono HB.out.size))
      by_cases hlt : k < n
      · have hlt' : (k : Int) < (n : Int) := by omega
        obtain ⟨b1, f1, w1, rfl, hb1, a1, t1⟩ := RiRows.at HR1.out (Nat.le_refl _) k (by rw [HN.out]; exact hlt)
        obtain ⟨b2, f2, w2, rfl, hb2, a2, t2⟩ := RiRows.at HR2.out (Nat.le_refl _) k (by rw [HN.out]; exact hlt)
        have h8 := H8.out k hlt
        have hf4 := HF4.out k hlt
        have hf5 := HF5.out k hlt
        obtain ⟨ll, hll⟩ : ∃ x, m.ring.getD k [] = x := ⟨_, rfl⟩
        rw [hll] at t1 t2 h8 hf4 hf5
        obtain ⟨o3, c3, rfl, rd1⟩ := RiT.rd t1
        obtain ⟨o4, c4, rfl, rd2⟩ := RiT.rd t2
        have HMv := hide (fun p : Grown wq => specMoved_any o3 o4 c3 c4 ll ll p.v ((rd1.kept (HBv.out.trans (p.b.mono HBv.out.size)) (Nat.le_refl _)).le (HBv.out.trans (p.b.mono HBv.out.size)).size) ((rd2.kept (HBv.out.trans (p.b.mono HBv.out.size)) (Nat.le_refl _)).le (HBv.out.trans (p.b.mono HBv.out.size)).size) hf4 hf4 hf5 hf5)
        rw [movedI_self h8] at HMv
        rw [h8] at HMv a1 a2
        have G0 := Grown.cell z2' zz'
        have G1 := Grown.cell u2' zu'
        have G2 := Grown.cell (bC HBv.out a1 hb1) (Nat.lt_of_lt_of_le hb1 HBv.out.size)
        have G3 := Grown.cell (bC HBv.out a2 hb2) (Nat.lt_of_lt_of_le hb2 HBv.out.size)
        clear a1 a2 t1 t2 rd1 rd2 hll h8 hf4 hf5
        go_wp2
        (refine wp_region_grown (by kernel_rfl) (by kernel_rfl) ?_; intro hne9; (repeat (go_big_quiet_step ((go_at_call 60; exact grown_of _ (HMv.out _))))); (with_reducible refine wpQuiet_nil ?_); intro _ hw9; obtain ⟨pq, hw8⟩ := hw9; subst hw8)
        have HB9 := hide (HBq.out.trans (pq.b.mono HBq.out.size))
        go_wp2
        go_roundw
        case rel => exact ⟨k + 1, by omega, by go_num, rfl, HB9.out⟩
        case measure => simp [intOf]; omega
      · have e : k = n := by omega
        subst e
        go_wp2
        go_ret
        exact ⟨rfl, HBv.out⟩

end Go.Proofs.Ytldjaapbkihibaa

/- Contracts of the laws' own helpers over bytes: szByteS, toByteS, eqByteS. -/
namespace Go.Proofs.Ytldjaapbkihibaa
open Go.ChangeShapes Go.WideShapes Go.ChangeAt Go.RowKit Go.Joins
set_option linter.unusedVariables false
set_option linter.unusedSimpArgs false

def fillTo (l : List Int) (k : Nat) : List Int := l.take k ++ List.replicate (l.length - k) 0
theorem fillTo_length (l : List Int) (k : Nat) (h : k ≤ l.length) : (fillTo l k).length = l.length := by simp [fillTo]; omega
theorem fillTo_zero (l : List Int) : fillTo l 0 = List.replicate l.length 0 := by simp [fillTo]
theorem fillTo_all (l : List Int) : fillTo l l.length = l := by simp [fillTo]
theorem fillTo_set (l : List Int) (k : Nat) (h : k < l.length) : ((fillTo l k).map (Value.int .u8)).set k (.int .u8 (l.getD k 0)) = (fillTo l (k + 1)).map (Value.int .u8) := by
  rw [← List.map_set]
  congr 1
  have e1 : l.length - k = (l.length - (k + 1)) + 1 := by omega
  have e2 : (l.take k).length = k := by simp; omega
  unfold fillTo
  rw [e1, List.replicate_succ, List.set_append_right _ _ (by omega), e2, Nat.sub_self, List.set_cons_zero, List.take_succ_eq_append_getElem h]
  have e3 : l.getD k 0 = l[k] := by simp [h]
  rw [e3, List.append_assoc]
  rfl

/-- The row that is filled, at its (k+1)st store. -/
theorem fill_step {w wr : World} {g : Nat} {l : List Int} {k : Nat} (hk : k < l.length) (hg : w.heap.size ≤ g) (hown : wr.ownsRow w.heap.size 5 1 (.slice (some ⟨g, 0, none⟩) l.length l.length) l.length ((fillTo l k).map (Value.int .u8)))
    (hB : Below w.heap.size w wr) : (wr.setCell ⟨g, k, none⟩ (.int .u8 (l.getD k 0))).ownsRow w.heap.size 5 1 (.slice (some ⟨g, 0, none⟩) l.length l.length) l.length ((fillTo l (k + 1)).map (Value.int .u8)) ∧
      Below w.heap.size w (wr.setCell ⟨g, k, none⟩ (.int .u8 (l.getD k 0))) := by
  have h := (hown.stored k (.int .u8 (l.getD k 0))).1
  rw [fillTo_set l k hk] at h
  exact ⟨h, hB.setCell hg _⟩

end Go.Proofs.Ytldjaapbkihibaa

/- The laws' marks: a row is filled with numbers that go up, and held against them. -/
namespace Go.Proofs.Ytldjaapbkihibaa
open Go.ChangeShapes Go.WideShapes Go.ChangeAt Go.RowKit Go.Joins
set_option linter.unusedVariables false
set_option linter.unusedSimpArgs false

def markL (k : Int) (n : Nat) : List Int := (List.range n).map (fun (i : Nat) => (k + (i : Int)) % 256)
theorem markL_length (k : Int) (n : Nat) : (markL k n).length = n := by simp [markL]
theorem markL_get (k : Int) (n i : Nat) (h : i < n) : (markL k n).getD i 0 = (k + (i : Int)) % 256 := by simp [markL, h]
def markTo (l : List Int) (k : Int) (i : Nat) : List Int := markL k i ++ l.drop i
theorem markTo_zero (l : List Int) (k : Int) : markTo l k 0 = l := by simp [markTo, markL]
theorem markTo_all (l : List Int) (k : Int) : markTo l k l.length = markL k l.length := by simp [markTo]
theorem markTo_length (l : List Int) (k : Int) (i : Nat) (h : i ≤ l.length) : (markTo l k i).length = l.length := by simp [markTo, markL]; omega
theorem markTo_set (l : List Int) (k : Int) (i : Nat) (h : i < l.length) : ((markTo l k i).map (Value.int .u8)).set i (.int .u8 ((k + (i : Int)) % 256)) = (markTo l k (i + 1)).map (Value.int .u8) := by
  rw [← List.map_set]
  congr 1
  have e2 : (markL k i).length = i := markL_length k i
  unfold markTo
  rw [List.drop_eq_getElem_cons h, List.set_append_right _ _ (by omega), e2, Nat.sub_self, List.set_cons_zero]
  have e3 : markL k (i + 1) = markL k i ++ [(k + (i : Int)) % 256] := by simp [markL, List.range_succ]
  rw [e3, List.append_assoc]
  rfl

theorem mark_step {w wr : World} {base g cap : Nat} {l : List Int} {k : Int} {i : Nat} (hi : i < l.length) (hown : wr.ownsRow base 5 1 (.slice (some ⟨g, 0, none⟩) l.length cap) l.length ((markTo l k i).map (Value.int .u8)))
    (hg : w.grownBy wr (some g)) : (wr.setCell ⟨g, i, none⟩ (.int .u8 ((k + (i : Int)) % 256))).ownsRow base 5 1 (.slice (some ⟨g, 0, none⟩) l.length cap) l.length ((markTo l k (i + 1)).map (Value.int .u8)) ∧
      w.grownBy (wr.setCell ⟨g, i, none⟩ (.int .u8 ((k + (i : Int)) % 256))) (some g) := by
  have h := hown.stored i (.int .u8 ((k + (i : Int)) % 256))
  rw [markTo_set l k i hi] at h
  exact ⟨h.1, ⟨hg.os, hg.tape, hg.output, by have := h.2.size; have := hg.size; omega, fun j hj hne => (h.2.block j (Nat.lt_of_lt_of_le hj hg.size) hne).trans (hg.block j hj hne)⟩⟩

end Go.Proofs.Ytldjaapbkihibaa

/- Bytes by layout, and the laws' own helpers over them, in the words of Fr. -/
namespace Go.Proofs.Ytldjaapbkihibaa
open Go.ChangeShapes Go.WideShapes Go.ChangeAt Go.RowKit Go.Joins
set_option linter.unusedVariables false
set_option linter.unusedSimpArgs false

def layB : Lay Int := ⟨1, fun a => [.int .u8 a], 0, fun _ => rfl⟩
theorem flat_bytes : ∀ l : List Int, l.flatMap layB.cs = l.map (Value.int .u8)
  | [] => rfl
  | a :: l => by rw [List.flatMap_cons, flat_bytes l]; rfl
theorem ownB_lay {w : World} {base : Nat} {v : Value} {l : List Int} : ownB w base v l ↔ ownL layB 5 w base v l := by
  unfold ownB ownL; rw [flat_bytes]; exact Iff.rfl
theorem RdB_lay {C : Nat} {w : World} {o : Option Addr} {l : List Int} : RdB C w o l ↔ RdL layB C w o l := by
  constructor
  · rintro (h | ⟨b, off, ho, hb, r⟩)
    · exact .inl h
    · refine .inr ⟨b, off, ho, hb, fun i hi j hj => ?_⟩
      have hj0 : j = 0 := by have : j < 1 := hj; omega
      subst hj0
      have := r i hi
      rw [show layB.k = 1 from rfl, Nat.mul_one, Nat.add_zero]
      exact this
  · rintro (h | ⟨b, off, ho, hb, r⟩)
    · exact .inl h
    · refine .inr ⟨b, off, ho, hb, fun i hi => ?_⟩
      have := r i hi 0 (by decide)
      rw [show layB.k = 1 from rfl, Nat.mul_one, Nat.add_zero] at this
      exact this
theorem RdB_rd {w : World} {o : Option Addr} {l : List Int} : RdL layB w.heap.size w o l ↔ Rd w o l := RdB_lay.symm
abbrev InB := InL layB 5
theorem InB.of {w : World} {base : Nat} {v : Value} {l : List Int} (h : ownB w base v l) : InB base w.heap.size w v l := InRow.of (ownB_lay.1 h)

end Go.Proofs.Ytldjaapbkihibaa

/- CheckSum on both sides: a plain function on lists of bytes, and the contracts. -/
namespace Go.Proofs.Ytldjaapbkihibaa
open Go.ChangeShapes Go.WideShapes Go.ChangeAt Go.RowKit Go.Joins
set_option linter.unusedVariables false
set_option linter.unusedSimpArgs false

def pairLS (l : List Int) (i : Nat) : Int := l.getD i 0 * 256 + l.getD (i + 1) 0
def stepL (n x : Int) : Int := if 65535 < n + x then n + x - 65535 else n + x
def sumToS (l : List Int) : Nat → Int
  | 0 => 0
  | k + 1 => stepL (sumToS l k) (pairLS l (2 * k))
def checkL (l : List Int) : Int := 65535 - sumToS l ((l.length + 1) / 2)

def sumL (l : List Int) : Int := if 2000 < l.length then -1 else checkL l

theorem pairL_bd {l : List Int} (h : isB l) (i : Nat) : 0 ≤ pairLS l i ∧ pairLS l i ≤ 65535 := by
  have h1 := h.get i; have h2 := h.get (i + 1); unfold pairLS; omega
theorem sumTo_bd {l : List Int} (h : isB l) (k : Nat) : 0 ≤ sumToS l k ∧ sumToS l k ≤ 65535 := by
  induction k with
  | zero => simp [sumToS]
  | succ k ih => have := pairL_bd h (2 * k); unfold sumToS stepL; split <;> omega

set_option maxHeartbeats 1000000 in
theorem pairAt_any (o : Option Addr) (cap : Nat) (l : List Int) (i : Nat) (w : World) (hR : Rd w o l) (hB8 : isB l) (hlen : l.length ≤ 1048576) (hi : i < l.length) :
    Calls Try.prog 76 #[.slice o l.length cap, .int .i64 i] w fun e w' => e = .returned (.int .i64 (pairLS l i)) ∧ w = w' := by
  rcases hR with hR | ⟨b, off, rfl, hbl, hcell⟩
  · subst hR; simp at hi
  have hc0 := hcell i hi
  have b0 := hB8.get i
  by_cases h1 : i + 1 < l.length
  · have hc1 := hcell (i + 1) h1
    have b1 := hB8.get (i + 1)
    have e1 : off + (i + 1) = off + i + 1 := by omega
    rw [e1] at hc1
    have HP := hide (show l.getD i 0 * 256 + l.getD (i + 1) 0 = pairLS l i from rfl)
    clear hcell
    generalize l.getD i 0 = x at *
    generalize l.getD (i + 1) 0 = y at *
    have HO := hide (or_bytes x y b0 b1)
    go_enter Try.func76, Try.ntmps76
    go_wp2
    go_ret
    exact ⟨ret_int (HO.out.trans HP.out), rfl⟩
  · have HP : Hid (l.getD i 0 * 256 = pairLS l i) := by
      have : l.getD (i + 1) 0 = 0 := by simp [List.getElem?_eq_none (Nat.le_of_not_lt h1)]
      unfold Hid pairLS; rw [this]; omega
    clear hcell
    generalize l.getD i 0 = x at *
    go_enter Try.func76, Try.ntmps76
    go_wp2
    go_ret
    exact ⟨ret_int HP.out, rfl⟩

theorem sumTo_yes (l : List Int) (j k : Nat) (hj : j = 2 * k) (h : 65535 < sumToS l k + pairLS l j) : sumToS l (k + 1) = sumToS l k + pairLS l j - 65535 := by subst hj; simp [sumToS, stepL, h]
theorem sumTo_no (l : List Int) (j k : Nat) (hj : j = 2 * k) (h : ¬ 65535 < sumToS l k + pairLS l j) : sumToS l (k + 1) = sumToS l k + pairLS l j := by subst hj; simp [sumToS, stepL, h]
theorem pairL_end (l : List Int) (j : Nat) (h : ¬ j + 1 < l.length) : pairLS l j = l.getD j 0 * 256 := by
  have : l.getD (j + 1) 0 = 0 := by simp [List.getElem?_eq_none (Nat.le_of_not_lt h)]
  unfold pairLS; rw [this]; omega
theorem sumTo_end (l : List Int) (j k : Nat) (hj : j = 2 * k) (h1 : j ≤ l.length + 1) (h2 : ¬ j < l.length) : 65535 - sumToS l k = checkL l := by
  have : k = (l.length + 1) / 2 := by omega
  rw [checkL, this]

end Go.Proofs.Ytldjaapbkihibaa

/- A journal's bytes, on both sides. -/
namespace Go.Proofs.Ytldjaapbkihibaa
open Go.ChangeShapes Go.WideShapes Go.ChangeAt Go.RowKit Go.Joins
set_option linter.unusedVariables false
set_option linter.unusedSimpArgs false

/-- A command's bytes; those of the first t; a journal's. -/
def cmdL (c : Cd) : List Int := [c.1, c.2.1, c.2.2]
def cmdsTo (cs : List Cd) (t : Nat) : List Int := (cs.take t).flatMap cmdL
def jHead (key safe : Int) : List Int := [key / 65536, key / 256 % 256, key % 256, safe]
def jrnL (m : Jm) : List Int := if journalB m.key m.l m.safe = true then jHead m.key m.safe ++ cmdsTo m.l m.l.length else []
theorem cmdsTo_succ {cs : List Cd} {t : Nat} {x y u : Int} (h : t < cs.length) (e : cs.getD t (0, 0, 0) = (x, y, u)) : cmdsTo cs (t + 1) = cmdsTo cs t ++ [x, y, u] := by
  unfold cmdsTo
  rw [takeL_succ layC cs t h, show cs.getD t layC.d = (x, y, u) from e, List.flatMap_append]
  rfl
theorem cmdsTo_length (cs : List Cd) (t : Nat) (h : t ≤ cs.length) : (cmdsTo cs t).length = 3 * t := by
  unfold cmdsTo
  induction t with
  | zero => rfl
  | succ t ih =>
    rw [takeL_succ layC cs t (by omega), List.flatMap_append, List.length_append, ih (by omega)]
    simp [cmdL]; omega
theorem jrnL_len (m : Jm) : (jrnL m).length ≤ 1048576 := by
  unfold jrnL
  split
  · next h =>
    have := (journal_facts h).2.1
    rw [List.length_append, cmdsTo_length _ _ (Nat.le_refl _)]
    simp [jHead]; omega
  · decide
theorem journal_run0 {key : Int} {cs : List Cd} {safe : Int} (h : journalB key cs safe = true) : (runTo cs cs.length).isSome = true := by
  unfold journalB at h
  simp only [Bool.and_eq_true] at h
  exact h.2
theorem cmd_ok {key : Int} {cs : List Cd} {safe : Int} (h : journalB key cs safe = true) {t : Nat} (ht : t < cs.length) {x y u : Int} (e : cs.getD t (0, 0, 0) = (x, y, u)) : (0 ≤ x ∧ x ≤ 3) ∧ (0 ≤ y ∧ y < 6) ∧ (0 ≤ u ∧ u ≤ 100) := by
  obtain ⟨l, hl⟩ := runTo_back (journal_run0 h) (Nat.le_of_lt ht)
  obtain ⟨m, hc, _, _⟩ := runTo_step (journal_run0 h) ht hl
  rw [e] at hc
  dsimp only at hc
  unfold cmdOkB at hc
  simp only [Bool.and_eq_true, Bool.or_eq_true, decide_eq_true_eq] at hc
  omega
theorem u8w (n : Int) (h0 : 0 ≤ n) (h1 : n < 256) : IntKind.u8.wrap n = n := by
  simp [IntKind.wrap, IntKind.bits, IntKind.signed]; omega
theorem cells_newJ (w : World) (cs : Array Value) (e : TypeId) : ∀ j u, cs.toList[j]? = some u → (w.alloc (.cells cs e)).cell? ((⟨w.heap.size, 0, none⟩ : Addr).add j) = some u := by
  intro j u hj
  have e2 : (⟨w.heap.size, 0, none⟩ : Addr).add j = ⟨w.heap.size, j, none⟩ := by by_cases h : j = 0 <;> simp [Addr.add, h]
  rw [e2]
  exact bx_cell (World.alloc_heap_new w (.cells cs e)) j u (by simpa using hj)
theorem own_litJ (w : World) (cs : Array Value) (e : TypeId) (n : Nat) (hn : cs.size = n) (hm : n ≤ 1000) : (w.alloc (.cells cs e)).ownsRow w.heap.size e 1 (.slice (some ⟨w.heap.size, 0, none⟩) n n) n cs.toList :=
  ⟨by simp [hn], .inr ⟨w.heap.size, n, cs, rfl, Nat.le_refl _, heap_alloc_new w _, Nat.le_refl _, by unfold maxLen; omega, by rw [hn, Nat.mul_one], by rw [Nat.mul_one]; exact List.take_of_length_le (by simp [hn])⟩⟩
theorem rd_byte3 (w : World) (x y z : Int) : Rd (w.alloc (.cells #[.int .u8 x, .int .u8 y, .int .u8 z] 5)).drew (some ⟨w.heap.size, 0, none⟩) [x, y, z] := by
  refine .inr ⟨w.heap.size, 0, rfl, by show w.heap.size < (w.alloc _).heap.size; simp, fun i hi => ?_⟩
  show (w.alloc _).cell? _ = _
  match i, hi with
  | 0, _ => simp
  | 1, _ => simp
  | 2, _ => simp
theorem rd_byte3A (w : World) (x y z : Int) : Rd (w.alloc (.cells #[.int .u8 x, .int .u8 y, .int .u8 z] 5)) (some ⟨w.heap.size, 0, none⟩) [x, y, z] := by
  refine .inr ⟨w.heap.size, 0, rfl, by simp, fun i hi => ?_⟩
  match i, hi with
  | 0, _ => simp
  | 1, _ => simp
  | 2, _ => simp
theorem rd_byteA (w : World) (x : Int) : Rd (w.alloc (.cells #[.int .u8 x] 5)) (some ⟨w.heap.size, 0, none⟩) [x] := by
  refine .inr ⟨w.heap.size, 0, rfl, by simp, fun i hi => ?_⟩
  have hi0 : i = 0 := by simpa using hi
  subst hi0
  simp

set_option maxRecDepth 100000 in
set_option maxHeartbeats 8000000 in
theorem l4bytes_any (key safe : Int) (o : Option Addr) (cap : Nat) (l : List Cd) (w : World) (hR : RdC w.heap.size w o l) (hok : journalB key l safe = true) :
    Calls Try.prog 77 #[jrn key (.slice o l.length cap) safe] w fun e w' => ∃ v, e = .returned v ∧ ownB w' w.heap.size v (jHead key safe ++ cmdsTo l l.length) ∧ Below w.heap.size w w' := by
  obtain ⟨hk, hl, h0, h1⟩ := journal_facts hok
  have hkk := keyB_iff.1 hk
  have hs1 : 0 ≤ key / 65536 ∧ key / 65536 ≤ 15 := by omega
  have hs2 : 0 ≤ key / 256 ∧ key / 256 ≤ 3906 := by omega
  have hsf : safe ≤ 100 := by omega
  have e1 : IntKind.u8.wrap (key / 65536) = key / 65536 := u8w _ (by omega) (by omega)
  have e2 : IntKind.u8.wrap safe = safe := u8w _ (by omega) (by omega)
  have HR := hide hR
  have HOK := hide hok
  clear hR hok
  obtain ⟨W0, hW0⟩ : ∃ W, (w.alloc (.cells #[.int .i64 key, .slice o l.length cap, .int .i64 safe] 47)) = W := ⟨_, rfl⟩
  have hb_W0 : Below w.heap.size w W0 := by rw [← hW0]; exact ((Below.refl _ _).alloc (Nat.le_refl _) _)
  have HB := hide hb_W0
  clear hb_W0
  have zz : w.heap.size < W0.heap.size := by rw [← hW0]; simp
  have z0 : W0.cell? ⟨w.heap.size, 0, none⟩ = some (.int .i64 key) := by rw [← hW0]; simp [go_sem]
  have z1 : W0.cell? ⟨w.heap.size, 1, none⟩ = some (.slice o l.length cap) := by rw [← hW0]; simp [go_sem]
  have z2 : W0.cell? ⟨w.heap.size, 2, none⟩ = some (.int .i64 safe) := by rw [← hW0]; simp [go_sem]
  have hz0 := zz
  have z0w := z0
  have z1w := z1
  have z2w := z2
  obtain ⟨W1, hW1⟩ : ∃ W, W0.alloc (.cells #[.int .u8 (key / 65536), .int .u8 (key / 256 % 256), .int .u8 (key % 256), .int .u8 safe] 5) = W := ⟨_, rfl⟩
  have HF : Hid (ownB W1 W0.heap.size (.slice (some ⟨W0.heap.size, 0, none⟩) 4 4) (jHead key safe ++ cmdsTo l 0)) := by rw [← hW1]; exact own_litJ W0 #[.int .u8 (key / 65536), .int .u8 (key / 256 % 256), .int .u8 (key % 256), .int .u8 safe] 5 4 rfl (by decide)
  have hb1 : Below W0.heap.size W0 W1 := by rw [← hW1]; exact (Below.refl _ _).alloc (Nat.le_refl _) _
  have HB1 := hide hb1
  clear hb1
  go_enter Try.func77, Try.ntmps77
  go_wp2
  go_loopw [3, 4] (fun bv iv wr => ∃ t : Nat, t ≤ l.length ∧ iv = .int .i64 (t : Int) ∧ Hid (ownB wr W0.heap.size bv (jHead key safe ++ cmdsTo l t)) ∧ Hid (Below W0.heap.size W0 wr))
    (fun _ iv _ => l.length - (intOf iv).toNat)
  case atStart => exact ⟨0, Nat.zero_le _, rfl, HF.out, HB1.out⟩
  case round =>
    obtain ⟨t, htl, rfl, HO, HBR⟩ := hrel
    clear HF HB1 hW1 z0 z1 z2 z0w z2w
    have hsr := HBR.out.size
    have y1 := bC HBR.out z1w hz0
    have HBB : Hid (Below w.heap.size w wr) := HB.out.trans (HBR.out.mono HB.out.size)
    have hlen : (jHead key safe ++ cmdsTo l t).length ≤ 1000 := by rw [List.length_append, cmdsTo_length l t htl]; simp [jHead]; omega
    by_cases hlt : t < l.length
    · skip
      have hlt' : (t : Int) < (l.length : Int) := by omega
      have ht0 : (0 : Int) ≤ (t : Int) := by omega
      rcases HR.out with hR | ⟨b, off, rfl, hbl, hcell⟩
      · subst hR; simp at hlt
      obtain ⟨c0, c1, c2⟩ := RdL.cmd (C := w.heap.size) hcell t hlt
      have e0 := c0
      have e1x := c1
      have e2x := c2
      replace c0 := (HBB.out.cell (p := ⟨b, off + t * 3, none⟩) hbl).trans c0
      replace c1 := (HBB.out.cell (p := ⟨b, off + t * 3 + 1, none⟩) hbl).trans c1
      replace c2 := (HBB.out.cell (p := ⟨b, off + t * 3 + 2, none⟩) hbl).trans c2
      have d0 := (HB.out.cell (p := ⟨b, off + t * 3, none⟩) hbl).trans e0
      have d1 := (HB.out.cell (p := ⟨b, off + t * 3 + 1, none⟩) hbl).trans e1x
      have d2 := (HB.out.cell (p := ⟨b, off + t * 3 + 2, none⟩) hbl).trans e2x
      obtain ⟨x, y, u, hxyu⟩ : ∃ x y u, l.getD t (0, 0, 0) = (x, y, u) := ⟨_, _, _, rfl⟩
      rw [hxyu] at c0 c1 c2 d0 d1 d2
      dsimp only at c0 c1 c2 d0 d1 d2
      clear e0 e1x e2x
      obtain ⟨⟨q1, q2⟩, ⟨q3, q4⟩, q5, q6⟩ := cmd_ok HOK.out hlt hxyu
      have f1 : IntKind.u8.wrap x = x := u8w _ (by omega) (by omega)
      have f2 : IntKind.u8.wrap y = y := u8w _ (by omega) (by omega)
      have f3 : IntKind.u8.wrap u = u := u8w _ (by omega) (by omega)
      have HN := hide (cmdsTo_succ hlt hxyu)
      clear hxyu hcell
      have hbz : b < W0.heap.size := by have := HB.out.size; omega
      have F1 : Hid (ownB (wr.alloc (.cells #[.int .u8 x, .int .u8 y, .int .u8 u] 5)).drew W0.heap.size u3 (jHead key safe ++ cmdsTo l t)) := World.ownsRow.alloc HO.out _
      have B1 : Hid (Below W0.heap.size W0 (wr.alloc (.cells #[.int .u8 x, .int .u8 y, .int .u8 u] 5)).drew) := (HBR.out.alloc hsr _).drew
      have R1 := hide (rd_byte3 wr x y u)
      have hL2 : Hid ((jHead key safe ++ cmdsTo l t).length + [x, y, u].length ≤ 1099511627776) := by show _ ≤ _; simp only [List.length_cons, List.length_nil]; omega
      have hS2 : Hid (W0.heap.size ≤ (wr.alloc (.cells #[.int .u8 x, .int .u8 y, .int .u8 u] 5)).drew.heap.size) := B1.out.size
      generalize hL0 : jHead key safe ++ cmdsTo l t = L0 at *
      go_wp2
      go_region_held3 (fun w' => w'.cell? ⟨w.heap.size, 1, none⟩ = some (.slice (some ⟨b, off, none⟩) l.length cap) ∧ w'.cell? ⟨b, off + t * 3, none⟩ = some (.int .i64 x) ∧ w'.cell? ⟨b, off + t * 3 + 1, none⟩ = some (.int .i64 y) ∧ w'.cell? ⟨b, off + t * 3 + 2, none⟩ = some (.int .i64 u)) (first | with_reducible exact ⟨k1, k2, k3, k4⟩ | with_reducible exact ⟨y1, c0, c1, c2⟩ | go_keep) (first | (refine step_append_bytes rfl (.tmp 27) (.tmp 49) rfl W0.heap.size u3 L0 rfl F1.out (some ⟨wr.heap.size, 0, none⟩) 3 [x, y, u] 3 rfl rfl (fun h => by cases h) R1.out hL2.out hS2.out ?_; intro v8 w8 hv8 hb8; have hp8 := B1.out.trans hb8; have k1 := bC hp8 z1w hz0; have k2 := bC hp8 d0 hbz; have k3 := bC hp8 d1 hbz; have k4 := bC hp8 d2 hbz; have HR8 := hide (And.intro hv8 hp8); clear hv8 hb8 hp8))
      go_wp2
      go_roundw
      case rel => exact ⟨t + 1, by omega, by go_num, by rw [HN.out, ← List.append_assoc, hL0]; exact HR8.out.1, HR8.out.2⟩
      case measure => simp [intOf]; omega
    · have e : t = l.length := by omega
      subst e
      have hlz : ¬ ((l.length : Int) < (l.length : Int)) := by omega
      clear hlen
      go_wp2
      go_ret
      exact ⟨_, rfl, own_mono HO.out (by omega), HBB.out⟩

theorem alloc_drew_new (w : World) (o : Obj) : (w.alloc o).drew.heap[w.heap.size]? = some o := by
  have h : (w.alloc o).drew.heap = (w.alloc o).heap := rfl
  rw [h]; exact World.alloc_heap_new w o
theorem rd_box {w : World} {B : Nat} {x : Int} (h : w.heap[B]? = some (.cells #[.int .u8 x] 5 (0, 0))) : Rd w (some ⟨B, 0, none⟩) [x] := by
  refine .inr ⟨B, 0, rfl, (Array.getElem?_eq_some_iff.1 h).1, fun i hi => ?_⟩
  have hi0 : i = 0 := by simpa using hi
  subst hi0
  exact bx_cell h 0 _ rfl
set_option maxHeartbeats 1000000 in
theorem appendWordK (base : Nat) (v : Value) (l : List Int) (n : Int) (w : World) (hv : ownB w base v l) (hbase : base ≤ w.heap.size) (h0 : 0 ≤ n) (h1 : n ≤ 999999) (hlen : l.length ≤ 1048576) :
    Calls Try.prog 116 #[v, .int .i64 n] w fun e w' => ∃ v', e = .returned v' ∧ ownB w' base v' (l ++ [n / 256 % 256, n % 256]) ∧ w.grownBy w' v.ownBlock := by
  obtain ⟨i0, hi, hz0, hz1, hz2⟩ := info_parts infoU8
  have hs2 : 0 ≤ n / 256 ∧ n / 256 ≤ 4000 := by omega
  go_enter Try.func116, Try.ntmps116
  go_wp2_with (at_builtin; refine wpList_append_own _ rfl _ _ 22 rfl base 5 i0 (.int .u8 0) 1 1 Try.underlying22 hi hz0 hz1 hz2 rfl (by decide) v _ _ rfl (hv.alloc _) ⟨w.heap.size, 0, none⟩ 2 2 [.int .u8 (n / 256 % 256), .int .u8 (n % 256)] rfl rfl ?c1 ?c2 ?c3 ?c4 ?c5 ?_)
  case c1 => exact cells_newJ w #[.int .u8 (n / 256 % 256), .int .u8 (n % 256)] 5
  case c2 => exact ints_oneCell .u8 [n / 256 % 256, n % 256]
  case c3 => unfold maxLen; omega
  case c4 => omega
  case c5 => simp; omega
  intro v' w1 hown hgrow _
  have HO : Hid (ownB w1 base v' (l ++ [n / 256 % 256, n % 256])) := by
    unfold Hid ownB; simpa using hown
  have HG : Hid (w.grownBy w1 v.ownBlock) := (World.grownBy_alloc w _ _).trans hgrow
  clear hown hgrow hv
  go_wp2
  go_ret
  exact ⟨_, rfl, HO.out, HG.out⟩
set_option maxHeartbeats 1000000 in
theorem appendThreeK (base : Nat) (v : Value) (l : List Int) (n : Int) (w : World) (hv : ownB w base v l) (hbase : base ≤ w.heap.size) (h0 : 0 ≤ n) (h1 : n ≤ 999999) (hlen : l.length ≤ 1000000) :
    Calls Try.prog 71 #[v, .int .i64 n] w fun e w' => ∃ v', e = .returned v' ∧ ownB w' base v' (l ++ [n / 65536, n / 256 % 256, n % 256]) ∧ w.grownBy w' v.ownBlock := by
  obtain ⟨i0, hi, hz0, hz1, hz2⟩ := info_parts infoU8
  have hs2 : 0 ≤ n / 65536 ∧ n / 65536 ≤ 15 := by omega
  have hw8 : IntKind.u8.wrap (n / 65536) = n / 65536 := u8w _ (by omega) (by omega)
  go_enter Try.func71, Try.ntmps71
  go_wp2_with (at_builtin; refine wpList_append_own_at _ rfl _ _ 22 rfl base 5 i0 (.int .u8 0) 1 1 Try.underlying22 hi hz0 hz1 hz2 rfl (by decide) v _ _ rfl (hv.alloc _) ⟨w.heap.size, 0, none⟩ 1 1 [.int .u8 (n / 65536)] rfl rfl ?c1 ?c2 ?c3 ?c4 ?c5 ?_)
  case c1 => exact cells_newJ w #[.int .u8 (n / 65536)] 5
  case c2 => exact ints_oneCell .u8 [n / 65536]
  case c3 => unfold maxLen; omega
  case c4 => omega
  case c5 => simp; omega
  intro v' w1 hown hgrow _ hat
  have HO : Hid (ownB w1 base v' (l ++ [n / 65536])) := by
    unfold Hid ownB; simpa using hown
  have HG : Hid (w.grownBy w1 v.ownBlock) := (World.grownBy_alloc w _ _).trans hgrow
  have HA := hide hat
  have hs1 : base ≤ w1.heap.size := Nat.le_trans hbase HG.out.size
  clear hown hgrow hv hat
  go_wp2_with fail
  refine (appendWordK base v' _ n w1 HO.out hs1 h0 h1 (by simp; omega)).mono ?_
  rintro e w2 ⟨v2, rfl, hv2, hb2⟩
  have hgg : w.grownBy w2 v.ownBlock := ⟨hb2.os.trans HG.out.os, hb2.tape.trans HG.out.tape, hb2.output.trans HG.out.output, Nat.le_trans HG.out.size hb2.size, fun q hq hne => (hb2.block q (Nat.lt_of_lt_of_le hq HG.out.size) (fun e => by
    rcases HA.out with h | h
    · exact hne (e.trans h)
    · rw [h] at e; injection e with e; (try simp at e); omega)).trans (HG.out.block q hq hne)⟩
  have HR := hide (And.intro hv2 hgg)
  clear hv2 hb2 hgg
  go_wp2
  go_ret
  exact ⟨_, rfl, by have := HR.out.1; simpa using this, HR.out.2⟩

set_option maxRecDepth 100000 in
set_option maxHeartbeats 8000000 in
theorem implJBytes_go (key safe : Int) (o : Option Addr) (cap : Nat) (l : List Cd) (w : World) (hR : RdC w.heap.size w o l) (hok : journalB key l safe = true) (hjo : ∀ W : World, Below w.heap.size w W → Calls Try.prog 24 #[jrn key (.slice o l.length cap) safe] W fun e w' => e = .returned (.bool true) ∧ Below W.heap.size W w') :
    Calls Try.prog 22 #[jrn key (.slice o l.length cap) safe] w fun e w' => ∃ v, e = .returned (.tuple #[v, .bool true]) ∧ ownB w' w.heap.size v (jHead key safe ++ cmdsTo l l.length) ∧ Below w.heap.size w w' := by
  obtain ⟨hk, hl, h0, h1⟩ := journal_facts hok
  have hkk := keyB_iff.1 hk
  have hsf : safe ≤ 100 := by omega
  have e2 : IntKind.u8.wrap safe = safe := u8w _ (by omega) (by omega)
  obtain ⟨i0, hi, hz0', hz1', hz2'⟩ := info_parts infoU8
  obtain ⟨N, hN⟩ : ∃ N : Nat, N = 4 + 3 * l.length := ⟨_, rfl⟩
  have g1 : IntKind.i64.wrap (3 * (l.length : Int)) = 3 * (l.length : Int) := by rw [IntKind.wrap_i64]; omega
  have g2 : IntKind.i64.wrap (4 + 3 * (l.length : Int)) = (N : Int) := by rw [IntKind.wrap_i64]; omega
  have hN2 : N ≤ 1000 := by omega
  clear hN
  have HR := hide hR
  have HOK := hide hok
  clear hR hok
  obtain ⟨W0, hW0⟩ : ∃ W, (w.alloc (.cells #[.int .i64 key, .slice o l.length cap, .int .i64 safe] 47)) = W := ⟨_, rfl⟩
  have hb_W0 : Below w.heap.size w W0 := by rw [← hW0]; exact ((Below.refl _ _).alloc (Nat.le_refl _) _)
  have HB := hide hb_W0
  clear hb_W0
  have zz : w.heap.size < W0.heap.size := by rw [← hW0]; simp
  have z0 : W0.cell? ⟨w.heap.size, 0, none⟩ = some (.int .i64 key) := by rw [← hW0]; simp [go_sem]
  have z1 : W0.cell? ⟨w.heap.size, 1, none⟩ = some (.slice o l.length cap) := by rw [← hW0]; simp [go_sem]
  have z2 : W0.cell? ⟨w.heap.size, 2, none⟩ = some (.int .i64 safe) := by rw [← hW0]; simp [go_sem]
  have HJO := hide (hjo W0 HB.out)
  clear hjo
  go_enter Try.func22, Try.ntmps22
  go_wp2_with fail
  refine (HJO.out).mono ?_
  rintro e v1 ⟨rfl, hb⟩
  have hs1 := hb.size
  replace z0 := bC hb z0 zz
  replace z1 := bC hb z1 zz
  replace z2 := bC hb z2 zz
  replace zz := Nat.lt_of_lt_of_le zz hb.size
  replace HB := hide (HB.out.trans (hb.mono HB.out.size))
  clear hb
  go_wp2_with (at_make; refine wpList_make_own _ rfl _ _ 22 rfl v1.heap.size 5 i0 (.int .u8 0) 1 Try.underlying22 hi hz0' hz1' _ _ _ N rfl rfl (by omega) ?b2 ?b3 (Nat.le_refl _) ?_)
  case b2 => rw [hz2']; omega
  case b3 => unfold maxLen; omega
  intro wm hvm hgm
  have hbm : Below v1.heap.size v1 wm := (Below.refl _ _).grown hgm (Nat.le_refl _) (fun k h => by cases h)
  have HVM : Hid (ownB wm v1.heap.size (.slice (some ⟨v1.heap.size, 0, none⟩) 0 N) []) := hvm
  have hsm : v1.heap.size ≤ wm.heap.size := hbm.size
  clear hvm hgm
  have HZV := hide (show w.heap.size < v1.heap.size from zz)
  have HZW := hide HB.out.size
  replace z0 := bC hbm z0 zz
  replace z1 := bC hbm z1 zz
  replace z2 := bC hbm z2 zz
  replace zz := Nat.lt_of_lt_of_le zz hbm.size
  replace HB := hide (HB.out.trans (hbm.mono HB.out.size))
  clear hbm
  have hvlt : v1.heap.size < wm.heap.size := (HVM.out.lt v1.heap.size rfl).2
  have hzv : w.heap.size < v1.heap.size := HZV.out
  go_wp2
  go_region_held3 (fun w' => w'.cell? ⟨w.heap.size, 0, none⟩ = some (.int .i64 key) ∧ w'.cell? ⟨w.heap.size, 2, none⟩ = some (.int .i64 safe)) (first | with_reducible exact ⟨l0, l1⟩ | with_reducible exact ⟨k0, k1⟩ | with_reducible exact ⟨z0, z2⟩ | go_keep) (first | (go_at_call 71; have hpre : Below wm.heap.size wm wm.drew := (Below.drew (Below.refl _ _)); have own_ := own_kept HVM.out hpre; have hc_ := appendThreeK v1.heap.size _ [] key wm.drew own_ (by (try simp) <;> omega) hkk.1 (by omega) (by simp); with_reducible refine hc_.mono ?_; clear hc_; rintro e x0 ⟨v3, rfl, hv3, hg3⟩; have hp0 : Below v1.heap.size wm x0 := (hpre.mono hsm).grown hg3 (by (try simp) <;> omega) (fun k h => (own_.lt k h).1); have sp0 := hp0.size; have HV3 := hide hv3; have HP0 := hide hp0; have k0 := bC hp0 z0 hzv; have k1 := bC hp0 z2 hzv; clear hv3 hg3 own_ hp0 hpre) | (refine step_append_bytes rfl (.tmp 19) (.tmp 23) rfl v1.heap.size v3 _ rfl (World.ownsRow.alloc HV3.out _) (some ⟨x0.heap.size, 0, none⟩) 1 [safe] 1 rfl rfl (fun h => by cases h) (rd_byteA x0 safe) (by simp) (by (try simp) <;> omega) ?_; intro v8 w8 hv8 hb8; have hp8 : Below v1.heap.size wm w8 := (HP0.out.alloc (by omega) _).trans hb8; have l0 := bC hp8 z0 hzv; have l1 := bC hp8 z2 hzv; have l2 := bC hp8 z1 hzv; have HV8 := hide hv8; have HP8 := hide hp8; clear hv8 hb8 hp8) | (refine step_append_bytes rfl (.tmp 19) (.tmp 23) rfl v1.heap.size v3 _ rfl HV3.out (some ⟨wm.heap.size, 0, none⟩) 1 [safe] 1 rfl rfl (fun h => by cases h) (rd_box hS0) (by simp) (by (try simp) <;> omega) ?_; intro v8 w8 hv8 hb8; have hp8 : Below v1.heap.size wm w8 := HP0.out.trans hb8; have l0 := bC hp8 z0 hzv; have l1 := bC hp8 z2 hzv; have l2 := bC hp8 z1 hzv; have HV8 := hide hv8; have HP8 := hide hp8; clear hv8 hb8 hp8) | (go_at_call 71; have hpre : Below wm.heap.size wm (wm.alloc (.cells #[.int .u8 safe] 5)).drew := (Below.drew ((Below.refl _ _).alloc (Nat.le_refl _) _)); have own_ := own_kept HVM.out hpre; have hc_ := appendThreeK v1.heap.size _ [] key (wm.alloc (.cells #[.int .u8 safe] 5)).drew own_ (by (try simp) <;> omega) hkk.1 (by omega) (by simp); with_reducible refine hc_.mono ?_; clear hc_; rintro e x0 ⟨v3, rfl, hv3, hg3⟩; have hp0 : Below v1.heap.size wm x0 := (hpre.mono hsm).grown hg3 (by (try simp) <;> omega) (fun k h => (own_.lt k h).1); have sp0 := hp0.size; have HV3 := hide hv3; have HP0 := hide hp0; have k0 := bC hp0 z0 hzv; have k1 := bC hp0 z2 hzv; have hS0 : x0.heap[wm.heap.size]? = some (.cells #[.int .u8 safe] 5 (0, 0)) := (hg3.block _ (by simp) (fun e => by simp [Value.ownBlock] at e; omega)).trans (alloc_drew_new wm (.cells #[.int .u8 safe] 5)); clear hv3 hg3 own_ hp0 hpre))
  all_goals
    have HB8 := hide (HB.out.trans (HP8.out.mono HZW.out))
    have HV9 : Hid (ownB w8 v1.heap.size v8 (jHead key safe ++ cmdsTo l 0)) := by unfold Hid; simpa [jHead, cmdsTo] using HV8.out
    clear HV8 z0 z1 z2 zz
    go_wp2
    go_loopw [4, 28] (fun bv iv wr => ∃ t : Nat, t ≤ l.length ∧ iv = .int .i64 (t : Int) ∧ Hid (ownB wr v1.heap.size bv (jHead key safe ++ cmdsTo l t)) ∧ Hid (Below v1.heap.size w8 wr))
      (fun _ iv _ => l.length - (intOf iv).toNat)
    case atStart => exact ⟨0, Nat.zero_le _, rfl, HV9.out, Below.refl _ _⟩
    case round =>
      obtain ⟨t, htl, rfl, HO, HBR⟩ := hrel
      have hsr := HBR.out.size
      have HS8 := hide HP8.out.size
      have HBB : Hid (Below w.heap.size w wr) := HB8.out.trans (HBR.out.mono HZW.out)
      have hlen : (jHead key safe ++ cmdsTo l t).length ≤ 1000 := by rw [List.length_append, cmdsTo_length l t htl]; simp [jHead]; omega
      have hvw : v1.heap.size ≤ wr.heap.size := by have := HS8.out; omega
      by_cases hlt : t < l.length
      · skip
        have hlt' : (t : Int) < (l.length : Int) := by omega
        have ht0 : (0 : Int) ≤ (t : Int) := by omega
        rcases HR.out with hR | ⟨b, off, rfl, hbl, hcell⟩
        · subst hR; simp at hlt
        obtain ⟨c0, c1, c2⟩ := RdL.cmd (C := w.heap.size) hcell t hlt
        replace c0 := (HBB.out.cell (p := ⟨b, off + t * 3, none⟩) hbl).trans c0
        replace c1 := (HBB.out.cell (p := ⟨b, off + t * 3 + 1, none⟩) hbl).trans c1
        replace c2 := (HBB.out.cell (p := ⟨b, off + t * 3 + 2, none⟩) hbl).trans c2
        obtain ⟨x, y, u, hxyu⟩ : ∃ x y u, l.getD t (0, 0, 0) = (x, y, u) := ⟨_, _, _, rfl⟩
        rw [hxyu] at c0 c1 c2
        dsimp only at c0 c1 c2
        obtain ⟨⟨q1, q2⟩, ⟨q3, q4⟩, q5, q6⟩ := cmd_ok HOK.out hlt hxyu
        have f1 : IntKind.u8.wrap x = x := u8w _ (by omega) (by omega)
        have f2 : IntKind.u8.wrap y = y := u8w _ (by omega) (by omega)
        have f3 : IntKind.u8.wrap u = u := u8w _ (by omega) (by omega)
        have HN := hide (cmdsTo_succ hlt hxyu)
        clear hxyu hcell
        obtain ⟨W2, hW2⟩ : ∃ W, wr.alloc (.cells #[.int .i64 x, .int .i64 y, .int .i64 u] 28) = W := ⟨_, rfl⟩
        have hb2 : Below wr.heap.size wr W2 := by rw [← hW2]; exact (Below.refl _ _).alloc (Nat.le_refl _) _
        have b0 : W2.cell? ⟨wr.heap.size, 0, none⟩ = some (.int .i64 x) := by rw [← hW2]; simp
        have b1 : W2.cell? ⟨wr.heap.size, 1, none⟩ = some (.int .i64 y) := by rw [← hW2]; simp
        have b2 : W2.cell? ⟨wr.heap.size, 2, none⟩ = some (.int .i64 u) := by rw [← hW2]; simp
        have HO2 := hide (own_kept HO.out hb2)
        have HB2 : Hid (Below v1.heap.size w8 W2) := HBR.out.trans (hb2.mono hvw)
        have hs2 : v1.heap.size ≤ W2.heap.size := by have := hb2.size; omega
        clear hb2
        generalize hL0 : jHead key safe ++ cmdsTo l t = L0 at *
        go_wp2_with (at_builtin; refine wpList_append_bytes rfl (.tmp 32) (.tmp 42) rfl v1.heap.size _ L0 rfl (World.ownsRow.alloc HO2.out _) (some ⟨W2.heap.size, 0, none⟩) 3 [x, y, u] rfl (fun h => by cases h) (rd_byte3A W2 x y u) (by simp; omega) (by simp; omega) ?_)
        intro v5 w5 hv5 _ hb5
        have HV5 := hide hv5
        have HB5 : Hid (Below v1.heap.size w8 w5) := (HB2.out.alloc hs2 _).trans hb5
        clear hv5 hb5
        go_wp2
        go_roundw
        case rel => exact ⟨t + 1, by omega, by go_num, by rw [HN.out, ← List.append_assoc, hL0]; exact HV5.out, HB5.out⟩
        case measure => simp [intOf]; omega
      · have e : t = l.length := by omega
        subst e
        have hlz : ¬ ((l.length : Int) < (l.length : Int)) := by omega
        have hzz := HZW.out
        clear hlen
        go_wp2
        go_ret2
        exact ⟨_, rfl, own_mono HO.out (by omega), HBB.out⟩

set_option maxRecDepth 100000 in
set_option maxHeartbeats 4000000 in
theorem implJBytes_sh (v : Value) (m : Jm) (w : World) (hR : RdJm w.heap.size w v m) (hcp : capJm v) (hf : fitJm m) :
    Calls Try.prog 22 #[v] w fun e w' => ∃ v', e = .returned (.tuple #[v', .bool (journalB m.key m.l m.safe)]) ∧ InB w.heap.size w'.heap.size w' v' (jrnL m) ∧ Below w.heap.size w w' := by
  have hjo := fun W (hb : Below w.heap.size w W) => implJournalOk_sh v m W ((hR.kept hb (Nat.le_refl _)).le hb.size) hf
  obtain ⟨vl, rfl, ⟨o, c, rfl, r⟩⟩ := hR
  have HE := hide (show jrnL m = if journalB m.key m.l m.safe = true then jHead m.key m.safe ++ cmdsTo m.l m.l.length else [] from rfl)
  cases hj : journalB m.key m.l m.safe with
  | true =>
    rw [hj] at hjo
    refine (implJBytes_go m.key m.safe o c m.l w r hj hjo).mono ?_
    rintro e w' ⟨v, rfl, hv, hb⟩
    refine ⟨v, rfl, ?_, hb⟩
    rw [HE.out, if_pos hj]
    exact InB.of hv
  | false =>
    rw [hj] at hjo
    have HE2 := hide (show jrnL m = [] by rw [HE.out, if_neg (by rw [hj]; simp)])
    clear HE hj r
    obtain ⟨W0, hW0⟩ : ∃ W, (w.alloc (.cells #[.int .i64 m.key, .slice o m.l.length c, .int .i64 m.safe] 47)) = W := ⟨_, rfl⟩
    have hb_W0 : Below w.heap.size w W0 := by rw [← hW0]; exact ((Below.refl _ _).alloc (Nat.le_refl _) _)
    have HB := hide hb_W0
    clear hb_W0
    have zz : w.heap.size < W0.heap.size := by rw [← hW0]; simp
    have z0 : W0.cell? ⟨w.heap.size, 0, none⟩ = some (.int .i64 m.key) := by rw [← hW0]; simp [go_sem]
    have z1 : W0.cell? ⟨w.heap.size, 1, none⟩ = some (.slice o m.l.length c) := by rw [← hW0]; simp [go_sem]
    have z2 : W0.cell? ⟨w.heap.size, 2, none⟩ = some (.int .i64 m.safe) := by rw [← hW0]; simp [go_sem]
    have HJO := hide (hjo W0 HB.out)
    clear hjo
    go_enter Try.func22, Try.ntmps22
    go_wp2_with fail
    refine (HJO.out).mono ?_
    rintro e v1 ⟨rfl, hb⟩
    replace z0 := bC hb z0 zz
    replace z1 := bC hb z1 zz
    replace z2 := bC hb z2 zz
    replace zz := Nat.lt_of_lt_of_le zz hb.size
    replace HB := hide (HB.out.trans (hb.mono HB.out.size))
    clear hb
    go_wp2
    go_ret2
    refine ⟨.slice none 0 0, rfl, ?_, HB.out⟩
    rw [HE2.out]
    exact ⟨World.ownsRow_nil _ _ _ _, fun b e => by cases e⟩

end Go.Proofs.Ytldjaapbkihibaa

/- JournalRead: what it tells, and what its loop wants. -/
namespace Go.Proofs.Ytldjaapbkihibaa
open Go.ChangeShapes Go.WideShapes Go.ChangeAt Go.RowKit Go.Joins
set_option linter.unusedVariables false
set_option linter.unusedSimpArgs false

/-- The command that stands at t in the bytes, the commands, the key. -/
def byC (L : List Int) (t : Nat) : Cd := (L.getD (4 + 3 * t) 0, L.getD (4 + 3 * t + 1) 0, L.getD (4 + 3 * t + 2) 0)
def cmdsR (L : List Int) (n : Nat) : List Cd := (List.range n).map (byC L)
theorem cmdsR_succ (L : List Int) (n : Nat) : cmdsR L (n + 1) = cmdsR L n ++ [byC L n] := by simp [cmdsR, List.range_succ]
theorem cmdsR_len (L : List Int) (n : Nat) : (cmdsR L n).length = n := by simp [cmdsR]
def keyR (L : List Int) : Int := L.getD 0 0 * 65536 + L.getD 1 0 * 256 + L.getD 2 0
def numR (L : List Int) : Nat := (L.length - 4) / 3
def fineR (L : List Int) : Bool := decide (4 ≤ L.length) && decide ((L.length - 4) % 3 = 0)
def okJ (L : List Int) : Bool := fineR L && journalB (keyR L) (cmdsR L (numR L)) (L.getD 3 0)
/-- What JournalRead tells. -/
def jrR (L : List Int) : Jm := if okJ L = true then ⟨keyR L, cmdsR L (numR L), L.getD 3 0⟩ else jm0
theorem okJ_long {L : List Int} (h : okJ L = true) : 4 ≤ L.length ∧ (L.length - 4) % 3 = 0 ∧ L.length ≤ 304 := by
  unfold okJ fineR at h
  simp only [Bool.and_eq_true, decide_eq_true_eq] at h
  have := (journal_facts h.2).2.1
  rw [cmdsR_len] at this
  unfold numR at this
  omega
theorem jrR_fit (L : List Int) : (jrR L).l.length ≤ 1048576 := by
  unfold jrR
  split
  · next h =>
    have := okJ_long h
    simp only [cmdsR_len, numR]; omega
  · decide
abbrev readJ (L : List Int) (w : World) (e : Ending) (w' : World) : Prop := ∃ v', e = .returned (.tuple #[v', .bool (okJ L)]) ∧ InJm w.heap.size w'.heap.size w' v' (jrR L) ∧ Below w.heap.size w w'
theorem finR {W : World} {s k : Value} :
    ∃ B', Value.pointer (some ⟨W.heap.size, 0, none⟩) = .pointer (some ⟨B', 0, none⟩) ∧ Hid ((W.alloc (.cells #[k, .slice none 0 0, s] 47)).drew.heap[B']? = some (.cells #[k, .slice none 0 0, s] 47 (0, 0))) ∧ Hid (Below W.heap.size W (W.alloc (.cells #[k, .slice none 0 0, s] 47)).drew) ∧ W.heap.size ≤ B' :=
  ⟨W.heap.size, rfl, World.alloc_heap_new W _, Below.drew ((Below.refl _ _).alloc (Nat.le_refl _) _), Nat.le_refl _⟩
theorem rd_oneR {w : World} {x y z : Int} {T : TypeId} : RdC (w.alloc (.cells #[.int .i64 x, .int .i64 y, .int .i64 z] T)).heap.size (w.alloc (.cells #[.int .i64 x, .int .i64 y, .int .i64 z] T)) (some ⟨w.heap.size, 0, none⟩) [(x, y, z)] :=
  .inr ⟨w.heap.size, 0, rfl, by simp, fun i hi j hj => by
    have e1 : i = 0 := by simpa using hi
    subst e1
    match j, hj with
    | 0, _ => simp [layC]
    | 1, _ => simp [layC]
    | 2, _ => simp [layC]⟩
theorem rd_oneCd {w : World} {x y z : Int} {T : TypeId} : RdC (w.alloc (.cells #[.int .i64 x, .int .i64 y, .int .i64 z] T)).heap.size (w.alloc (.cells #[.int .i64 x, .int .i64 y, .int .i64 z] T)).drew (some ⟨w.heap.size, 0, none⟩) [(x, y, z)] :=
  rd_oneR.kept (Below.drew (Below.refl _ _)) (Nat.le_refl _)
/-- The journal's box in a round of the loop. -/
def JB (w : World) (base B : Nat) (k s : Int) (o : Option Addr) (t c : Nat) (l : List Cd) : Prop := w.heap[B]? = some (.cells #[.int .i64 k, .slice o t c, .int .i64 s] 47 (0, 0)) ∧ ownC w base (.slice o t c) l

theorem JB.put {w6 wr : World} {base B : Nat} {k s : Int} {v : Value} {o6 : Option Addr} {t6 c6 : Nat} {l : List Cd} (hx6 : w6.heap[B]? = some (.cells #[.int .i64 k, v, .int .i64 s] 47 (0, 0))) (ho6 : ownC w6 base (.slice o6 t6 c6) l) (hb6 : Below base wr w6) (hB : base ≤ B) :
    ∃ o' c', Hid (JB (w6.setCell ⟨B, 1, none⟩ (.slice o6 t6 c6)) base B k s o' t6 c' l) ∧ Hid (Below base wr (w6.setCell ⟨B, 1, none⟩ (.slice o6 t6 c6))) :=
  ⟨o6, c6, ⟨box_put hx6 1 _, own_putJ ho6 hx6 1 _⟩, hb6.setCell (p := ⟨B, 1, none⟩) hB _⟩
theorem box_farR {wr w6 : World} {ob : Obj} {B : Nat} {q : Option Nat} {x : Obj} (h : wr.heap[B]? = some x) (hg : (wr.alloc ob).drew.grownBy w6 q) (hne : q = none ∨ q ≠ some B) : w6.heap[B]? = some x := by
  have hl := (Array.getElem?_eq_some_iff.1 h).1
  refine (hg.block B (by simp; omega) (fun e => ?_)).trans (((Below.drew ((Below.refl _ _).alloc (Nat.le_refl _) ob)).block B hl).trans h)
  rcases hne with hq | hq
  · rw [hq] at e; cases e
  · exact hq e.symm
theorem own_far {wr w6 : World} {ob : Obj} {base : Nat} {v : Value} {l : List Cd} (ho : ownC wr base v l) (hb : base ≤ wr.heap.size) (hg : (wr.alloc ob).drew.grownBy w6 v.ownBlock) : Below base wr w6 :=
  ((Below.drew ((Below.refl _ _).alloc (Nat.le_refl _) ob)).mono hb).grown hg (by simp; omega) (fun k h => (ho.lt k h).1)


end Go.Proofs.Ytldjaapbkihibaa

/- JournalRead: the model's side. -/
namespace Go.Proofs.Ytldjaapbkihibaa
open Go.ChangeShapes Go.WideShapes Go.ChangeAt Go.RowKit Go.Joins
set_option linter.unusedVariables false
set_option linter.unusedSimpArgs false

end Go.Proofs.Ytldjaapbkihibaa

/- JournalRead: the program's side. -/
namespace Go.Proofs.Ytldjaapbkihibaa
open Go.ChangeShapes Go.WideShapes Go.ChangeAt Go.RowKit Go.Joins
set_option linter.unusedVariables false
set_option linter.unusedSimpArgs false

theorem or_word (x y : Int) (hx : 0 ≤ x ∧ x ≤ 255) (hy : 0 ≤ y ∧ y ≤ 65535) : bits .or .i64 (x * 65536) y = x * 65536 + y := by
  obtain ⟨a, rfl⟩ := Int.eq_ofNat_of_zero_le hx.1
  obtain ⟨b, rfl⟩ := Int.eq_ofNat_of_zero_le hy.1
  have h := i64_or_nat (a * 65536) b (by omega) (by omega)
  rw [nat_join 16 (a * 65536) b (by omega) (by omega)] at h
  simpa using h
theorem pairAtR (b off cap n : Nat) (L : List Int) (hn : n = L.length) (w : World) (hbl : b < w.heap.size) (hcell : ∀ i, i < L.length → w.cell? ⟨b, off + i, none⟩ = some (.int .u8 (L.getD i 0))) (hB8 : isB L) (h1 : 1 < n) (hlen : n ≤ 1048576) :
    Calls Try.prog 76 #[.slice (some ⟨b, off, none⟩) n cap, .int .i64 1] w fun e w' => e = .returned (.int .i64 (pairLS L 1)) ∧ w = w' := by
  subst hn
  have := pairAt_any (some ⟨b, off, none⟩) cap L 1 w (.inr ⟨b, off, rfl, hbl, hcell⟩) hB8 hlen h1
  simpa using this
theorem finR3 {W : World} {s k : Value} :
    ∃ B', Value.pointer (some ⟨W.heap.size, 0, none⟩) = .pointer (some ⟨B', 0, none⟩) ∧ Hid ((setP (W.alloc (.cells #[.int .i64 0, .slice none 0 0, .int .i64 0] 47)).drew W.heap.size k (.slice none 0 0) s).heap[B']? = some (.cells #[k, .slice none 0 0, s] 47 (0, 0))) ∧ Hid (Below W.heap.size W (setP (W.alloc (.cells #[.int .i64 0, .slice none 0 0, .int .i64 0] 47)).drew W.heap.size k (.slice none 0 0) s)) ∧ W.heap.size ≤ B' :=
  have h0 : (W.alloc (.cells #[.int .i64 0, .slice none 0 0, .int .i64 0] 47)).drew.heap[W.heap.size]? = some (.cells #[.int .i64 0, .slice none 0 0, .int .i64 0] 47 (0, 0)) := World.alloc_heap_new W _
  ⟨W.heap.size, rfl, box_put (box_put (box_put h0 0 _) 1 _) 2 _, setP_below (Below.drew ((Below.refl _ _).alloc (Nat.le_refl _) _)) (Nat.le_refl _) _ _ _, Nat.le_refl _⟩

set_option maxRecDepth 100000 in
set_option maxHeartbeats 4000000 in
theorem implJRead_go (b off cap n : Nat) (L : List Int) (hn : n = L.length) (w : World) (hbl : b < w.heap.size) (hcell : ∀ i, i < L.length → w.cell? ⟨b, off + i, none⟩ = some (.int .u8 (L.getD i 0))) (hB8 : isB L) (h4 : 4 ≤ n) (h3 : (n - 4) % 3 = 0) (hlen : n ≤ 304) :
    Calls Try.prog 25 #[.slice (some ⟨b, off, none⟩) n cap] w fun e w' => readJ L w e w' := by
  have HN := hide hn
  have HC := hide hcell
  have g0 : ¬ ((n : Int) < 4) := by omega
  have g1 : IntKind.i64.wrap ((n : Int) - 4) = (n : Int) - 4 := by rw [IntKind.wrap_i64]; omega
  have g2 : ((n : Int) - 4).tmod 3 = 0 := by rw [Int.tmod_eq_emod_of_nonneg (by omega)]; omega
  have g3 : ¬ ((304 : Int) < (n : Int)) := by omega
  have c0 := hcell 0 (by omega)
  have c1 := hcell 1 (by omega)
  have c2 := hcell 2 (by omega)
  have c3 := hcell 3 (by omega)
  have q0 := hB8.get 0
  have q1 := hB8.get 1
  have q2 := hB8.get 2
  have q3 := hB8.get 3
  have HPB := hide (show L.getD 1 0 * 256 + L.getD 2 0 = pairLS L 1 from rfl)
  have hpb : 0 ≤ pairLS L 1 ∧ pairLS L 1 ≤ 65535 := by have := HPB.out; omega
  have HK : Hid (L.getD 0 0 * 65536 + pairLS L 1 = keyR L) := by unfold Hid keyR; have := HPB.out; omega
  have HPA := hide (fun W (hb : Below w.heap.size w W) => pairAtR b off cap n L hn W (Nat.lt_of_lt_of_le hbl hb.size) (fun i hi => bC hb (hcell i hi) hbl) hB8 (by omega) (by omega))
  clear HPB
  generalize pairLS L 1 = pp at *
  have HS3 := hide (show L.getD 3 0 = L.getD 3 0 from rfl)
  clear hcell hn
  rw [Nat.add_zero] at c0
  generalize L.getD 0 0 = x0 at *
  generalize L.getD 1 0 = x1 at *
  generalize L.getD 2 0 = x2 at *
  generalize hx3 : L.getD 3 0 = x3 at *
  have HX3 := hide hx3
  clear hx3
  have u4 : IntKind.i64.wrap x1 = x1 := by rw [IntKind.wrap_i64]; omega
  have u5 : IntKind.i64.wrap (x1 * 256) = x1 * 256 := by rw [IntKind.wrap_i64]; omega
  have u6 : IntKind.i64.wrap x2 = x2 := by rw [IntKind.wrap_i64]; omega
  have u7 : IntKind.i64.wrap x3 = x3 := by rw [IntKind.wrap_i64]; omega
  have u1 : IntKind.i64.wrap (x0 * 65536) = x0 * 65536 := by rw [IntKind.wrap_i64]; omega
  have u0 : IntKind.i64.wrap x0 = x0 := by rw [IntKind.wrap_i64]; omega
  have hor := or_word x0 pp q0 hpb
  have u2 : IntKind.i64.wrap (x0 * 65536 + x1 * 256) = x0 * 65536 + x1 * 256 := by rw [IntKind.wrap_i64]; omega
  have u3 : IntKind.i64.wrap (x0 * 65536 + pp) = x0 * 65536 + pp := by rw [IntKind.wrap_i64]; omega
  obtain ⟨W0, hW0⟩ : ∃ W, (w.alloc (.cells #[.int .i64 0, .slice none 0 0, .int .i64 0] 47)) = W := ⟨_, rfl⟩
  have hb_W0 : Below w.heap.size w W0 := by rw [← hW0]; exact ((Below.refl _ _).alloc (Nat.le_refl _) _)
  have HB := hide hb_W0
  clear hb_W0
  have zr : w.heap.size < W0.heap.size := by rw [← hW0]; simp
  have r0 : W0.cell? ⟨w.heap.size, 0, none⟩ = some (.int .i64 0) := by rw [← hW0]; simp [go_sem]
  have r1 : W0.cell? ⟨w.heap.size, 1, none⟩ = some (.slice none 0 0) := by rw [← hW0]; simp [go_sem]
  have r2 : W0.cell? ⟨w.heap.size, 2, none⟩ = some (.int .i64 0) := by rw [← hW0]; simp [go_sem]
  have fr0 : W0.frozen? ⟨w.heap.size, 0, none⟩ = false := by rw [← hW0]; simp [go_sem]
  have fr1 : W0.frozen? ⟨w.heap.size, 1, none⟩ = false := by rw [← hW0]; simp [go_sem]
  have fr2 : W0.frozen? ⟨w.heap.size, 2, none⟩ = false := by rw [← hW0]; simp [go_sem]
  have d0 := bC HB.out c0 hbl
  have d1 := bC HB.out c1 hbl
  have d2 := bC HB.out c2 hbl
  have d3 := bC HB.out c3 hbl
  clear c0 c1 c2 c3
  go_enter Try.func25, Try.ntmps25
  have i0 : 0 < n := by omega
  have i1 : (1 : Int) < (n : Int) := by omega
  have i2 : (2 : Int) < (n : Int) := by omega
  have i3 : (3 : Int) < (n : Int) := by omega
  have hbW : b < W0.heap.size := Nat.lt_of_lt_of_le hbl HB.out.size
  have hneb : W0.heap.size ≠ b := Nat.ne_of_gt hbW
  go_upto_region 3 with fail
  go_cut [4] from 22 to 34 (fun s4 wx => ∃ B', s4 = .pointer (some ⟨B', 0, none⟩) ∧ Hid (wx.heap[B']? = some (.cells #[.int .i64 (x0 * 65536 + pp), .slice none 0 0, .int .i64 x3] 47 (0, 0))) ∧ Hid (Below W0.heap.size W0 wx) ∧ W0.heap.size ≤ B')
  case first =>
    go_region_held3 (fun w' => w'.cell? ⟨b, off, none⟩ = some (.int .u8 x0) ∧ w'.cell? ⟨b, off + 1, none⟩ = some (.int .u8 x1) ∧ w'.cell? ⟨b, off + 2, none⟩ = some (.int .u8 x2) ∧ w'.cell? ⟨b, off + 3, none⟩ = some (.int .u8 x3)) (first | with_reducible exact ⟨bC (Below.drew (Below.refl _ _)) d0 hbW, bC (Below.drew (Below.refl _ _)) d1 hbW, bC (Below.drew (Below.refl _ _)) d2 hbW, bC (Below.drew (Below.refl _ _)) d3 hbW⟩ | with_reducible exact ⟨bC (Below.drew ((Below.refl _ _).alloc (Nat.le_refl _) _)) d0 hbW, bC (Below.drew ((Below.refl _ _).alloc (Nat.le_refl _) _)) d1 hbW, bC (Below.drew ((Below.refl _ _).alloc (Nat.le_refl _) _)) d2 hbW, bC (Below.drew ((Below.refl _ _).alloc (Nat.le_refl _) _)) d3 hbW⟩ | with_reducible exact ⟨bC ((Below.drew (Below.refl _ _)).alloc (Nat.le_refl _) _) d0 hbW, bC ((Below.drew (Below.refl _ _)).alloc (Nat.le_refl _) _) d1 hbW, bC ((Below.drew (Below.refl _ _)).alloc (Nat.le_refl _) _) d2 hbW, bC ((Below.drew (Below.refl _ _)).alloc (Nat.le_refl _) _) d3 hbW⟩ | with_reducible exact ⟨bC (setP_below (Below.drew ((Below.refl _ _).alloc (Nat.le_refl _) _)) (Nat.le_refl _) _ _ _) d0 hbW, bC (setP_below (Below.drew ((Below.refl _ _).alloc (Nat.le_refl _) _)) (Nat.le_refl _) _ _ _) d1 hbW, bC (setP_below (Below.drew ((Below.refl _ _).alloc (Nat.le_refl _) _)) (Nat.le_refl _) _ _ _) d2 hbW, bC (setP_below (Below.drew ((Below.refl _ _).alloc (Nat.le_refl _) _)) (Nat.le_refl _) _ _ _) d3 hbW⟩) (first | (go_at_call 76; have hc_ := HPA.out W0.drew (HB.out.trans ((show Below W0.heap.size W0 W0.drew from (Below.drew (Below.refl _ _))).mono HB.out.size)); with_reducible refine hc_.mono ?_; clear hc_; rintro e x9 ⟨rfl, rfl⟩) | (go_at_call 76; have hc_ := HPA.out (W0.alloc (.cells #[.int .i64 0, .slice none 0 0, .int .i64 0] 47)).drew (HB.out.trans ((show Below W0.heap.size W0 (W0.alloc (.cells #[.int .i64 0, .slice none 0 0, .int .i64 0] 47)).drew from (Below.drew ((Below.refl _ _).alloc (Nat.le_refl _) _))).mono HB.out.size)); with_reducible refine hc_.mono ?_; clear hc_; rintro e x9 ⟨rfl, rfl⟩))
    all_goals (go_wp2_with fail; go_meet)
    all_goals first
      | with_reducible exact finR
      | with_reducible exact finR3
  case rest =>
    obtain ⟨B, rfl, Hbx, Hbl, hB0⟩ := hcut
    rw [HK.out] at Hbx
    have hb := Hbl.out
    clear Hbl HPA hor hpb u0 u1 u2 u3 u4 u5 u6 u7 d0 d1 d2 d3 i0 i1 i2 i3 q0 q1 q2 HK
    obtain ⟨key, hkey⟩ : ∃ k, keyR L = k := ⟨_, rfl⟩
    rw [hkey] at Hbx
    have HKK := hide hkey
    clear hkey
    have HB0 := hide HB.out
    have HZ0 := hide zr
    replace r0 := bC hb r0 zr
    replace r1 := bC hb r1 zr
    replace r2 := bC hb r2 zr
    replace fr0 := bF hb fr0 zr
    replace fr1 := bF hb fr1 zr
    replace fr2 := bF hb fr2 zr
    replace zr := Nat.lt_of_lt_of_le zr hb.size
    replace HB := hide (HB.out.trans (hb.mono HB.out.size))
    clear hb
    go_wp2
    go_loopw [5] (fun iv wr => ∃ (t i : Nat) (o : Option Addr) (c : Nat), Hid (i = 4 + 3 * t) ∧ i ≤ n ∧ iv = .int .i64 (i : Int) ∧ Hid (JB wr W0.heap.size B key x3 o t c (cmdsR L t)) ∧ Hid (Below W0.heap.size wc wr))
      (fun iv _ => n - (intOf iv).toNat)
    case atStart => exact ⟨0, 4, none, 0, rfl, h4, rfl, ⟨Hbx.out, World.ownsRow_nil _ _ _ _⟩, Below.refl _ _⟩
    case round =>
      obtain ⟨t, i, o, c, HI, hin, rfl, HJB, HBR⟩ := hrel
      by_cases hlt : i < n
      · skip
        have hi2 : i + 2 < n := by have := HI.out; omega
        have htn : t ≤ 400 := by have := HI.out; omega
        have hlt' : (i : Int) < (n : Int) := by omega
        have hj0 : (0 : Int) ≤ (i : Int) := by omega
        have hj1 : (i : Int) + 1 < (n : Int) := by omega
        have hj2 : (i : Int) + 2 < (n : Int) := by omega
        have hj3 : (0 : Int) ≤ (i : Int) + 1 := by omega
        have hj4 : (0 : Int) ≤ (i : Int) + 2 := by omega
        have ht2 : ((i : Int) + 2).toNat = i + 2 := by omega
        have v1 : IntKind.i64.wrap ((i : Int) + 1) = (i : Int) + 1 := by rw [IntKind.wrap_i64]; omega
        have v2 : IntKind.i64.wrap ((i : Int) + 2) = (i : Int) + 2 := by rw [IntKind.wrap_i64]; omega
        have v3 : IntKind.i64.wrap ((i : Int) + 3) = (i : Int) + 3 := by rw [IntKind.wrap_i64]; omega
        have HBB : Hid (Below w.heap.size w wr) := HB.out.trans (HBR.out.mono HB0.out.size)
        have hnL := HN.out
        have e0 := bC HBB.out (HC.out i (by omega)) hbl
        have p0 := hB8.get i
        have e1 := bC HBB.out (HC.out (i + 1) (by omega)) hbl
        have p1 := hB8.get (i + 1)
        have e2 := bC HBB.out (HC.out (i + 2) (by omega)) hbl
        have p2 := hB8.get (i + 2)
        have HBY : Hid (byC L t = (L.getD i 0, L.getD (i + 1) 0, L.getD (i + 2) 0)) := by unfold Hid byC; rw [← HI.out]
        generalize L.getD i 0 = y0 at *
        generalize L.getD (i + 1) 0 = y1 at *
        generalize L.getD (i + 2) 0 = y2 at *
        clear hnL
        have k0 : IntKind.i64.wrap y0 = y0 := by rw [IntKind.wrap_i64]; omega
        have k1 : IntKind.i64.wrap y1 = y1 := by rw [IntKind.wrap_i64]; omega
        have k2 : IntKind.i64.wrap y2 = y2 := by rw [IntKind.wrap_i64]; omega
        obtain ⟨hbx, ho⟩ := HJB.out
        have a1 : wr.cell? ⟨B, 1, none⟩ = some (.slice o t c) := bx_cell hbx 1 _ rfl
        have HBX := hide hbx
        have HO := hide ho
        have hBl := (Array.getElem?_eq_some_iff.1 hbx).1
        clear hbx ho HJB
        have hrs := HBR.out.size
        have HWS := hide HB0.out.size
        have HOB := hide (own_box HO.out HBX.out (by decide))
        go_upto_region 7 with fail
        go_region_law (first | (refine step_append_lay appC0 rfl (.tmp 42) (.tmp 61) rfl W0.heap.size _ (cmdsR L t) rfl (own_kept HO.out (Below.drew ((Below.refl _ _).alloc (Nat.le_refl _) (.cells #[.int .i64 y0, .int .i64 y1, .int .i64 y2] 28)))) (some ⟨wr.heap.size, 0, none⟩) 1 _ [(y0, y1, y2)] 1 rfl rfl (fun h => by cases h) rd_oneCd (by simp [cmdsR_len]; omega) (by simp; omega) ?_; intro v6 w6 ho6 hg6 _; obtain ⟨o6, c6, e6, _⟩ := ownL.open (L := layC) ho6; rw [← HBY.out, ← cmdsR_succ] at e6 ho6; rw [cmdsR_len] at e6; subst e6; have hx6 := box_farR HBX.out hg6 HOB.out; have hb6 := own_far HO.out (by omega) hg6; have a6 : w6.cell? ⟨B, 1, none⟩ = some (.slice o t c) := bx_cell hx6 1 _ rfl; have g6 := bx_frozen hx6 1; have HH := hide (And.intro hx6 (And.intro ho6 hb6)); clear hx6 ho6 hb6 hg6))
        all_goals (obtain ⟨o9, c9, HJ9, HB9⟩ := JB.put HH.out.1 HH.out.2.1 HH.out.2.2 hB0)
        all_goals go_wp2
        all_goals go_roundw
        all_goals first
          | exact ⟨t + 1, i + 3, o9, c9, by unfold Hid; rw [HI.out]; omega, by omega, by go_num, HJ9, hide (HBR.out.trans HB9.out)⟩
          | (simp [intOf]; omega)
      · skip
        have HT : Hid (t = numR L) := by unfold Hid numR; rw [← HN.out]; have := HI.out; omega
        have hte : i = n := by have := HI.out; omega
        have hnlt : ¬ ((i : Int) < (n : Int)) := by omega
        have hcl : t ≤ 400 := by have := HI.out; omega
        have HOK : Hid (okJ L = journalB key (cmdsR L t) x3) := by
          have hf : fineR L = true := by unfold fineR; rw [← HN.out]; simp [h4, h3]
          unfold Hid okJ
          rw [hf, HKK.out, HX3.out, ← HT.out]; rfl
        have HJR : Hid (jrR L = if journalB key (cmdsR L t) x3 = true then ⟨key, cmdsR L t, x3⟩ else jm0) := by
          unfold Hid jrR
          rw [HOK.out, HKK.out, HX3.out, ← HT.out]
        obtain ⟨hbx, ho⟩ := HJB.out
        have HO := hide ho
        have hrs := HBR.out.size
        have hws : w.heap.size < W0.heap.size := HZ0.out
        have HBB : Hid (Below w.heap.size w wr) := HB.out.trans (HBR.out.mono HB0.out.size)
        have HJO := hide (implJournalOk_sh (jrn key (.slice o (cmdsR L t).length c) x3) ⟨key, cmdsR L t, x3⟩ wr ⟨_, rfl, o, c, rfl, ownL.rds (L := layC) ho⟩ (by unfold fitJm; rw [cmdsR_len]; omega))
        dsimp only at HJO
        rw [cmdsR_len] at HJO
        have a0 : wr.cell? ⟨B, 0, none⟩ = some (.int .i64 key) := bx_cell hbx 0 _ rfl
        have a1 : wr.cell? ⟨B, 1, none⟩ = some (.slice o t c) := bx_cell hbx 1 _ rfl
        have a2 : wr.cell? ⟨B, 2, none⟩ = some (.int .i64 x3) := bx_cell hbx 2 _ rfl
        have hBl := (Array.getElem?_eq_some_iff.1 hbx).1
        have s0 := bC HBR.out r0 hws
        have fs0 := bF HBR.out fr0 hws
        have s1 := bC HBR.out r1 hws
        have fs1 := bF HBR.out fr1 hws
        have s2 := bC HBR.out r2 hws
        have fs2 := bF HBR.out fr2 hws
        clear r0 r1 r2 fr0 fr1 fr2 hbx ho HJB
        cases hj : journalB key (cmdsR L t) x3 with
        | false =>
          rw [hj] at HJO HOK HJR
          go_wp2_with fail
          refine (HJO.out).mono ?_
          rintro e w9 ⟨rfl, hb⟩
          have hs9 := hb.size
          replace a0 := bC hb a0 hBl
          replace s0 := bC hb s0 (by omega)
          replace fs0 := bF hb fs0 (by omega)
          replace a1 := bC hb a1 hBl
          replace s1 := bC hb s1 (by omega)
          replace fs1 := bF hb fs1 (by omega)
          replace a2 := bC hb a2 hBl
          replace s2 := bC hb s2 (by omega)
          replace fs2 := bF hb fs2 (by omega)
          have HO9 := hide (own_kept HO.out hb)
          have HB9 : Hid (Below w.heap.size w w9) := HBB.out.trans (hb.mono HBB.out.size)
          clear hb
          go_wp2
          refine bodyPost_ret (v := .tuple #[jrn 0 (.slice none 0 0) 0, .bool false]) (by simp [results, Try.results25, go_sem, s0, s1, s2]) rfl ⟨jrn 0 (.slice none 0 0) 0, by rw [HOK.out], ?_, setP_below HB9.out (Nat.le_refl _) _ _ _⟩
          rw [HJR.out, if_neg (by simp)]
          exact ⟨_, rfl, World.ownsRow_nil _ _ _ _, fun b e => by cases e⟩
        | true =>
          rw [hj] at HJO HOK HJR
          go_wp2_with fail
          refine (HJO.out).mono ?_
          rintro e w9 ⟨rfl, hb⟩
          have hs9 := hb.size
          replace a0 := bC hb a0 hBl
          replace s0 := bC hb s0 (by omega)
          replace fs0 := bF hb fs0 (by omega)
          replace a1 := bC hb a1 hBl
          replace s1 := bC hb s1 (by omega)
          replace fs1 := bF hb fs1 (by omega)
          replace a2 := bC hb a2 hBl
          replace s2 := bC hb s2 (by omega)
          replace fs2 := bF hb fs2 (by omega)
          have HO9 := hide (own_kept HO.out hb)
          have HB9 : Hid (Below w.heap.size w w9) := HBB.out.trans (hb.mono HBB.out.size)
          clear hb
          go_wp2
          refine bodyPost_ret (v := .tuple #[jrn key (.slice o t c) x3, .bool true]) (by simp [results, Try.results25, go_sem, s0, s1, s2]) rfl ⟨jrn key (.slice o t c) x3, by rw [HOK.out], ?_, setP_below HB9.out (Nat.le_refl _) _ _ _⟩
          have hj9 : jrR L = ⟨key, cmdsR L t, x3⟩ := by have := HJR.out; simpa using this
          rw [hj9]
          exact ⟨_, rfl, InRow.of (own_mono (own_low (own_low (own_low HO9.out hws 0 _) hws 1 _) hws 2 _) (by omega))⟩

end Go.Proofs.Ytldjaapbkihibaa

/- JournalRead where the length is none that it reads. -/
namespace Go.Proofs.Ytldjaapbkihibaa
open Go.ChangeShapes Go.WideShapes Go.ChangeAt Go.RowKit Go.Joins
set_option linter.unusedVariables false
set_option linter.unusedSimpArgs false


set_option maxRecDepth 100000 in
set_option maxHeartbeats 4000000 in
theorem implJRead_no (o : Option Addr) (cap n : Nat) (hn : n ≤ 1048576) (hno : ¬ (4 ≤ n ∧ (n - 4) % 3 = 0 ∧ n ≤ 304)) (w : World) :
    Calls Try.prog 25 #[.slice o n cap] w fun e w' => e = .returned (.tuple #[jrn 0 (.slice none 0 0) 0, .bool false]) ∧ Below w.heap.size w w' := by
  obtain ⟨W0, hW0⟩ : ∃ W, (w.alloc (.cells #[.int .i64 0, .slice none 0 0, .int .i64 0] 47)) = W := ⟨_, rfl⟩
  have hb_W0 : Below w.heap.size w W0 := by rw [← hW0]; exact ((Below.refl _ _).alloc (Nat.le_refl _) _)
  have HB := hide hb_W0
  clear hb_W0
  have zr : w.heap.size < W0.heap.size := by rw [← hW0]; simp
  have r0 : W0.cell? ⟨w.heap.size, 0, none⟩ = some (.int .i64 0) := by rw [← hW0]; simp [go_sem]
  have r1 : W0.cell? ⟨w.heap.size, 1, none⟩ = some (.slice none 0 0) := by rw [← hW0]; simp [go_sem]
  have r2 : W0.cell? ⟨w.heap.size, 2, none⟩ = some (.int .i64 0) := by rw [← hW0]; simp [go_sem]
  have fr0 : W0.frozen? ⟨w.heap.size, 0, none⟩ = false := by rw [← hW0]; simp [go_sem]
  have fr1 : W0.frozen? ⟨w.heap.size, 1, none⟩ = false := by rw [← hW0]; simp [go_sem]
  have fr2 : W0.frozen? ⟨w.heap.size, 2, none⟩ = false := by rw [← hW0]; simp [go_sem]
  by_cases h4 : 4 ≤ n
  · by_cases h3 : (n - 4) % 3 = 0
    · have g0 : ¬ ((n : Int) < 4) := by omega
      have g1 : IntKind.i64.wrap ((n : Int) - 4) = (n : Int) - 4 := by rw [IntKind.wrap_i64]; omega
      have g2 : ((n : Int) - 4).tmod 3 = 0 := by rw [Int.tmod_eq_emod_of_nonneg (by omega)]; omega
      have g3 : (304 : Int) < (n : Int) := by omega
      clear hno
      go_enter Try.func25, Try.ntmps25
      go_wp2
      exact bodyPost_ret (v := .tuple #[jrn 0 (.slice none 0 0) 0, .bool false]) (by simp [results, Try.results25, go_sem, r0, r1, r2]) rfl ⟨rfl, setP_below HB.out (Nat.le_refl _) _ _ _⟩
    · by_cases h5 : n ≤ 304
      · have g0 : ¬ ((n : Int) < 4) := by omega
        have g1 : IntKind.i64.wrap ((n : Int) - 4) = (n : Int) - 4 := by rw [IntKind.wrap_i64]; omega
        have g2 : ¬ (((n : Int) - 4).tmod 3 = 0) := by rw [Int.tmod_eq_emod_of_nonneg (by omega)]; omega
        have g3 : ¬ ((304 : Int) < (n : Int)) := by omega
        clear hno
        go_enter Try.func25, Try.ntmps25
        go_wp2
        exact bodyPost_ret (v := .tuple #[jrn 0 (.slice none 0 0) 0, .bool false]) (by simp [results, Try.results25, go_sem, r0, r1, r2]) rfl ⟨rfl, setP_below HB.out (Nat.le_refl _) _ _ _⟩
      · have g0 : ¬ ((n : Int) < 4) := by omega
        have g1 : IntKind.i64.wrap ((n : Int) - 4) = (n : Int) - 4 := by rw [IntKind.wrap_i64]; omega
        have g2 : ¬ (((n : Int) - 4).tmod 3 = 0) := by rw [Int.tmod_eq_emod_of_nonneg (by omega)]; omega
        have g3 : (304 : Int) < (n : Int) := by omega
        clear hno
        go_enter Try.func25, Try.ntmps25
        go_wp2
        exact bodyPost_ret (v := .tuple #[jrn 0 (.slice none 0 0) 0, .bool false]) (by simp [results, Try.results25, go_sem, r0, r1, r2]) rfl ⟨rfl, setP_below HB.out (Nat.le_refl _) _ _ _⟩
  · have g0 : (n : Int) < 4 := by omega
    clear hno
    go_enter Try.func25, Try.ntmps25
    go_wp2
    exact bodyPost_ret (v := .tuple #[jrn 0 (.slice none 0 0) 0, .bool false]) (by simp [results, Try.results25, go_sem, r0, r1, r2]) rfl ⟨rfl, setP_below HB.out (Nat.le_refl _) _ _ _⟩

end Go.Proofs.Ytldjaapbkihibaa

/- JournalRead on both sides, any bytes. -/
namespace Go.Proofs.Ytldjaapbkihibaa
open Go.ChangeShapes Go.WideShapes Go.ChangeAt Go.RowKit Go.Joins
set_option linter.unusedVariables false
set_option linter.unusedSimpArgs false


theorem implJRead_any (o : Option Addr) (cap : Nat) (L : List Int) (w : World) (hR : Rd w o L) (hB8 : isB L) (hlen : L.length ≤ 1048576) :
    Calls Try.prog 25 #[.slice o L.length cap] w fun e w' => readJ L w e w' := by
  by_cases h : 4 ≤ L.length ∧ (L.length - 4) % 3 = 0 ∧ L.length ≤ 304
  · rcases hR with hR | ⟨b, off, rfl, hbl, hcell⟩
    · subst hR; simp at h
    · exact implJRead_go b off cap L.length L rfl w hbl hcell hB8 h.1 h.2.1 h.2.2
  · have hf : okJ L = false := by
      cases ho : okJ L with
      | false => rfl
      | true => have := okJ_long ho; exact absurd ⟨this.1, this.2.1, by omega⟩ h
    refine (implJRead_no o cap L.length hlen h w).mono ?_
    rintro e w' ⟨rfl, hb⟩
    refine ⟨_, by rw [hf], ?_, hb⟩
    unfold jrR
    rw [if_neg (by rw [hf]; simp)]
    exact ⟨_, rfl, World.ownsRow_nil _ _ _ _, fun b e => by cases e⟩

theorem implJRead_sh (v : Value) (L : List Int) (w : World) (hR : RdV layB w.heap.size w v L) (hB8 : isB L) (hlen : L.length ≤ 1048576) :
    Calls Try.prog 25 #[v] w fun e w' => ∃ v', e = .returned (.tuple #[v', .bool (okJ L)]) ∧ InJm w.heap.size w'.heap.size w' v' (jrR L) ∧ Below w.heap.size w w' := by
  obtain ⟨o, c, rfl, r⟩ := hR
  exact implJRead_any o c L w (RdB_rd.1 r) hB8 hlen

end Go.Proofs.Ytldjaapbkihibaa

/- Bytes turned into a string, and held against others: bytes.Equal. -/
namespace Go.Proofs.Ytldjaapbkihibaa
open Go.ChangeShapes Go.WideShapes Go.ChangeAt Go.RowKit Go.Joins
set_option linter.unusedVariables false
set_option linter.unusedSimpArgs false

theorem run_conv {w : World} {o : Option Addr} {l : List Int} (cap : Nat) (h : Rd w o l) : (convert 22 9 (.slice o l.length cap)).run Try.prog w = .ok (.string (strOfNums l)) w := by
  rcases h with h | ⟨b, off, rfl, _, hc⟩
  · subst h
    rw [run_convert_bytes_string w _ _ _ _ _ cap Try.underlying22 Try.underlying5 Try.underlying9]
    cases o with
    | none => simp [Conv.bytesToString, strOfNums]; rfl
    | some ad =>
      have hl : (loadCells ad ([] : List Int).length).run Try.prog w = .ok (([] : List Int).map (Value.int .u8)).toArray w := by
        simpa using run_loadCells_list (P := Try.prog) w ad [] (fun j v hj => by simp at hj)
      rw [run_bytesToString w _ _ cap [] hl, foldl_push_bytes]
      simp [strOfNums, ByteArray.empty, ByteArray.emptyWithCapacity]
      rfl
  · exact run_convert_bytes_arg w _ _ Try.underlying22 Try.underlying5 b off _ cap l rfl hc _ Try.underlying9

theorem str_inj {l1 l2 : List Int} (h1 : isB l1) (h2 : isB l2) : ((strOfNums l1).toList == (strOfNums l2).toList) = decide (l1 = l2) := by
  have e : ∀ l, (strOfNums l).toList = l.map fun n => UInt8.ofNat n.toNat := fun l => by
    rw [← strOfNums_data]; exact ByteArray.toList_eq _
  rw [e, e, Bool.eq_iff_iff, beq_iff_eq, decide_eq_true_eq]
  constructor
  · intro h
    have hlen : l1.length = l2.length := by have := congrArg List.length h; simpa using this
    apply List.ext_getElem hlen
    intro i p q
    have hi := congrArg (fun l => l[i]?) h
    simp [p, q] at hi
    have b1 := h1 _ (List.getElem_mem p)
    have b2 := h2 _ (List.getElem_mem q)
    have h3 := congrArg UInt8.toNat hi
    simp at h3
    omega
  · intro h; rw [h]

end Go.Proofs.Ytldjaapbkihibaa

/- A box of a journal that is laid at any place among calls: what its end wants. -/
namespace Go.Proofs.Ytldjaapbkihibaa
open Go.ChangeShapes Go.WideShapes Go.ChangeAt Go.RowKit Go.Joins
set_option linter.unusedVariables false
set_option linter.unusedSimpArgs false

theorem InJm.opn {lo hi : Nat} {w : World} {v : Value} {m : Jm} (h : InJm lo hi w v m) : ∃ (o : Option Addr) (c : Nat), v = jrn m.key (.slice o m.l.length c) m.safe := by
  obtain ⟨vl, rfl, ⟨o, c, rfl, _⟩⟩ := h.rd
  exact ⟨o, c, rfl⟩
theorem stp_setP (W : World) (B : Nat) (x y z : Value) : Stp B (B + 1) W (setP W B x y z) :=
  ((Stp.grown (grown_set W B 0 x) (fun b e => by injection e with e; omega)).trans (Stp.grown (grown_set _ B 1 y) (fun b e => by injection e with e; omega))).trans (Stp.grown (grown_set _ B 2 z) (fun b e => by injection e with e; omega))
theorem setP_size (W : World) (B : Nat) (x y z : Value) : (setP W B x y z).heap.size = W.heap.size := by simp [World.setCell]
theorem block_cell1 {W : World} {B : Nat} {c : Array Value} {t : TypeId} (h : W.heap[B]? = some (.cells c t (0, 0))) (j : Nat) (u : Value) (hj : c[j]? = some u) : W.cell? ⟨B, j, none⟩ = some u := bx_cell h j u hj
theorem finN {cur W : World} {B lo hi : Nat} {f : Value} {mr : Jm} {o : Option Addr} {c : Nat} {z0 z1 z2 : Value} (hZ : W.heap[B]? = some (.cells #[z0, z1, z2] 47 (0, 0))) (hx : Below cur.heap.size cur W) (hB : cur.heap.size ≤ B) (hi' : InJm lo hi W (jrn mr.key (.slice o mr.l.length c) mr.safe) mr) (h1 : cur.heap.size ≤ lo) (h2 : hi ≤ W.heap.size) (h3 : B < lo ∨ hi ≤ B) :
    ∃ B' lo hi o' c', Value.pointer (some ⟨B, 0, none⟩) = .pointer (some ⟨B', 0, none⟩) ∧ f = f ∧ Hid ((setP W B (.int .i64 mr.key) (.slice o mr.l.length c) (.int .i64 mr.safe)).heap[B']? = some (.cells #[.int .i64 mr.key, .slice o' mr.l.length c', .int .i64 mr.safe] 47 (0, 0))) ∧ Hid (Below cur.heap.size cur (setP W B (.int .i64 mr.key) (.slice o mr.l.length c) (.int .i64 mr.safe))) ∧ cur.heap.size ≤ B' ∧ B' < (setP W B (.int .i64 mr.key) (.slice o mr.l.length c) (.int .i64 mr.safe)).heap.size ∧ Hid (InJm lo hi (setP W B (.int .i64 mr.key) (.slice o mr.l.length c) (.int .i64 mr.safe)) (jrn mr.key (.slice o' mr.l.length c') mr.safe) mr) ∧ cur.heap.size ≤ lo ∧ hi ≤ (setP W B (.int .i64 mr.key) (.slice o mr.l.length c) (.int .i64 mr.safe)).heap.size ∧ (B' < lo ∨ hi ≤ B') := by
  have b1 := box_put hZ 0 (.int .i64 mr.key)
  have b2 := box_put b1 1 (.slice o mr.l.length c)
  have b3 := box_put b2 2 (.int .i64 mr.safe)
  exact ⟨B, lo, hi, o, c, rfl, rfl, b3, setP_below hx hB _ _ _, hB, (Array.getElem?_eq_some_iff.1 b3).1, InJm.step hi' (stp_setP W B _ _ _) (by omega), h1, by rw [setP_size]; exact h2, h3⟩
theorem finNn {cur W : World} {lo hi : Nat} {f : Value} {mr : Jm} {o : Option Addr} {c : Nat} (hx : Below cur.heap.size cur W) (hi' : InJm lo hi W (jrn mr.key (.slice o mr.l.length c) mr.safe) mr) (h1 : cur.heap.size ≤ lo) (h2 : hi ≤ W.heap.size) :
    ∃ B' lo hi o' c', Value.pointer (some ⟨W.heap.size, 0, none⟩) = .pointer (some ⟨B', 0, none⟩) ∧ f = f ∧ Hid ((W.alloc (.cells #[.int .i64 mr.key, .slice o mr.l.length c, .int .i64 mr.safe] 47)).heap[B']? = some (.cells #[.int .i64 mr.key, .slice o' mr.l.length c', .int .i64 mr.safe] 47 (0, 0))) ∧ Hid (Below cur.heap.size cur (W.alloc (.cells #[.int .i64 mr.key, .slice o mr.l.length c, .int .i64 mr.safe] 47))) ∧ cur.heap.size ≤ B' ∧ B' < (W.alloc (.cells #[.int .i64 mr.key, .slice o mr.l.length c, .int .i64 mr.safe] 47)).heap.size ∧ Hid (InJm lo hi (W.alloc (.cells #[.int .i64 mr.key, .slice o mr.l.length c, .int .i64 mr.safe] 47)) (jrn mr.key (.slice o' mr.l.length c') mr.safe) mr) ∧ cur.heap.size ≤ lo ∧ hi ≤ (W.alloc (.cells #[.int .i64 mr.key, .slice o mr.l.length c, .int .i64 mr.safe] 47)).heap.size ∧ (B' < lo ∨ hi ≤ B') :=
  ⟨W.heap.size, lo, hi, o, c, rfl, rfl, World.alloc_heap_new W _, hx.alloc hx.size _, hx.size, by simp, InJm.step hi' (Stp.of (lo := 0) (hi := 0) ((Below.refl _ _).alloc (Nat.le_refl _) _)) (.inl (Nat.zero_le _)), h1, by simp; omega, .inr h2⟩
theorem box_newB {w new : World} {c : Array Value} {T : TypeId} (hb : Below (w.alloc (.cells c T)).heap.size (w.alloc (.cells c T)) new) : new.heap[w.heap.size]? = some (.cells c T (0, 0)) :=
  (hb.block w.heap.size (by simp)).trans (World.alloc_heap_new w (.cells c T))

end Go.Proofs.Ytldjaapbkihibaa

/- A journal's bytes and back; what is noted is replayed. -/
namespace Go.Proofs.Ytldjaapbkihibaa
open Go.ChangeShapes Go.WideShapes Go.ChangeAt Go.RowKit Go.Joins
set_option linter.unusedVariables false
set_option linter.unusedSimpArgs false


theorem cmds_get : ∀ (cs : List Cd) (t j : Nat), t < cs.length → j < 3 → (cs.flatMap cmdL).getD (3 * t + j) 0 = (cmdL (cs.getD t (0, 0, 0))).getD j 0
  | [], t, j, h, _ => by simp at h
  | c :: cs, 0, j, h, hj => by
    rw [List.flatMap_cons, List.getD_eq_getElem?_getD, List.getElem?_append_left (by simp [cmdL]; omega)]
    simp
  | c :: cs, t + 1, j, h, hj => by
    have ih := cmds_get cs t j (by simpa using h) hj
    rw [List.flatMap_cons, List.getD_eq_getElem?_getD, List.getElem?_append_right (by simp [cmdL]; omega)]
    have e : 3 * (t + 1) + j - (cmdL c).length = 3 * t + j := by simp [cmdL]; omega
    rw [e, ← List.getD_eq_getElem?_getD, ih]
    simp
theorem head_get (key safe : Int) (X : List Int) (q : Nat) : (jHead key safe ++ X).getD (4 + q) 0 = X.getD q 0 := by
  rw [List.getD_eq_getElem?_getD, List.getElem?_append_right (by simp [jHead]), List.getD_eq_getElem?_getD]
  congr 2
  simp [jHead]
theorem byC_back (key safe : Int) (cs : List Cd) (t : Nat) (h : t < cs.length) : byC (jHead key safe ++ cmdsTo cs cs.length) t = cs.getD t (0, 0, 0) := by
  unfold byC cmdsTo
  rw [List.take_length, Nat.add_assoc, Nat.add_assoc, head_get, head_get, head_get]
  have h0 := cmds_get cs t 0 h (by decide)
  have h1 := cmds_get cs t 1 h (by decide)
  have h2 := cmds_get cs t 2 h (by decide)
  rw [Nat.add_zero] at h0
  rw [h0, h1, h2]
  rfl
theorem jrn_back {m : Jm} (h : journalB m.key m.l m.safe = true) : okJ (jrnL m) = true ∧ jrR (jrnL m) = m := by
  obtain ⟨key, cs, safe⟩ := m
  dsimp only at h
  have e : jrnL ⟨key, cs, safe⟩ = jHead key safe ++ cmdsTo cs cs.length := by unfold jrnL; rw [if_pos h]
  have hl : (jHead key safe ++ cmdsTo cs cs.length).length = 4 + 3 * cs.length := by rw [List.length_append, cmdsTo_length cs cs.length (Nat.le_refl _)]; rfl
  obtain ⟨hk, _, hs0, hs1⟩ := journal_facts h
  have hkk : 0 ≤ key ∧ key < 1000000 := by unfold keyB at hk; simp at hk; omega
  have hn : numR (jHead key safe ++ cmdsTo cs cs.length) = cs.length := by unfold numR; rw [hl]; omega
  have hc : cmdsR (jHead key safe ++ cmdsTo cs cs.length) cs.length = cs := by
    apply List.ext_getElem (cmdsR_len _ _)
    intro i h1 h2
    have e1 : (cmdsR (jHead key safe ++ cmdsTo cs cs.length) cs.length)[i] = byC (jHead key safe ++ cmdsTo cs cs.length) i := by simp [cmdsR]
    rw [e1, byC_back key safe cs i h2]
    simp [h2]
  have hkr : keyR (jHead key safe ++ cmdsTo cs cs.length) = key := by
    unfold keyR jHead
    simp
    omega
  have hsr : (jHead key safe ++ cmdsTo cs cs.length).getD 3 0 = safe := by unfold jHead; simp
  have hf : fineR (jHead key safe ++ cmdsTo cs cs.length) = true := by unfold fineR; rw [hl]; simp
  have ho : okJ (jHead key safe ++ cmdsTo cs cs.length) = true := by unfold okJ; rw [hf, hn, hc, hkr, hsr, h]; rfl
  rw [e]
  refine ⟨ho, ?_⟩
  unfold jrR
  rw [if_pos ho, hn, hc, hkr, hsr]
theorem jrnL_B (m : Jm) : isB (jrnL m) := by
  unfold jrnL
  by_cases h : journalB m.key m.l m.safe = true
  · rw [if_pos h]
    obtain ⟨hk, hl, hs0, hs1⟩ := journal_facts h
    have hkk : 0 ≤ m.key ∧ m.key < 1000000 := by unfold keyB at hk; simp at hk; omega
    intro x hx
    rcases List.mem_append.1 hx with hx | hx
    · unfold jHead at hx
      simp only [List.mem_cons, List.not_mem_nil, or_false] at hx
      rcases hx with rfl | rfl | rfl | rfl <;> omega
    · unfold cmdsTo at hx
      rw [List.take_length] at hx
      obtain ⟨c, hc, hx⟩ := List.mem_flatMap.1 hx
      obtain ⟨t, ht, e⟩ := getD_mem (d := ((0, 0, 0) : Cd)) hc
      obtain ⟨x0, y0, u0⟩ := c
      have hh := cmd_ok h ht e
      unfold cmdL at hx
      simp only [List.mem_cons, List.not_mem_nil, or_false] at hx
      rcases hx with rfl | rfl | rfl <;> omega
  · rw [if_neg h]; intro x hx; cases hx
theorem cmds_fl (L : List Int) : ∀ n, 4 + 3 * n ≤ L.length → (cmdsR L n).flatMap cmdL = (L.drop 4).take (3 * n)
  | 0, _ => by simp [cmdsR]
  | n + 1, h => by
    rw [cmdsR_succ, List.flatMap_append, cmds_fl L n (by omega)]
    have e : 3 * (n + 1) = 3 * n + 3 := by omega
    rw [e]
    apply List.ext_getElem?
    intro i
    by_cases hi : i < 3 * n
    · rw [List.getElem?_append_left (by simp; omega), List.getElem?_take, List.getElem?_take, if_pos hi, if_pos (by omega)]
    · rw [List.getElem?_append_right (by simp; omega), List.getElem?_take]
      have hlen : ((L.drop 4).take (3 * n)).length = 3 * n := by simp; omega
      rw [hlen]
      by_cases hi3 : i < 3 * n + 3
      · rw [if_pos hi3, List.getElem?_drop]
        have hc : i - 3 * n = 0 ∨ i - 3 * n = 1 ∨ i - 3 * n = 2 := by omega
        have g : ∀ j, j < 3 → i - 3 * n = j → L[4 + i]? = some (L.getD (4 + 3 * n + j) 0) := fun j hj hh => by
          have : 4 + i = 4 + 3 * n + j := by omega
          rw [this, List.getD_eq_getElem?_getD, List.getElem?_eq_getElem (by omega)]; rfl
        rcases hc with hc | hc | hc
        · rw [g 0 (by decide) hc, hc]; rfl
        · rw [g 1 (by decide) hc, hc]; rfl
        · rw [g 2 (by decide) hc, hc]; rfl
      · rw [if_neg hi3, List.getElem?_eq_none (by simp [cmdL]; omega)]
theorem jrn_there {L : List Int} (hB : isB L) (h : okJ L = true) : journalB (jrR L).key (jrR L).l (jrR L).safe = true ∧ jrnL (jrR L) = L := by
  have hl := okJ_long h
  have hj : journalB (keyR L) (cmdsR L (numR L)) (L.getD 3 0) = true := by unfold okJ at h; rw [Bool.and_eq_true] at h; exact h.2
  have e : jrR L = ⟨keyR L, cmdsR L (numR L), L.getD 3 0⟩ := by unfold jrR; rw [if_pos h]
  rw [e]
  refine ⟨hj, ?_⟩
  unfold jrnL
  dsimp only
  rw [if_pos hj, cmdsR_len]
  have hn : 4 + 3 * numR L = L.length := by unfold numR; omega
  unfold cmdsTo
  rw [List.take_of_length_le (by rw [cmdsR_len]; exact Nat.le_refl _), cmds_fl L (numR L) (by omega), List.take_of_length_le (by simp; omega)]
  have hb : ∀ j, j < 4 → 0 ≤ L.getD j 0 ∧ L.getD j 0 ≤ 255 := fun j hj => by
    rw [List.getD_eq_getElem?_getD, List.getElem?_eq_getElem (by omega)]
    exact hB _ (List.getElem_mem _)
  have b0 := hb 0 (by decide)
  have b1 := hb 1 (by decide)
  have b2 := hb 2 (by decide)
  have hh : jHead (keyR L) (L.getD 3 0) = L.take 4 := by
    unfold jHead keyR
    have e0 : (L.getD 0 0 * 65536 + L.getD 1 0 * 256 + L.getD 2 0) / 65536 = L.getD 0 0 := by omega
    have e1 : (L.getD 0 0 * 65536 + L.getD 1 0 * 256 + L.getD 2 0) / 256 % 256 = L.getD 1 0 := by omega
    have e2 : (L.getD 0 0 * 65536 + L.getD 1 0 * 256 + L.getD 2 0) % 256 = L.getD 2 0 := by omega
    rw [e0, e1, e2]
    match L, hl with
    | [], hl => simp at hl
    | [a], hl => simp at hl
    | [a, b], hl => simp at hl
    | [a, b, c], hl => simp at hl
    | a :: b :: c :: d :: X, _ => rfl
  rw [hh, List.take_append_drop]
theorem run_pre {cs : List Cd} {c : Cd} : ∀ q, q ≤ cs.length → runTo (cs ++ [c]) q = runTo cs q := fun q h => by
  unfold runTo
  rw [List.take_append_of_le_length h]
theorem ring_pre {cs : List Cd} {c : Cd} : ∀ q, q ≤ cs.length → ringR (cs ++ [c]) q = ringR cs q
  | 0, _ => rfl
  | q + 1, h => by
    unfold ringR
    rw [ring_pre q (by omega)]
    unfold servedOf
    rw [run_pre (q + 1) h]
theorem ring_head (cs : List Cd) : ∀ q, (ringR cs q).getD 0 [] = servedOf cs q
  | 0 => rfl
  | q + 1 => by unfold ringR; simp
theorem ring_each {key safe : Int} {cs : List Cd} (h : journalB key cs safe = true) : ∀ q, q ≤ cs.length → ∀ l ∈ ringR cs q, backsOkB l = true
  | 0, _, l, hl => by
    have : l = [] := by simpa [ringR] using hl
    subst this
    exact (served_each h 0 (by omega)).1
  | q + 1, hq, l, hl => by
    unfold ringR at hl
    have hl := List.mem_of_mem_take hl
    rcases List.mem_cons.1 hl with e | hl
    · rw [e]; exact (served_each h (q + 1) (by omega)).1
    · exact ring_each h q (by omega) l hl
theorem ring_pos (cs : List Cd) : ∀ q, 1 ≤ (ringR cs q).length
  | 0 => by simp [ringR]
  | q + 1 => by unfold ringR; simp
theorem replay_pool {m : Jm} (h : journalB m.key m.l m.safe = true) : poolB (replayM m) = true := by
  have e : replayM m = ⟨m.key, servedOf m.l m.l.length, ringT m.key (ringR m.l m.l.length)⟩ := by unfold replayM; rw [if_pos h]
  have hr := ringR_len m.l m.l.length
  have hp := ring_pos m.l m.l.length
  have hlen : (ringT m.key (ringR m.l m.l.length)).length = (ringR m.l m.l.length).length := by simp [ringT]
  have hso := (served_each h m.l.length (by omega)).1
  rw [e]
  refine pool_rest (journal_facts h).1 hso (by dsimp only; omega) (by dsimp only; omega) (fun i hi => ?_) ?_
  · dsimp only at hi ⊢
    rw [ringT_get _ _ _ (by omega)]
    refine tabOk_new m.key (ring_each h m.l.length (Nat.le_refl _) _ ?_)
    rw [List.getD_eq_getElem?_getD, List.getElem?_eq_getElem (by omega)]
    exact List.getElem_mem _
  · dsimp only
    rw [ringT_get _ _ _ (by omega), ring_head]
    unfold movedI
    rw [if_pos ⟨newT_len _ _, newT_len _ _⟩]
    exact moved_none 8 (fun _ _ => rfl)
/-- What is noted is replayed. -/
theorem note_yes {m : Jm} {a i g : Int} (h : noteF m a i g = true) : journalB m.key m.l m.safe = true ∧ journalB (noteM m a i g).key (noteM m a i g).l (noteM m a i g).safe = true ∧ pdoF (replayM m) a i g = true ∧ pdoM (replayM m) a i g = replayM (noteM m a i g) ∧ (noteM m a i g).safe = ((noteM m a i g).l.length : Int) ∧ 1 ≤ (replayM (noteM m a i g)).ring.length ∧ (∀ j, j < (replayM (noteM m a i g)).ring.length → ((replayM (noteM m a i g)).ring.getD j []).length = 8) := by
  unfold noteF at h
  rw [Bool.and_eq_true] at h
  obtain ⟨h1, h2⟩ := h
  have eM : noteM m a i g = ⟨m.key, m.l ++ [(a, i, g)], (m.l.length : Int) + 1⟩ := by unfold noteM; rw [if_pos h1, if_pos h2]
  unfold noteB at h1
  rw [Bool.and_eq_true] at h1
  obtain ⟨hj, hc⟩ := h1
  unfold noteD at h2
  rw [Bool.and_eq_true] at h2
  obtain ⟨hd, h100⟩ := h2
  have hlt : m.l.length < 100 := by simpa using h100
  obtain ⟨l', hl'⟩ := Option.isSome_iff_exists.1 hd
  have hf := journal_facts hj
  have hrun := run_snoc (journal_run hj) hc hl'
  have hj2 : journalB m.key (m.l ++ [(a, i, g)]) ((m.l.length : Int) + 1) = true := by
    unfold journalB
    simp only [Bool.and_eq_true, decide_eq_true_eq]
    refine ⟨⟨⟨⟨hf.1, ?_⟩, ?_⟩, ?_⟩, hrun⟩
    · rw [List.length_append]; simp; omega
    · omega
    · rw [List.length_append]; simp
  have hs2 : servedOf (m.l ++ [(a, i, g)]) (m.l.length + 1) = l' := by
    have hr1 : runTo (m.l ++ [(a, i, g)]) (m.l.length + 1) = stepO (runTo m.l m.l.length) (a, i, g) := by
      rw [runTo_succ (by simp), run_pre _ (Nat.le_refl _)]
      congr 1
      simp
    obtain ⟨l0, hl0⟩ := Option.isSome_iff_exists.1 (journal_run hj)
    have e0 : servedOf m.l m.l.length = l0 := by unfold servedOf; rw [hl0]; rfl
    rw [e0] at hl'
    unfold servedOf
    rw [hr1, hl0]
    unfold stepO
    simp [hc, hl']
  have eR : replayM m = ⟨m.key, servedOf m.l m.l.length, ringT m.key (ringR m.l m.l.length)⟩ := by unfold replayM; rw [if_pos hj]
  have hlen2 : (m.l ++ [(a, i, g)]).length = m.l.length + 1 := by rw [List.length_append]; rfl
  have eN : replayM ⟨m.key, m.l ++ [(a, i, g)], (m.l.length : Int) + 1⟩ = ⟨m.key, l', (newT m.key l' :: ringT m.key (ringR m.l m.l.length)).take 3⟩ := by
    unfold replayM
    dsimp only
    rw [if_pos hj2, hlen2, hs2]
    congr 1
    show ringT m.key (ringR (m.l ++ [(a, i, g)]) (m.l.length + 1)) = _
    have e3 : ringR (m.l ++ [(a, i, g)]) (m.l.length + 1) = (servedOf (m.l ++ [(a, i, g)]) (m.l.length + 1) :: ringR (m.l ++ [(a, i, g)]) m.l.length).take 3 := rfl
    rw [e3, hs2, ring_pre _ (Nat.le_refl _)]
    unfold ringT
    rw [List.map_take, List.map_cons]
  have hpp := replay_pool hj
  have hF : pdoF (replayM m) a i g = true := by
    unfold pdoF
    rw [hpp, hc, eR]
    dsimp only
    rw [hl']
    rfl
  rw [eM]
  refine ⟨hj, hj2, hF, ?_, ?_, ?_⟩
  · rw [eN]
    unfold pdoM
    rw [if_pos (by rw [hpp, hc]; rfl), eR]
    dsimp only
    rw [hl']
  · dsimp only; rw [hlen2]; simp
  · have hq := replay_pool (m := ⟨m.key, m.l ++ [(a, i, g)], (m.l.length : Int) + 1⟩) hj2
    obtain ⟨_, _, f3, _, f5⟩ := pool_facts hq
    exact ⟨f3, fun j hj => (tab_pair (f5 j hj)).1⟩
theorem note_no {m : Jm} {a i g : Int} (h : noteF m a i g = false) : (noteM m a i g).l.length = 0 ∨ noteM m a i g = m := by
  unfold noteF at h
  unfold noteM
  by_cases h1 : noteB m a i g = true
  · right
    rw [h1] at h
    rw [if_pos h1, if_neg (by intro h2; rw [h2] at h; cases h)]
  · left; rw [if_neg h1]; rfl

end Go.Proofs.Ytldjaapbkihibaa

/- What FnJournals asks beside the journals' own: same, sameJournal, its draws. -/
namespace Go.Proofs.Ytldjaapbkihibaa
open Go.ChangeShapes Go.WideShapes Go.ChangeAt Go.RowKit Go.Joins
set_option linter.unusedVariables false
set_option linter.unusedSimpArgs false


set_option maxHeartbeats 400000 in
theorem same_any (o1 o2 : Option Addr) (c1 c2 : Nat) (l1 l2 : List Int) (w : World) (h1 : Rd w o1 l1) (h2 : Rd w o2 l2) (b1 : isB l1) (b2 : isB l2) :
    Calls Try.prog 28 #[.slice o1 l1.length c1, .slice o2 l2.length c2] w fun e w' => e = .returned (.bool (decide (l1 = l2))) ∧ w = w' := by
  have k1 := run_conv c1 h1
  have k2 := run_conv c2 h2
  have HE := hide (str_inj b1 b2)
  go_enter Try.func28, Try.ntmps28
  go_wp2
  go_ret
  exact ⟨ret_bool HE.out, rfl⟩
theorem ownR_other {w w' : World} {base k n s : Nat} {e : TypeId} {v : Value} {xs : List Value} (h : w.ownsRow base e s v n xs) (hg : w.grownBy w' (some k)) (hk : k < base) : w'.ownsRow base e s v n xs :=
  World.ownsRow.kept h hg (by
    cases hob : v.ownBlock with
    | none => exact .inl rfl
    | some j => right; have := (h.lt j hob).1; intro e; simp at e; omega)
theorem RdC.cell {C : Nat} {w : World} {o : Option Addr} {n c : Nat} {l : List Cd} (h : RdV layC C w (.slice o n c) l) (j : Nat) (hj : j < l.length) : ∃ g off, o = some ⟨g, off, none⟩ ∧ g < C ∧ w.cell? ⟨g, off + j * 3, none⟩ = some (.int .i64 (l.getD j (0, 0, 0)).1) ∧ w.cell? ⟨g, off + j * 3 + 1, none⟩ = some (.int .i64 (l.getD j (0, 0, 0)).2.1) ∧ w.cell? ⟨g, off + j * 3 + 2, none⟩ = some (.int .i64 (l.getD j (0, 0, 0)).2.2) := by
  obtain ⟨o1, c1, e, r⟩ := h
  injection e with e1 _ _
  subst e1
  rcases r with r | ⟨b, off, ho, hb, r⟩
  · subst r; exact absurd hj (Nat.not_lt_zero _)
  · exact ⟨b, off, ho, hb, r j hj 0 (by decide), r j hj 1 (by decide), r j hj 2 (by decide)⟩

set_option maxRecDepth 100000 in
set_option maxHeartbeats 8000000 in
theorem sameJournal_sh (v1 v2 : Value) (m : Jm) (w : World) (h1 : RdJm w.heap.size w v1 m) (h2 : RdJm w.heap.size w v2 m) (hf : fitJm m) :
    Calls Try.prog 26 #[v1, v2] w fun e w' => e = .returned (.bool true) ∧ Below w.heap.size w w' := by
  obtain ⟨vb1, rfl, hb1⟩ := h1
  obtain ⟨vb2, rfl, hb2⟩ := h2
  have hb1' := hb1
  have hb2' := hb2
  obtain ⟨o1, c1, rfl, _⟩ := hb1'
  obtain ⟨o2, c2, rfl, _⟩ := hb2'
  unfold fitJm at hf
  have HB1 := hide hb1
  have HB2 := hide hb2
  obtain ⟨key, hkey⟩ : ∃ x, m.key = x := ⟨_, rfl⟩
  obtain ⟨safe, hsafe⟩ : ∃ x, m.safe = x := ⟨_, rfl⟩
  obtain ⟨nb, hnb⟩ : ∃ x, m.l.length = x := ⟨_, rfl⟩
  have HNB := hide hnb
  rw [hkey, hnb, hsafe]
  rw [hnb] at HB1 HB2 hf
  clear hkey hnb hsafe hb1 hb2
  obtain ⟨W0, hW0⟩ : ∃ W, ((w.alloc (.cells #[.int .i64 key, .slice o1 nb c1, .int .i64 safe] 47)).alloc (.cells #[.int .i64 key, .slice o2 nb c2, .int .i64 safe] 47)) = W := ⟨_, rfl⟩
  have hb_W0 : Below w.heap.size w W0 := by rw [← hW0]; exact (((Below.refl _ _).alloc (Nat.le_refl _) _).alloc (by simp <;> omega) _)
  have HB := hide hb_W0
  clear hb_W0
  have zz : w.heap.size < W0.heap.size := by rw [← hW0]; simp <;> omega
  have z0 : W0.cell? ⟨w.heap.size, 0, none⟩ = some (.int .i64 key) := by rw [← hW0]; simp [go_sem]
  have z1 : W0.cell? ⟨w.heap.size, 1, none⟩ = some (.slice o1 nb c1) := by rw [← hW0]; simp [go_sem]
  have z2 : W0.cell? ⟨w.heap.size, 2, none⟩ = some (.int .i64 safe) := by rw [← hW0]; simp [go_sem]
  have zu : w.heap.size + 1 < W0.heap.size := by rw [← hW0]; simp
  have u0 : W0.cell? ⟨w.heap.size + 1, 0, none⟩ = some (.int .i64 key) := by rw [← hW0]; simp [go_sem]
  have u1 : W0.cell? ⟨w.heap.size + 1, 1, none⟩ = some (.slice o2 nb c2) := by rw [← hW0]; simp [go_sem]
  have u2 : W0.cell? ⟨w.heap.size + 1, 2, none⟩ = some (.int .i64 safe) := by rw [← hW0]; simp [go_sem]
  go_enter Try.func26, Try.ntmps26
  go_wp2
  go_loopw [4, 5] (fun rv iv wr => ∃ i : Nat, i ≤ nb ∧ iv = .int .i64 (i : Int) ∧ rv = .bool false ∧ Hid (Below W0.heap.size W0 wr))
    (fun _ iv _ => nb - (intOf iv).toNat)
  case atStart => exact ⟨0, Nat.zero_le _, rfl, rfl, Below.refl _ _⟩
  case round =>
    rename World => wr
    obtain ⟨i, hi', rfl, rfl, HBr⟩ := hrel
    have z1' := bC HBr.out z1 zz
    have u1' := bC HBr.out u1 zu
    have zz' := Nat.lt_of_lt_of_le zz HBr.out.size
    have zu' := Nat.lt_of_lt_of_le zu HBr.out.size
    have HBw := hide (HB.out.trans (HBr.out.mono HB.out.size))
    by_cases hlt : i < nb
    · have hlt' : (i : Int) < (nb : Int) := by omega
      obtain ⟨g1, f1, rfl, hg1, a0, a1, a2⟩ := RdC.cell HB1.out i (by rw [HNB.out]; exact hlt)
      obtain ⟨g2, f2, rfl, hg2, b0, b1, b2⟩ := RdC.cell HB2.out i (by rw [HNB.out]; exact hlt)
      have G0 := Grown.cell z1' zz'
      have G1 := Grown.cell u1' zu'
      have Ga0 := Grown.cell (bC HBw.out a0 hg1) (Nat.lt_of_lt_of_le hg1 HBw.out.size)
      have Ga1 := Grown.cell (bC HBw.out a1 hg1) (Nat.lt_of_lt_of_le hg1 HBw.out.size)
      have Ga2 := Grown.cell (bC HBw.out a2 hg1) (Nat.lt_of_lt_of_le hg1 HBw.out.size)
      have Gb0 := Grown.cell (bC HBw.out b0 hg2) (Nat.lt_of_lt_of_le hg2 HBw.out.size)
      have Gb1 := Grown.cell (bC HBw.out b1 hg2) (Nat.lt_of_lt_of_le hg2 HBw.out.size)
      have Gb2 := Grown.cell (bC HBw.out b2 hg2) (Nat.lt_of_lt_of_le hg2 HBw.out.size)
      clear a0 a1 a2 b0 b1 b2
      generalize m.l.getD i (0, 0, 0) = d at *
      obtain ⟨d0, d1, d2⟩ := d
      dsimp only at Ga0 Ga1 Ga2 Gb0 Gb1 Gb2
      go_wp2
      (refine wp_region_grown (by kernel_rfl) (by kernel_rfl) ?_; intro hne9; (repeat (go_big_quiet_step (fail))); (with_reducible refine wpQuiet_nil ?_); intro _ hw9; obtain ⟨pq, hw8⟩ := hw9; subst hw8)
      have HB9 := hide (HBr.out.trans (pq.b.mono HBr.out.size))
      go_wp2
      go_roundw
      case rel => exact ⟨i + 1, by omega, by go_num, rfl, HB9.out⟩
      case measure => simp [intOf]; omega
    · have e : i = nb := by omega
      subst e
      go_wp2
      go_ret
      exact ⟨rfl, HBw.out⟩

set_option maxRecDepth 100000 in
set_option maxHeartbeats 4000000 in
theorem drawJB_any (o : Option Addr) (cap : Nat) (l : List Int) (w : World) (hR : Rd w o l) (hB8 : isB l) (hm : l.length ≤ maxLen) :
    Calls Try.prog 21 #[.slice o l.length cap] w fun e w' => ∃ v m, e = .returned v ∧ InJm w.heap.size w'.heap.size w' v m ∧ m.l.length ≤ 11 ∧ Below w.heap.size w w' := by
  obtain ⟨W0, hW0⟩ : ∃ W, w.alloc (.cells #[.int .i64 0, .slice none 0 0, .int .i64 0] 47) = W := ⟨_, rfl⟩
  have hb0 : Below w.heap.size w W0 := by rw [← hW0]; exact (Below.refl _ _).alloc (Nat.le_refl _) _
  have HR0 : Hid (W0.heap[w.heap.size]? = some (.cells #[.int .i64 0, .slice none 0 0, .int .i64 0] 47 (0, 0))) := by rw [← hW0]; exact World.alloc_heap_new w _
  have hs0 : w.heap.size < W0.heap.size := by rw [← hW0]; simp
  have HNW := hide (l1New_any o cap l W0 (hR.kept hb0) hB8 hm)
  have HB0 := hide hb0
  clear hR hb0
  go_enter Try.func21, Try.ntmps21
  go_wp2_with fail
  refine HNW.out.mono ?_
  rintro e w1 ⟨rfl, hc1, hb1, hs1⟩
  obtain ⟨K, hK⟩ : ∃ K, W0.heap.size = K := ⟨_, rfl⟩
  have HR1 := hide ((hb1.block _ (by omega)).trans HR0.out)
  skip
  have HB1 := hide (HB0.out.trans (hb1.mono HB0.out.size))
  simp only [hK] at hs0 hs1 hc1 ⊢
  have HC1 := hide hc1
  clear hb1 hc1 HR0 HB0 HNW hK
  go_wp2_with fail
  refine (l4bentJ_any K w1 HC1.out hs1).mono ?_
  rintro e w2 ⟨v, ⟨key, cs, s⟩, rfl, ⟨vl, rfl, hin⟩, hl11, hd2⟩
  obtain ⟨o2, c2, e1, _⟩ := ownL.open (L := layC) hin.1
  subst e1
  dsimp only at hin hl11 ⊢
  obtain ⟨n, hn⟩ : ∃ n, cs.length = n := ⟨_, rfl⟩
  rw [hn] at hin ⊢
  have HW2 := hide hin.1
  have HR2 := hide (grown_box hd2.gr (show w.heap.size < w1.heap.size by omega) (by omega) HR1.out)
  skip
  have HB2 := hide (show Below w.heap.size w w2 from ⟨hd2.gr.os.trans HB1.out.os, hd2.gr.tape.trans HB1.out.tape, hd2.gr.output.trans HB1.out.output, Nat.le_trans HB1.out.size hd2.gr.size, fun q hq => (hd2.gr.block q (Nat.lt_of_lt_of_le hq HB1.out.size) (by simp; omega)).trans (HB1.out.block q hq)⟩)
  have HC2 := hide hd2.cur
  have hs21 : w1.heap.size ≤ w2.heap.size := hd2.gr.size
  have HN := hide hn
  clear hin hd2 HR1 HB1 HC1 hn
  have hr3 := HR2.out
  have HO6 := hide (own_mono (own_putJ (own_putJ (own_putJ HW2.out hr3 0 (.int .i64 key)) (box_put hr3 0 (.int .i64 key)) 1 (.slice o2 n c2)) (box_put (box_put hr3 0 (.int .i64 key)) 1 (.slice o2 n c2)) 2 (.int .i64 s)) (show w.heap.size ≤ w1.heap.size by omega))
  have r0 : w2.cell? ⟨w.heap.size, 0, none⟩ = some (.int .i64 0) := bx_cell hr3 0 _ rfl
  have fr0 : w2.frozen? ⟨w.heap.size, 0, none⟩ = false := bx_frozen hr3 0
  have r1 : w2.cell? ⟨w.heap.size, 1, none⟩ = some (.slice none 0 0) := bx_cell hr3 1 _ rfl
  have fr1 : w2.frozen? ⟨w.heap.size, 1, none⟩ = false := bx_frozen hr3 1
  have r2 : w2.cell? ⟨w.heap.size, 2, none⟩ = some (.int .i64 0) := bx_cell hr3 2 _ rfl
  have fr2 : w2.frozen? ⟨w.heap.size, 2, none⟩ = false := bx_frozen hr3 2
  clear hr3 HR2 HW2 HC2
  go_wp2
  refine bodyPost_ret (v := jrn key (.slice o2 n c2) s) (by simp [results, Try.results21, go_sem, r0, r1, r2]) rfl ?_
  first
    | exact ⟨_, ⟨key, cs, s⟩, rfl, ⟨_, rfl, InRow.of HO6.out⟩, hl11, setP_below HB2.out (Nat.le_refl _) _ _ _⟩
    | exact ⟨_, rfl, ⟨⟨key, cs, s⟩, ⟨_, rfl, InRow.of HO6.out⟩, hl11⟩, setP_below HB2.out (Nat.le_refl _) _ _ _⟩
    | exact ⟨_, rfl, ⟨key, cs, s⟩, ⟨_, rfl, InRow.of HO6.out⟩, hl11, setP_below HB2.out (Nat.le_refl _) _ _ _⟩

set_option maxRecDepth 100000 in
set_option maxHeartbeats 4000000 in
theorem drawNote_any (o : Option Addr) (cap : Nat) (l : List Int) (w : World) (hR : Rd w o l) (hB8 : isB l) (hm : l.length ≤ maxLen) :
    Calls Try.prog 29 #[.slice o l.length cap] w fun e w' => ∃ v m a i g, e = .returned (.tuple #[v, cmd a i g]) ∧ InJm w.heap.size w'.heap.size w' v m ∧ m.l.length ≤ 11 ∧ Below w.heap.size w w' := by
  obtain ⟨W0, hW0⟩ : ∃ W, (w.alloc (.cells #[.int .i64 0, .slice none 0 0, .int .i64 0] 47)).alloc (.cells #[.int .i64 0, .int .i64 0, .int .i64 0] 28) = W := ⟨_, rfl⟩
  have hb0 : Below w.heap.size w W0 := by rw [← hW0]; exact (((Below.refl _ _).alloc (Nat.le_refl _) _).alloc (by simp <;> omega) _)
  have HR0 : Hid (W0.heap[w.heap.size]? = some (.cells #[.int .i64 0, .slice none 0 0, .int .i64 0] 47 (0, 0))) := by rw [← hW0]; exact box_old2 w _ _ _
  have HK0 : Hid (W0.heap[w.heap.size + 1]? = some (.cells #[.int .i64 0, .int .i64 0, .int .i64 0] 28 (0, 0))) := by rw [← hW0]; exact box_new2 w _ _ _
  have hs0 : w.heap.size + 1 < W0.heap.size := by rw [← hW0]; simp
  have HNW := hide (l1New_any o cap l W0 (hR.kept hb0) hB8 hm)
  have HB0 := hide hb0
  clear hR hb0
  go_enter Try.func29, Try.ntmps29
  go_wp2_with fail
  refine HNW.out.mono ?_
  rintro e w1 ⟨rfl, hc1, hb1, hs1⟩
  obtain ⟨K, hK⟩ : ∃ K, W0.heap.size = K := ⟨_, rfl⟩
  have HR1 := hide ((hb1.block _ (by omega)).trans HR0.out)
  have HK1 := hide ((hb1.block _ (by omega)).trans HK0.out)
  have HB1 := hide (HB0.out.trans (hb1.mono HB0.out.size))
  simp only [hK] at hs0 hs1 hc1 ⊢
  have HC1 := hide hc1
  clear hb1 hc1 HR0 HB0 HNW hK
  go_wp2_with fail
  refine (l4bentJ_any K w1 HC1.out hs1).mono ?_
  rintro e w2 ⟨v, ⟨key, cs, s⟩, rfl, ⟨vl, rfl, hin⟩, hl11, hd2⟩
  obtain ⟨o2, c2, e1, _⟩ := ownL.open (L := layC) hin.1
  subst e1
  dsimp only at hin hl11 ⊢
  obtain ⟨n, hn⟩ : ∃ n, cs.length = n := ⟨_, rfl⟩
  rw [hn] at hin ⊢
  have HW2 := hide hin.1
  have HR2 := hide (grown_box hd2.gr (show w.heap.size < w1.heap.size by omega) (by omega) HR1.out)
  have HK2 := hide (grown_box hd2.gr (show w.heap.size + 1 < w1.heap.size by omega) (by omega) HK1.out)
  have HB2 := hide (show Below w.heap.size w w2 from ⟨hd2.gr.os.trans HB1.out.os, hd2.gr.tape.trans HB1.out.tape, hd2.gr.output.trans HB1.out.output, Nat.le_trans HB1.out.size hd2.gr.size, fun q hq => (hd2.gr.block q (Nat.lt_of_lt_of_le hq HB1.out.size) (by simp; omega)).trans (HB1.out.block q hq)⟩)
  have HC2 := hide hd2.cur
  have hs21 : w1.heap.size ≤ w2.heap.size := hd2.gr.size
  have HN := hide hn
  clear hin hd2 HR1 HB1 HC1 hn HK1
  go_wp2_with fail
  refine (l4bentCmd_any K w2 HC2.out (by omega)).mono ?_
  rintro e w3 ⟨a, i, g, rfl, hd3⟩
  have hr3 := grown_box hd3.gr (show w.heap.size < w2.heap.size by omega) (by omega) HR2.out
  have hk3 := grown_box hd3.gr (show w.heap.size + 1 < w2.heap.size by omega) (by omega) HK2.out
  have HW3 := ownR_other HW2.out hd3.gr hs1
  have HB3 := hide (show Below w.heap.size w w3 from ⟨hd3.gr.os.trans HB2.out.os, hd3.gr.tape.trans HB2.out.tape, hd3.gr.output.trans HB2.out.output, Nat.le_trans HB2.out.size hd3.gr.size, fun q hq => (hd3.gr.block q (Nat.lt_of_lt_of_le hq HB2.out.size) (by simp; omega)).trans (HB2.out.block q hq)⟩)
  have HO6 := own_putJ (own_putJ (own_putJ HW3 hr3 0 (.int .i64 key)) (box_put hr3 0 (.int .i64 key)) 1 (.slice o2 n c2)) (box_put (box_put hr3 0 (.int .i64 key)) 1 (.slice o2 n c2)) 2 (.int .i64 s)
  have HO9 := hide (own_mono (own_low (own_low (own_low HO6 (show w.heap.size + 1 < w1.heap.size by omega) 0 (.int .i64 a)) (show w.heap.size + 1 < w1.heap.size by omega) 1 (.int .i64 i)) (show w.heap.size + 1 < w1.heap.size by omega) 2 (.int .i64 g)) (show w.heap.size ≤ w1.heap.size by omega))
  have r0 : w3.cell? ⟨w.heap.size, 0, none⟩ = some (.int .i64 0) := bx_cell hr3 0 _ rfl
  have fr0 : w3.frozen? ⟨w.heap.size, 0, none⟩ = false := bx_frozen hr3 0
  have r1 : w3.cell? ⟨w.heap.size, 1, none⟩ = some (.slice none 0 0) := bx_cell hr3 1 _ rfl
  have fr1 : w3.frozen? ⟨w.heap.size, 1, none⟩ = false := bx_frozen hr3 1
  have r2 : w3.cell? ⟨w.heap.size, 2, none⟩ = some (.int .i64 0) := bx_cell hr3 2 _ rfl
  have fr2 : w3.frozen? ⟨w.heap.size, 2, none⟩ = false := bx_frozen hr3 2
  have q0 : w3.cell? ⟨w.heap.size + 1, 0, none⟩ = some (.int .i64 0) := bx_cell hk3 0 _ rfl
  have fq0 : w3.frozen? ⟨w.heap.size + 1, 0, none⟩ = false := bx_frozen hk3 0
  have q1 : w3.cell? ⟨w.heap.size + 1, 1, none⟩ = some (.int .i64 0) := bx_cell hk3 1 _ rfl
  have fq1 : w3.frozen? ⟨w.heap.size + 1, 1, none⟩ = false := bx_frozen hk3 1
  have q2 : w3.cell? ⟨w.heap.size + 1, 2, none⟩ = some (.int .i64 0) := bx_cell hk3 2 _ rfl
  have fq2 : w3.frozen? ⟨w.heap.size + 1, 2, none⟩ = false := bx_frozen hk3 2
  clear hd3 hr3 hk3 HR2 HK2 HB2 HC2 HW2 HW3 HO6
  go_wp2
  refine bodyPost_ret (v := .tuple #[jrn key (.slice o2 n c2) s, cmd a i g]) (by simp [results, Try.results29, go_sem, r0, r1, r2, q0, q1, q2]) rfl ⟨_, ⟨key, cs, s⟩, a, i, g, rfl, ⟨_, rfl, InRow.of HO9.out⟩, hl11, setP_below (setP_below HB3.out (Nat.le_refl _) _ _ _) (Nat.le_succ _) _ _ _⟩

theorem rd_takeB {w : World} {o : Option Addr} {L : List Int} (h : Rd w o L) (i : Nat) : Rd w o (L.take i) := by
  rcases h with h | ⟨b, off, ho, hb, r⟩
  · left; rw [h]; simp
  · right
    refine ⟨b, off, ho, hb, fun j hj => ?_⟩
    have hj' : j < i ∧ j < L.length := by rw [List.length_take] at hj; omega
    rw [take_getD _ _ _ _ hj'.1]
    exact r j hj'.2
theorem isB_take {L : List Int} (h : isB L) (i : Nat) : isB (L.take i) := fun x hx => h x (List.mem_of_mem_take hx)
theorem isB_set {L : List Int} (h : isB L) (i : Nat) (y : Int) (h0 : 0 ≤ y) (h1 : y ≤ 255) : isB (L.set i y) := fun x hx => by
  rcases List.mem_or_eq_of_mem_set hx with hx | rfl
  · exact h x hx
  · exact ⟨h0, h1⟩
/-- Bytes that are handed over. -/
def HasB (w : World) (e : Ending) (w' : World) : Prop := ∃ o cap L, e = .returned (.slice o L.length cap) ∧ Rd w' o L ∧ isB L ∧ L.length ≤ 1000 ∧ Below w.heap.size w w'
set_option maxRecDepth 100000 in
set_option maxHeartbeats 8000000 in
theorem drawJRead_any (o : Option Addr) (cap : Nat) (l : List Int) (w : World) (hR : Rd w o l) (hB8 : isB l) (hm : l.length ≤ maxLen) :
    Calls Try.prog 27 #[.slice o l.length cap] w fun e w' => HasB w e w' := by
  have HNW := hide (l1New_any o cap l w hR hB8 hm)
  clear hR hm hB8
  go_enter Try.func27, Try.ntmps27
  go_wp2_with fail
  refine HNW.out.mono ?_
  rintro e w1 ⟨rfl, hc1, hb1, hs1⟩
  obtain ⟨K, hK⟩ : ∃ K, w.heap.size = K := ⟨_, rfl⟩
  have HB1 := hide hb1
  have HKK := hide hK
  simp only [hK] at hs1 hc1 ⊢
  have HC1 := hide hc1
  clear hb1 hc1 HNW hK
  go_wp2_with fail
  refine (l4drawJ_any K w1 HC1.out hs1).mono ?_
  rintro e w2 ⟨v, ⟨key, cs, s⟩, rfl, ⟨vl, rfl, hin⟩, hj, hl10, hd2⟩
  obtain ⟨o2, c2, e1, _⟩ := ownL.open (L := layC) hin.1
  subst e1
  dsimp only at hin hl10 hj ⊢
  have HB2 := hide (show Below w.heap.size w w2 from ⟨hd2.gr.os.trans HB1.out.os, hd2.gr.tape.trans HB1.out.tape, hd2.gr.output.trans HB1.out.output, Nat.le_trans HB1.out.size hd2.gr.size, fun q hq => (hd2.gr.block q (Nat.lt_of_lt_of_le hq HB1.out.size) (by have := HKK.out; simp; omega)).trans (HB1.out.block q hq)⟩)
  have HC2 := hide hd2.cur
  have hs2 : K < w2.heap.size := Nat.lt_of_lt_of_le hs1 hd2.gr.size
  have HBY := hide (l4bytes_any key s o2 c2 cs w2 (ownL.rds (L := layC) hin.1) hj)
  have HIB : Hid (isB (jHead key s ++ cmdsTo cs cs.length)) := by
    have h := jrnL_B ⟨key, cs, s⟩
    unfold jrnL at h
    dsimp only at h
    rw [if_pos hj] at h
    exact h
  have hlen : (jHead key s ++ cmdsTo cs cs.length).length = 4 + 3 * cs.length := by rw [List.length_append, cmdsTo_length cs cs.length (Nat.le_refl _)]; rfl
  obtain ⟨L, hL⟩ : ∃ L, jHead key s ++ cmdsTo cs cs.length = L := ⟨_, rfl⟩
  rw [hL] at HBY HIB hlen
  obtain ⟨n, hn⟩ : ∃ n, cs.length = n := ⟨_, rfl⟩
  rw [hn] at HBY ⊢
  obtain ⟨nl, hnl⟩ : ∃ n, L.length = n := ⟨_, rfl⟩
  have hn4 : 4 ≤ nl ∧ nl ≤ 34 := by omega
  have HNL := hide hnl
  clear hin hd2 HB1 HC1 hj hL hlen hnl hl10 hn
  go_wp2_with fail
  refine HBY.out.mono ?_
  rintro e w3 ⟨v, rfl, ow3, hb3⟩
  obtain ⟨g, cg, hve, hgb⟩ := ownB.pos ow3 (by rw [HNL.out]; omega)
  rw [HNL.out] at hve
  subst hve
  have HB3 := hide (HB2.out.trans (hb3.mono HB2.out.size))
  have HC3 := hide (HC2.out.below (hb3.mono hs2))
  have HW3 := hide ow3
  have hs3 : w2.heap.size ≤ w3.heap.size := hb3.size
  clear ow3 hb3 HB2 HC2 HBY
  go_wp2_with fail
  refine (l1Once_any K 3 w3 HC3.out (by decide) (by decide)).mono ?_
  rintro e w4 ⟨yes, rfl, hc4, hg4⟩
  have HB4 := hide (show Below w.heap.size w w4 from ⟨hg4.os.trans HB3.out.os, hg4.tape.trans HB3.out.tape, hg4.output.trans HB3.out.output, Nat.le_trans HB3.out.size hg4.size, fun q hq => (hg4.block q (Nat.lt_of_lt_of_le hq HB3.out.size) (by have := HKK.out; simp; omega)).trans (HB3.out.block q hq)⟩)
  have HC4 := hide hc4
  have HW4 := hide (ownR_other HW3.out hg4 hs2)
  have hs4 : w3.heap.size ≤ w4.heap.size := hg4.size
  clear hc4 hg4 HB3 HC3 HW3
  cases yes with
  | false =>
    go_wp2
    go_ret
    exact ⟨_, _, L, by rw [HNL.out]; rfl, ownB.rdo HW4.out, HIB.out, by have := HNL.out; omega, HB4.out⟩
  | true =>
    have hnp : (0 : Int) < (nl : Int) := by omega
    go_wp2_with fail
    refine (l1Below_any K (nl : Int) w4 HC4.out hnp (by omega)).mono ?_
    rintro e w5 ⟨i0, rfl, hi0, hi1, hc5, hg5⟩
    obtain ⟨i, rfl⟩ : ∃ i : Nat, i0 = (i : Int) := ⟨i0.toNat, by omega⟩
    have HB5 := hide (show Below w.heap.size w w5 from ⟨hg5.os.trans HB4.out.os, hg5.tape.trans HB4.out.tape, hg5.output.trans HB4.out.output, Nat.le_trans HB4.out.size hg5.size, fun q hq => (hg5.block q (Nat.lt_of_lt_of_le hq HB4.out.size) (by have := HKK.out; simp; omega)).trans (HB4.out.block q hq)⟩)
    have HC5 := hide hc5
    have HW5 := hide (ownR_other HW4.out hg5 hs2)
    have hs5 : w4.heap.size ≤ w5.heap.size := hg5.size
    clear hc5 hg5 HB4 HC4 HW4
    go_wp2_with fail
    refine (l1Below_any K 3 w5 HC5.out (by decide) (by decide)).mono ?_
    rintro e w6 ⟨x, rfl, hx0, hx1, hc6, hg6⟩
    have HB6 := hide (show Below w.heap.size w w6 from ⟨hg6.os.trans HB5.out.os, hg6.tape.trans HB5.out.tape, hg6.output.trans HB5.out.output, Nat.le_trans HB5.out.size hg6.size, fun q hq => (hg6.block q (Nat.lt_of_lt_of_le hq HB5.out.size) (by have := HKK.out; simp; omega)).trans (HB5.out.block q hq)⟩)
    have HC6 := hide hc6
    have HW6 := hide (ownR_other HW5.out hg6 hs2)
    have hs6 : w5.heap.size ≤ w6.heap.size := hg6.size
    clear hc6 hg6 HB5 HC5 HW5
    have hil : i < nl := by omega
    by_cases e0 : x = 0
    · subst e0
      go_wp2_with fail
      refine (l1Below_any K 12 w6 HC6.out (by decide) (by decide)).mono ?_
      rintro e w7 ⟨y, rfl, hy0, hy1, hc7, hg7⟩
      have HB7 := hide (show Below w.heap.size w w7 from ⟨hg7.os.trans HB6.out.os, hg7.tape.trans HB6.out.tape, hg7.output.trans HB6.out.output, Nat.le_trans HB6.out.size hg7.size, fun q hq => (hg7.block q (Nat.lt_of_lt_of_le hq HB6.out.size) (by have := HKK.out; simp; omega)).trans (HB6.out.block q hq)⟩)
      have how7 := ownR_other HW6.out hg7 hs2
      have hcl : w7.cell? ⟨g, i, none⟩ = some (.int .u8 (L.getD i 0)) := by
        have h7 : w7.ownsRow w2.heap.size 5 1 (.slice (some ⟨g, 0, none⟩) nl cg) nl (L.map (Value.int .u8)) := by have h := how7; rw [HNL.out] at h; exact h
        rw [h7.cellAt i (by omega)]
        simp [show i < L.length by rw [HNL.out]; exact hil]
      have hfz : w7.frozen? ⟨g, i, none⟩ = false := by
        have h7 : w7.ownsRow w2.heap.size 5 1 (.slice (some ⟨g, 0, none⟩) nl cg) nl (L.map (Value.int .u8)) := by have h := how7; rw [HNL.out] at h; exact h
        exact World.ownsRow.frozenAt h7 i
      have HW8 : Hid (Rd (w7.setCell ⟨g, i, none⟩ (.int .u8 y)) (some ⟨g, 0, none⟩) (L.set i y)) := by
        have h7 : w7.ownsRow w2.heap.size 5 1 (.slice (some ⟨g, 0, none⟩) nl cg) nl (L.map (Value.int .u8)) := by have h := how7; rw [HNL.out] at h; exact h
        have h := (World.ownsRow.stored h7 i (.int .u8 y)).1
        rw [← List.map_set] at h
        have h2 : ownB (w7.setCell ⟨g, i, none⟩ (.int .u8 y)) w2.heap.size (.slice (some ⟨g, 0, none⟩) nl cg) (L.set i y) := by unfold ownB; rw [List.length_set, HNL.out]; exact h
        exact ownB.rdo h2
      have HB8 := hide (HB7.out.setCell (p := ⟨g, i, none⟩) (show w.heap.size ≤ g by have := HKK.out; omega) (.int .u8 y))
      have f1 : IntKind.u8.wrap y = y := u8w _ (by omega) (by omega)
      clear hc7 hg7 how7
      go_wp2
      go_ret
      exact ⟨_, _, L.set i y, by rw [List.length_set, HNL.out]; rfl, HW8.out, isB_set HIB.out i y hy0 (by omega), by rw [List.length_set, HNL.out]; omega, HB8.out⟩
    by_cases e1 : x = 1
    · subst e1
      have hic : i ≤ cg := by
        have h := (own_roomT (L := layB) (ownB_lay.1 HW6.out)).1
        have := HNL.out
        omega
      go_wp2
      go_ret
      exact ⟨_, _, L.take i, by rw [List.length_take, HNL.out, Nat.min_eq_left (by omega)]; rfl, rd_takeB (ownB.rdo HW6.out) i, isB_take HIB.out i, by rw [List.length_take, HNL.out]; omega, HB6.out⟩
    · have HL1 : Hid (L.length + [(0 : Int), 1, 2].length ≤ 1099511627776) := by unfold Hid; rw [HNL.out]; simp; omega
      go_wp2_with (at_builtin; refine wpList_append_bytes rfl (.tmp 19) (.tmp 20) rfl w2.heap.size _ L rfl (World.ownsRow.alloc HW6.out _) (some ⟨w6.heap.size, 0, none⟩) 3 [0, 1, 2] rfl (fun h => by cases h) (rd_byte3A w6 0 1 2) HL1.out (by simp; omega) ?_)
      intro v9 w9 ho9 hg9 hb9
      obtain ⟨o9, c9, e9, hr9⟩ := ownB.open ho9
      subst e9
      have HB9 := hide (HB6.out.trans (((Below.refl _ _).alloc (Nat.le_refl _) _ |>.mono HB6.out.size).trans (hb9.mono (show w.heap.size ≤ w2.heap.size by have := HKK.out; omega))))
      have HR9 := hide hr9
      clear ho9 hg9 hb9 hr9
      go_wp2
      go_ret
      exact ⟨_, _, L ++ [0, 1, 2], rfl, HR9.out, by
        intro q hq
        rcases List.mem_append.1 hq with hq | hq
        · exact HIB.out q hq
        · simp at hq
          rcases hq with rfl | rfl | rfl <;> omega, by rw [List.length_append, HNL.out]; simp; omega, HB9.out⟩

end Go.Proofs.Ytldjaapbkihibaa

