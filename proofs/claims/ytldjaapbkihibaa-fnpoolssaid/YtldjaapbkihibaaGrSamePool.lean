/- Several texts in one: SDraw4, SDraw5, SDrawH, SDrawK, SDrP, SDrP2, SDrP3, CandMath, DoSaid, SamePool. -/
import Derived.Test.YtldjaapbkihibaaGrSDraw3
import Derived.Deep.RegionLaw
import Derived.OwnWalk
import Derived.Test.YtldjaapbkihibaaSPair2
import Derived.Laws.AppendOwnNone
import Derived.Maps.AppendAt
import Derived.Test.YtldjaapbkihibaaGrSDr4c
import Derived.Test.YtldjaapbkihibaaGrSPools
import Derived.BigQuiet
/- A drawn packet: fields of any size, a body of at most four bytes that is its own. -/
namespace Go.Proofs.Ytldjaapbkihibaa
open Go.ChangeShapes Go.WideShapes Go.ChangeAt Go.RowKit Go.Joins
set_option linter.unusedVariables false
set_option linter.unusedSimpArgs false

theorem boxed.other {k q : Nat} {a b f s : Int} {v : Value} {w w' : World} (h : boxed q a b f s v w) (hg : w.grownBy w' (some k)) (hq : q < w.heap.size) (hne : q ≠ k) : boxed q a b f s v w' := by
  have e : ∀ o, w'.cell? ⟨q, o, none⟩ = w.cell? ⟨q, o, none⟩ := fun o => grown_cell hg hq hne
  exact ⟨(e 0).trans h.1, (e 1).trans h.2.1, (e 2).trans h.2.2.1, (e 3).trans h.2.2.2.1, (e 4).trans h.2.2.2.2⟩
theorem froz_other {k q o : Nat} {w w' : World} (hg : w.grownBy w' (some k)) (hq : q < w.heap.size) (hne : q ≠ k) : w'.frozen? ⟨q, o, none⟩ = w.frozen? ⟨q, o, none⟩ :=
  World.frozen?_of_block (w := w) (hg.block q hq (by simp [hne]))
theorem empty5.other {k q : Nat} {w w' : World} (h : empty5 q w) (hg : w.grownBy w' (some k)) (hq : q < w.heap.size) (hne : q ≠ k) : empty5 q w' :=
  ⟨h.1.other hg hq hne, (froz_other hg hq hne).trans h.2.1, (froz_other hg hq hne).trans h.2.2.1, (froz_other hg hq hne).trans h.2.2.2.1, (froz_other hg hq hne).trans h.2.2.2.2.1, (froz_other hg hq hne).trans h.2.2.2.2.2⟩

theorem boxed.put4 {k : Nat} {a b f s : Int} {v v' : Value} {w : World} (h : boxed k a b f s v w) : boxed k a b f s v' (w.setCell ⟨k, 4, none⟩ v') := by
  refine ⟨?_, ?_, ?_, ?_, World.cell?_setCell_same w _ _ h.2.2.2.2⟩
  · exact (World.cell?_setCell_other w _ _ _ (by simp)).trans h.1
  · exact (World.cell?_setCell_other w _ _ _ (by simp)).trans h.2.1
  · exact (World.cell?_setCell_other w _ _ _ (by simp)).trans h.2.2.1
  · exact (World.cell?_setCell_other w _ _ _ (by simp)).trans h.2.2.2.1
theorem isCur.drew {k : Nat} {w : World} (h : isCur k w) : isCur k w.drew := h.below (Below.drew (Below.refl _ _))
theorem wrap_u8 (n : Int) (h0 : 0 ≤ n) (h1 : n ≤ 255) : IntKind.u8.wrap n = n := by
  simp [IntKind.wrap, IntKind.bits, IntKind.signed]; omega
theorem isB_snoc {L : List Int} {x : Int} (h : isB L) (hx : 0 ≤ x ∧ x ≤ 255) : isB (L ++ [x]) := by
  intro z hz
  rcases List.mem_append.1 hz with h1 | h1
  · exact h z h1
  · have : z = x := by simpa using h1
    omega
theorem grown_below {w w1 w2 : World} {k B : Nat} (h : w.grownBy w1 (some k)) (hb : Below B w1 w2) (hB : w.heap.size ≤ B) : w.grownBy w2 (some k) :=
  ⟨hb.os.trans h.os, hb.tape.trans h.tape, hb.output.trans h.output, Nat.le_trans h.size hb.size, fun j hj hne => (hb.block j (by omega)).trans (h.block j hj hne)⟩

theorem put_at {P : Nat} {w w' : World} (h : Below P w w') (o : Nat) (v : Value) : Below P w (w'.setCell ⟨P, o, none⟩ v) :=
  Below.setCell (p := ⟨P, o, none⟩) h (Nat.le_refl P) v
theorem draw_put {B R P k : Nat} {w0 w8 : World} {a b f s : Int} {v v8 : Value} {M : List Int} (hbp : boxed P a b f s v w8) (hfp : w8.frozen? ⟨P, 4, none⟩ = false) (hv8 : ownB w8 B v8 M) (hE : empty5 R w8) (hc : isCur k w8) (hg : w0.grownBy w8 (some k)) (h0 : w0.heap.size ≤ P) (hPB : P < B) (hkP : k < P) (hRP : R < P) (hs : B ≤ w8.heap.size) :
    boxed P a b f s v8 (w8.setCell ⟨P, 4, none⟩ v8) ∧ (w8.setCell ⟨P, 4, none⟩ v8).frozen? ⟨P, 4, none⟩ = false ∧ ownB (w8.setCell ⟨P, 4, none⟩ v8) B v8 M ∧ isCur k (w8.setCell ⟨P, 4, none⟩ v8) ∧ w0.grownBy (w8.setCell ⟨P, 4, none⟩ v8) (some k) ∧ empty5 R (w8.setCell ⟨P, 4, none⟩ v8) ∧ B ≤ (w8.setCell ⟨P, 4, none⟩ v8).heap.size := by
  have hb : Below P w8 (w8.setCell ⟨P, 4, none⟩ v8) := put_at (Below.refl P w8) 4 v8
  exact ⟨hbp.put4, (World.frozen?_setCell _ _ _ _).trans hfp, ownsRow_setCell_below hv8 hPB _, hc.below (hb.mono hkP), grown_below hg hb h0, hE.kept hb hRP, Nat.le_trans hs hb.size⟩

end Go.Proofs.Ytldjaapbkihibaa

/- A drawn packet, bent once in a while: fields of any size, a body of its own. -/
namespace Go.Proofs.Ytldjaapbkihibaa
open Go.ChangeShapes Go.WideShapes Go.ChangeAt Go.RowKit Go.Joins
set_option linter.unusedVariables false
set_option linter.unusedSimpArgs false

/-- A box none of whose five cells is frozen. -/
def free5 (q : Nat) (w : World) : Prop := w.frozen? ⟨q, 0, none⟩ = false ∧ w.frozen? ⟨q, 1, none⟩ = false ∧ w.frozen? ⟨q, 2, none⟩ = false ∧ w.frozen? ⟨q, 3, none⟩ = false ∧ w.frozen? ⟨q, 4, none⟩ = false
theorem free5.other {k q : Nat} {w w' : World} (h : free5 q w) (hg : w.grownBy w' (some k)) (hq : q < w.heap.size) (hne : q ≠ k) : free5 q w' :=
  ⟨(froz_other hg hq hne).trans h.1, (froz_other hg hq hne).trans h.2.1, (froz_other hg hq hne).trans h.2.2.1, (froz_other hg hq hne).trans h.2.2.2.1, (froz_other hg hq hne).trans h.2.2.2.2⟩
theorem free5_new (w : World) (a b f s : Int) (v : Value) (e : TypeId) : free5 w.heap.size (w.alloc (.cells #[.int .i64 a, .int .i64 b, .int .i64 f, .int .i64 s, v] e)) := by
  unfold free5; simp

theorem boxed.put0 {k : Nat} {a b f s : Int} {v : Value} {w : World} (h : boxed k a b f s v w) (z : Int) : boxed k z b f s v (w.setCell ⟨k, 0, none⟩ (.int .i64 z)) := by
  exact ⟨World.cell?_setCell_same w _ _ h.1, (World.cell?_setCell_other w _ _ _ (by simp)).trans h.2.1, (World.cell?_setCell_other w _ _ _ (by simp)).trans h.2.2.1, (World.cell?_setCell_other w _ _ _ (by simp)).trans h.2.2.2.1, (World.cell?_setCell_other w _ _ _ (by simp)).trans h.2.2.2.2⟩
theorem boxed.put1 {k : Nat} {a b f s : Int} {v : Value} {w : World} (h : boxed k a b f s v w) (z : Int) : boxed k a z f s v (w.setCell ⟨k, 1, none⟩ (.int .i64 z)) := by
  exact ⟨(World.cell?_setCell_other w _ _ _ (by simp)).trans h.1, World.cell?_setCell_same w _ _ h.2.1, (World.cell?_setCell_other w _ _ _ (by simp)).trans h.2.2.1, (World.cell?_setCell_other w _ _ _ (by simp)).trans h.2.2.2.1, (World.cell?_setCell_other w _ _ _ (by simp)).trans h.2.2.2.2⟩
theorem boxed.put2 {k : Nat} {a b f s : Int} {v : Value} {w : World} (h : boxed k a b f s v w) (z : Int) : boxed k a b z s v (w.setCell ⟨k, 2, none⟩ (.int .i64 z)) := by
  exact ⟨(World.cell?_setCell_other w _ _ _ (by simp)).trans h.1, (World.cell?_setCell_other w _ _ _ (by simp)).trans h.2.1, World.cell?_setCell_same w _ _ h.2.2.1, (World.cell?_setCell_other w _ _ _ (by simp)).trans h.2.2.2.1, (World.cell?_setCell_other w _ _ _ (by simp)).trans h.2.2.2.2⟩
theorem boxed.put3 {k : Nat} {a b f s : Int} {v : Value} {w : World} (h : boxed k a b f s v w) (z : Int) : boxed k a b f z v (w.setCell ⟨k, 3, none⟩ (.int .i64 z)) := by
  exact ⟨(World.cell?_setCell_other w _ _ _ (by simp)).trans h.1, (World.cell?_setCell_other w _ _ _ (by simp)).trans h.2.1, (World.cell?_setCell_other w _ _ _ (by simp)).trans h.2.2.1, World.cell?_setCell_same w _ _ h.2.2.2.1, (World.cell?_setCell_other w _ _ _ (by simp)).trans h.2.2.2.2⟩
theorem own_lt {w : World} {B n c : Nat} {o : Option Addr} {L : List Int} (h : ownB w B (.slice o n c) L) : ∀ g, o = some ⟨g, 0, none⟩ → g < w.heap.size := by
  intro g hg
  subst hg
  obtain ⟨_, h2⟩ := h
  rcases h2 with ⟨h2, _⟩ | ⟨g', cap, cur, hv, hg', hh, r⟩
  · simp at h2
  · simp at hv
    obtain ⟨rfl, _⟩ := hv
    obtain ⟨hlt, _⟩ := Array.getElem?_eq_some_iff.1 hh
    exact hlt
theorem own_put {w : World} {B n c : Nat} {o : Option Addr} {L : List Int} (h : ownB w B (.slice o n c) L) (P q : Nat) (u : Value) (hP : ∀ g, o = some ⟨g, 0, none⟩ → g < P) : ownB (w.setCell ⟨P, q, none⟩ u) B (.slice o n c) L := by
  obtain ⟨h1, h2⟩ := h
  refine ⟨h1, ?_⟩
  rcases h2 with h2 | ⟨g, cap, cur, hv, hg, hh, r⟩
  · exact Or.inl h2
  · have hlt : g < P := hP g (by simp at hv; exact hv.1)
    exact Or.inr ⟨g, cap, cur, hv, hg, by rw [Below.heap_setCell _ _ _ _ (by simp; omega)]; exact hh, r⟩

end Go.Proofs.Ytldjaapbkihibaa

/- Drawn keys, numbers and flows; and that one alone is its own pair. -/
namespace Go.Proofs.Ytldjaapbkihibaa
open Go.ChangeShapes Go.WideShapes Go.ChangeAt Go.RowKit Go.Joins
set_option linter.unusedVariables false
set_option linter.unusedSimpArgs false

theorem put_overH {B : Nat} {w w' : World} (h : Below B w w') (P o : Nat) (v : Value) (hP : B ≤ P) : Below B w (w'.setCell ⟨P, o, none⟩ v) :=
  Below.setCell (p := ⟨P, o, none⟩) h hP v
theorem pair_one : pairI 5 0 [(3, 1, false)] = [3, 3] := by first | decide | rfl | kernel_rfl
theorem bucketOfI_bd (k a p : Int) : -1 ≤ bucketOfI k a p ∧ bucketOfI k a p < 8 := by
  unfold bucketOfI
  split
  · unfold bucketI; omega
  · omega
theorem bucketOfI_pos (k a p : Int) : decide (0 ≤ bucketOfI k a p) = (keyB k && flowOkB a p) := by
  unfold bucketOfI
  by_cases h : 0 ≤ k ∧ k < 1000000 ∧ flowOkB a p = true
  · rw [if_pos h, keyB_iff.2 ⟨h.1, h.2.1⟩, h.2.2]
    have : 0 ≤ bucketI k a p := by unfold bucketI; omega
    simp [this]
  · rw [if_neg h]
    have : (keyB k && flowOkB a p) = false := by
      rw [Bool.and_eq_false_iff]
      by_cases hk : keyB k = true
      · right
        have := keyB_iff.1 hk
        simp at h
        exact h this.1 this.2
      · left; simpa using hk
    rw [this]; decide
theorem stirI_inj {a b : Int} (h : stirI a = stirI b) : a % 2147483647 = b % 2147483647 := by
  unfold stirI at h
  generalize ha : a % 2147483647 = x at *
  generalize hb : b % 2147483647 = y at *
  have : 0 ≤ x ∧ x < 2147483647 := by omega
  have : 0 ≤ y ∧ y < 2147483647 := by omega
  omega
theorem hashI_next {k x : Int} : hashI k x ≠ hashI k (x + 1) := by
  intro h
  unfold hashI at h
  have h1 := stirI_inj h
  have b1 := stirI_bd (stirI (k + 1) + x)
  have b2 := stirI_bd (stirI (k + 1) + (x + 1))
  have h2 : stirI (stirI (k + 1) + x) = stirI (stirI (k + 1) + (x + 1)) := by
    generalize stirI (stirI (k + 1) + x) = p at *
    generalize stirI (stirI (k + 1) + (x + 1)) = q at *
    omega
  have h3 := stirI_inj h2
  generalize stirI (k + 1) = t at *
  omega

end Go.Proofs.Ytldjaapbkihibaa

/- Drawn lists of backs. -/
namespace Go.Proofs.Ytldjaapbkihibaa
open Go.ChangeShapes Go.WideShapes Go.ChangeAt Go.RowKit Go.Joins
set_option linter.unusedVariables false
set_option linter.unusedSimpArgs false

theorem wpList_append_back {w : World} {ops : Array Oper} {rest : List Oper} {o : Oper} {a : Act} {Q : Exit → Act → World → Prop} (hgd : o.guard = none) (s x : Operand)
    (ho : o.op = .call { callee := .builtin .append, args := #[s, x], argTypes := #[23, 23] }) (base : Nat) (v : Value) (hs : List Bk) (he : a.eval s = v) (hown : ownK w base v hs)
    (n : Nat) (i g : Int) (d : Bool) (hx : a.eval x = .slice (some ⟨n, 0, none⟩) 1 1) (h0 : w.cell? ⟨n, 0, none⟩ = some (.int .i64 i)) (h1 : w.cell? ⟨n, 1, none⟩ = some (.int .i64 g)) (h2 : w.cell? ⟨n, 2, none⟩ = some (.bool d)) (hlen : hs.length ≤ 1000) (hbase : base ≤ w.heap.size)
    (h : ∀ v' w', ownK w' base v' (hs ++ [(i, g, d)]) → w.grownBy w' v.ownBlock → wpList Try.prog ops Q rest (a.put o.dst v') w') : wpList Try.prog ops Q (o :: rest) a w := by
  obtain ⟨i0, hi, hz0, hz1, hz2⟩ := info_parts infoBack
  refine wpList_append_own _ hgd s x 23 ho base 39 i0 (.agg #[.int .i64 0, .int .i64 0, .bool false]) 3 24 Try.underlying23 hi hz0 hz1 hz2 rfl (by decide) v _ _ he hown ⟨n, 0, none⟩ 1 1 [.int .i64 i, .int .i64 g, .bool d] hx rfl ?_ (by simp [Value.oneCell']) (by unfold maxLen; omega) (by omega) hbase ?_
  · intro j u hj
    match j, hj with
    | 0, hj => simp at hj; subst hj; exact h0
    | 1, hj => simp at hj; subst hj; exact h1
    | 2, hj => simp at hj; subst hj; exact h2
  · intro v' w' h1 h2 _
    refine h v' w' ?_ h2
    unfold ownK ownL
    simpa [layK] using h1

theorem ownK_other {w w' : World} {base k : Nat} {v : Value} {l : List Bk} (h : ownK w base v l) (hg : w.grownBy w' (some k)) (hk : k < base) : ownK w' base v l :=
  World.ownsRow.kept h hg (by
    cases hob : v.ownBlock with
    | none => exact .inl rfl
    | some j => right; have := (h.lt j hob).1; intro e; simp at e; omega)

set_option maxHeartbeats 1000000 in
theorem l3some_any (k : Nat) (w : World) (hc : isCur k w) (hk : k < w.heap.size) :
    Calls Try.prog 127 #[.pointer (some ⟨k, 0, none⟩)] w fun e w' => ∃ v L, e = .returned v ∧ ownK w' w.heap.size v L ∧ L.length ≤ 6 ∧ isCur k w' ∧ w.grownBy w' (some k) := by
  go_enter Try.func127, Try.ntmps127
  go_wp2
  go_loopw [3, 4] (fun out iv wr => ∃ (j : Nat) (L : List Bk), j ≤ 6 ∧ iv = .int .i64 j ∧ ownK wr w.heap.size out L ∧ L.length ≤ j ∧ isCur k wr ∧ w.grownBy wr (some k))
    (fun _ iv _ => 6 - (intOf iv).toNat)
  case atStart => exact ⟨0, [], Nat.zero_le _, rfl, World.ownsRow_nil _ _ _ _, Nat.le_refl _, hc, World.grownBy.refl _ _⟩
  case round =>
    obtain ⟨j, L, hj, rfl, hv, hL, hcr, hgr⟩ := hrel
    have HL := hide hL
    clear hL hc
    by_cases hlt : j < 6
    · have z1 : (j : Int) < 6 := by omega
      have hsr : w.heap.size ≤ wr.heap.size := hgr.size
      go_wp2_with fail
      refine (l1Once_any k 2 _ hcr (by omega) (by omega)).mono ?_
      rintro e w1 ⟨y, rfl, hc1, hg1⟩
      have hs1 : w.heap.size ≤ w1.heap.size := Nat.le_trans hsr hg1.size
      have hv1 := ownK_other hv hg1 hk
      have hG1 := grownBy_then hgr hg1
      clear hv hcr hgr hg1
      cases y with
      | false =>
        have HC := hide hc1
        have HG := hide hG1
        have HV := hide hv1
        clear hc1 hG1 hv1
        go_wp2
        go_roundw
        case rel => exact ⟨j + 1, L, by omega, by go_num, HV.out, Nat.le_succ_of_le HL.out, HC.out, HG.out⟩
        case measure => simp [intOf]; omega
      | true =>
        have hc2 := hc1.alloc (by omega) (.cells #[.int .i64 1, .int .i64 1, .int .i64 2, .int .i64 10, .int .i64 100] 3)
        have hG2 := grownBy_then hG1 (grown_alloc w1 (.cells #[.int .i64 1, .int .i64 1, .int .i64 2, .int .i64 10, .int .i64 100] 3) k)
        have hv2 : ownK (w1.alloc (.cells #[.int .i64 1, .int .i64 1, .int .i64 2, .int .i64 10, .int .i64 100] 3)) w.heap.size u3 L := World.ownsRow.alloc hv1 _
        clear hc1 hG1 hv1
        go_wp2_with fail
        refine (l1PickInt_any k w1.heap.size [1, 1, 2, 10, 100] _ hc2 (by simp) (by omega) (by simp) (by simp) ?hcl).mono ?_
        case hcl =>
          intro q hq
          have : q = 0 ∨ q = 1 ∨ q = 2 ∨ q = 3 ∨ q = 4 := by simp at hq; omega
          rcases this with h | h | h | h | h <;> subst h <;> simp
        rintro e w3 ⟨q, hq, rfl, hc3, hg3⟩
        generalize ([1, 1, 2, 10, 100] : List Int).getD q 0 = x at *
        have hG3 := grownBy_then hG2 hg3
        have hv3 := ownK_other hv2 hg3 hk
        clear hc2 hG2 hv2 hg3
        go_wp2_with fail
        refine (l1Once_any k 5 _ hc3 (by omega) (by omega)).mono ?_
        rintro e w4 ⟨d, rfl, hc4, hg4⟩
        have hG4 := grownBy_then hG3 hg4
        have hv4 := ownK_other hv3 hg4 hk
        have hs4 : w.heap.size ≤ w4.heap.size := hG4.size
        have HC4 := hide hc4
        have HG4 := hide hG4
        have hl4 : L.length ≤ 1000 := by have := HL.out; omega
        have HV4 := hide hv4
        clear hc3 hG3 hv3 hg4 hc4 hG4 hv4
        go_wp2_with (at_builtin; refine wpList_append_back rfl (.tmp 11) (.tmp 19) rfl w.heap.size _ L rfl (World.ownsRow.alloc HV4.out _) w4.heap.size j x d rfl ?c1 ?c2 ?c3 hl4 ?c4 ?_)
        case c1 => simp
        case c2 => simp
        case c3 => simp
        case c4 => simp; omega
        intro v5 w5 ho5 hg5
        have HA := hide (World.ownsRow.alloc HV4.out (.cells #[.int .i64 j, .int .i64 x, .bool d] 39))
        have hb5 : Below w.heap.size w4 w5 := ((Below.refl w.heap.size w4).alloc hs4 _).grown hg5 (by simp; omega) (fun k h => (HA.out.lt k h).1)
        have HR := hide (show ownK w5 w.heap.size v5 (L ++ [((j : Int), x, d)]) ∧ isCur k w5 ∧ w.grownBy w5 (some k) from ⟨ho5, HC4.out.below (hb5.mono hk), grown_below HG4.out hb5 (Nat.le_refl _)⟩)
        clear hg5 ho5 hb5
        go_wp2
        go_roundw
        case rel => exact ⟨j + 1, L ++ [((j : Int), x, d)], by omega, by go_num, HR.out.1, by have := HL.out; simp; omega, HR.out.2.1, HR.out.2.2⟩
        case measure => simp [intOf]; omega
    · have e : j = 6 := by omega
      subst e
      have HR := hide (show ownK wr w.heap.size u3 L ∧ isCur k wr ∧ w.grownBy wr (some k) from ⟨hv, hcr, hgr⟩)
      clear hv hcr hgr
      go_wp2
      go_ret
      exact ⟨_, L, rfl, HR.out.1, HL.out, HR.out.2.1, HR.out.2.2⟩

set_option maxHeartbeats 1000000 in
theorem l3bent_any (k : Nat) (w : World) (hc : isCur k w) (hk : k < w.heap.size) :
    Calls Try.prog 102 #[.pointer (some ⟨k, 0, none⟩)] w fun e w' => ∃ v L, e = .returned v ∧ ownK w' w.heap.size v L ∧ L.length ≤ 7 ∧ isCur k w' ∧ w.grownBy w' (some k) := by
  go_enter Try.func102, Try.ntmps102
  go_wp2_with fail
  refine (l3some_any k _ hc hk).mono ?_
  rintro e w0 ⟨out, L, rfl, hv0, hL, hc0, hG0⟩
  have hs0 : w.heap.size ≤ w0.heap.size := hG0.size
  go_wp2_with fail
  refine (l1Once_any k 7 _ hc0 (by omega) (by omega)).mono ?_
  rintro e w1 ⟨y, rfl, hc1, hg1⟩
  have hs1 : w.heap.size ≤ w1.heap.size := Nat.le_trans hs0 hg1.size
  have hv1 := ownK_other hv0 hg1 hk
  have hG1 := grownBy_then hG0 hg1
  clear hv0 hc0 hG0 hg1 hc
  cases y with
  | false =>
    have HC := hide hc1
    have HG := hide hG1
    have HV := hide hv1
    clear hc1 hG1 hv1
    go_wp2
    go_ret
    exact ⟨_, L, rfl, HV.out, by omega, HC.out, HG.out⟩
  | true =>
    have hc2 := hc1.alloc (by omega) (.cells #[.int .i64 (-1), .int .i64 0, .int .i64 5, .int .i64 6] 3)
    have hG2 := grownBy_then hG1 (grown_alloc w1 (.cells #[.int .i64 (-1), .int .i64 0, .int .i64 5, .int .i64 6] 3) k)
    have hv2 : ownK (w1.alloc (.cells #[.int .i64 (-1), .int .i64 0, .int .i64 5, .int .i64 6] 3)) w.heap.size out L := World.ownsRow.alloc hv1 _
    clear hc1 hG1 hv1
    go_wp2_with fail
    refine (l1PickInt_any k w1.heap.size [-1, 0, 5, 6] _ hc2 (by simp) (by omega) (by simp) (by simp) ?hcl).mono ?_
    case hcl =>
      intro q hq
      have : q = 0 ∨ q = 1 ∨ q = 2 ∨ q = 3 := by simp at hq; omega
      rcases this with h | h | h | h <;> subst h <;> simp
    rintro e w3 ⟨q, hq, rfl, hc3, hg3⟩
    generalize ([-1, 0, 5, 6] : List Int).getD q 0 = i at *
    have hG3 := grownBy_then hG2 hg3
    have hv3 := ownK_other hv2 hg3 hk
    have hs3 : w.heap.size ≤ w3.heap.size := hG3.size
    clear hc2 hG2 hv2 hg3
    have hc4 := hc3.alloc (by omega) (.cells #[.int .i64 0, .int .i64 1, .int .i64 101] 3)
    have hG4 := grownBy_then hG3 (grown_alloc w3 (.cells #[.int .i64 0, .int .i64 1, .int .i64 101] 3) k)
    have hv4 : ownK (w3.alloc (.cells #[.int .i64 0, .int .i64 1, .int .i64 101] 3)) w.heap.size out L := World.ownsRow.alloc hv3 _
    clear hc3 hG3 hv3
    go_wp2_with fail
    refine (l1PickInt_any k w3.heap.size [0, 1, 101] _ hc4 (by simp) (by omega) (by simp) (by simp) ?hcm).mono ?_
    case hcm =>
      intro q hq
      have : q = 0 ∨ q = 1 ∨ q = 2 := by simp at hq; omega
      rcases this with h | h | h <;> subst h <;> simp
    rintro e w5 ⟨q', hq', rfl, hc5, hg5⟩
    generalize ([0, 1, 101] : List Int).getD q' 0 = x at *
    have HG5 := hide (grownBy_then hG4 hg5)
    have HV5 := hide (ownK_other hv4 hg5 hk)
    have HC5 := hide hc5
    have hs5 : w.heap.size ≤ w5.heap.size := HG5.out.size
    have hl4 : L.length ≤ 1000 := by omega
    clear hc4 hG4 hv4 hg5 hc5
    go_wp2_with (at_builtin; refine wpList_append_back rfl _ _ rfl w.heap.size _ L rfl (World.ownsRow.alloc HV5.out _) w5.heap.size i x false rfl ?c1 ?c2 ?c3 hl4 ?c4 ?_)
    case c1 => simp
    case c2 => simp
    case c3 => simp
    case c4 => simp; omega
    intro v6 w6 ho6 hg6
    have HA := hide (World.ownsRow.alloc HV5.out (.cells #[.int .i64 i, .int .i64 x, .bool false] 39))
    have hb6 : Below w.heap.size w5 w6 := ((Below.refl w.heap.size w5).alloc hs5 _).grown hg6 (by simp; omega) (fun k h => (HA.out.lt k h).1)
    have HR := hide (show ownK w6 w.heap.size v6 (L ++ [(i, x, false)]) ∧ isCur k w6 ∧ w.grownBy w6 (some k) from ⟨ho6, HC5.out.below (hb6.mono hk), grown_below HG5.out hb6 (Nat.le_refl _)⟩)
    clear hg6 ho6 hb6
    go_wp2
    go_ret
    exact ⟨_, L ++ [(i, x, false)], rfl, HR.out.1, by simp; omega, HR.out.2.1, HR.out.2.2⟩

end Go.Proofs.Ytldjaapbkihibaa

/- Drawn pools. -/
namespace Go.Proofs.Ytldjaapbkihibaa
open Go.ChangeShapes Go.WideShapes Go.ChangeAt Go.RowKit Go.Joins
set_option linter.unusedVariables false
set_option linter.unusedSimpArgs false


/-- What is told of a drawn pool's rows: eight a table, no more than two a row. -/
def smallR (lll : List (List (List Int))) : Prop := 1 ≤ lll.length ∧ lll.length ≤ 3 ∧ ∀ i, i < lll.length → (lll.getD i []).length = 8 ∧ ∀ j, ((lll.getD i []).getD j []).length ≤ 2
theorem ringR_pos (cs : List Cd) : ∀ n, 1 ≤ (ringR cs n).length
  | 0 => by simp [ringR]
  | n + 1 => by rw [ringR]; simp
theorem ringT_small (key : Int) (R : List (List Bk)) (h1 : 1 ≤ R.length) (h3 : R.length ≤ 3) : smallR (ringT key R) := by
  refine ⟨by simpa [ringT] using h1, by simpa [ringT] using h3, fun i hi => ?_⟩
  have hi' : i < R.length := by simpa [ringT] using hi
  rw [ringT_get key R i hi']
  exact ⟨newT_len _ _, fun j => newT_row _ _ j⟩
theorem GTabs.draw {w w' : World} {base k : Nat} {hs : List Hd} {R : List (List (List Int))} (h : GTabs w base hs R) (hg : w.grownBy w' (some k)) (hk : k < base) : GTabs w' base hs R :=
  ⟨h.1, fun i hi => by
    obtain ⟨o3, c3, hs8, e, h1, h2⟩ := h.2 i hi
    refine ⟨o3, c3, hs8, e, ownL_other (L := layH) h1 hg hk, h2.grown hg (fun q hq => ?_)⟩
    cases hob : (hv hs8 q).ownBlock with
    | none => exact .inl rfl
    | some j => right; have := ((h2.row q hq).lt j hob).1; intro e; simp at e; omega⟩

set_option maxRecDepth 100000 in
set_option maxHeartbeats 8000000 in
theorem l4draw_any (k : Nat) (w : World) (hc : isCur k w) (hk : k < w.heap.size) :
    Calls Try.prog 101 #[.pointer (some ⟨k, 0, none⟩)] w fun e w' => ∃ key l lll hs o2 c2 oQ cQ, e = .returned (plv key (.slice o2 l.length c2) (.slice oQ lll.length cQ)) ∧ l.length ≤ 100 ∧ smallR lll ∧ ownK w' w.heap.size (.slice o2 l.length c2) l ∧ ownL layH 37 w' w.heap.size (.slice oQ lll.length cQ) hs ∧ GTabs w' w.heap.size hs lll ∧ Dr k w w' := by
  obtain ⟨W0, hW0⟩ : ∃ W, w.alloc (.cells #[.int .i64 0, .slice none 0 0, .slice none 0 0] 26) = W := ⟨_, rfl⟩
  have hb0 : Below w.heap.size w W0 := by rw [← hW0]; exact (Below.refl _ _).alloc (Nat.le_refl _) _
  have HD0 := hide (show Dr k w W0 from ⟨hc.below (hb0.mono hk), by rw [← hW0]; exact grown_alloc w _ k⟩)
  have HR0 : Hid (W0.heap[w.heap.size]? = some (.cells #[.int .i64 0, .slice none 0 0, .slice none 0 0] 26 (0, 0))) := by rw [← hW0]; exact World.alloc_heap_new w _
  have hs0 : w.heap.size < W0.heap.size := by rw [← hW0]; simp
  clear hb0 hc
  go_enter Try.func101, Try.ntmps101
  go_wp2_with fail
  refine (l4drawJ_any k W0 HD0.out.cur (HD0.out.lt hk)).mono ?_
  rintro e w1 ⟨v, ⟨key, cs, s⟩, rfl, ⟨vl, rfl, hin⟩, hj, hl10, hd1⟩
  obtain ⟨o, c, e1, _⟩ := ownL.open (L := layC) hin.1
  subst e1
  dsimp only at hin hl10 hj ⊢
  obtain ⟨⟨hkey, hl, _, _⟩, hrun⟩ := And.intro (journal_facts hj) (journal_run hj)
  have HSE := hide (served_each hj cs.length (by omega))
  obtain ⟨W2, hW2⟩ : ∃ W, w1.alloc (.cells #[.int .i64 key, .slice o cs.length c, .int .i64 s] 47) = W := ⟨_, rfl⟩
  have hb2 : Below w1.heap.size w1 W2 := by rw [← hW2]; exact (Below.refl _ _).alloc (Nat.le_refl _) _
  have hs1 : W0.heap.size ≤ w1.heap.size := hd1.gr.size
  have hs2 := hb2.size
  have HD2 := hide ((HD0.out.step hd1.cur hd1.gr).below hk (hb2.mono (by omega)))
  have HR2 := hide ((hb2.block _ (by omega)).trans (grown_box hd1.gr hs0 (by omega) HR0.out))
  have HRP := hide (l4replay_any key o c cs W2 (ownL.rds (L := layC) (own_kept hin.1 hb2)) hkey hl hrun)
  have j0 : W2.cell? ⟨w1.heap.size, 0, none⟩ = some (.int .i64 key) := by rw [← hW2]; simp [go_sem]
  have j1 : W2.cell? ⟨w1.heap.size, 1, none⟩ = some (.slice o cs.length c) := by rw [← hW2]; simp [go_sem]
  clear hd1 hin HR0 HD0 hb2 hrun hj
  obtain ⟨n, hn⟩ : ∃ n, cs.length = n := ⟨_, rfl⟩
  rw [hn] at hW2 j1 HRP ⊢
  have HN := hide hn
  obtain ⟨sv, hsv⟩ : ∃ s, servedOf cs cs.length = s := ⟨_, rfl⟩
  rw [hn] at hsv hl hl10
  rw [hsv] at HRP
  rw [hn, hsv] at HSE
  obtain ⟨rg, hrg⟩ : ∃ s, ringR cs n = s := ⟨_, rfl⟩
  rw [hrg] at HRP
  have HRG := hide (show 1 ≤ rg.length ∧ rg.length ≤ 3 by rw [← hrg]; exact ⟨ringR_pos cs n, ringR_len cs n⟩)
  clear hsv hrg hn
  go_wp2_with fail
  refine (HRP.out).mono ?_
  rintro e w3 ⟨oB, cB, oR, cR, hs, rfl, owB, owR, pt, hs3, hb⟩
  have HOB := hide owB
  have HOR := hide owR
  have HG := hide (ptabs_g pt)
  have HD3 := hide (HD2.out.below hk (hb.mono (by omega)))
  have HR3 := hide ((hb.block _ (by omega)).trans HR2.out)
  have hs3' := hb.size
  clear owB owR pt hb HRP HR2 HD2
  have HFI := hide (ringT_fit key sv rg (by have := HSE.out.2; omega) HRG.out.2)
  have HSM := hide (ringT_small key rg HRG.out.1 HRG.out.2)
  obtain ⟨lll, hlll⟩ : ∃ s, ringT key rg = s := ⟨_, rfl⟩
  rw [hlll] at HG HFI HSM
  clear hlll
  have HRK := hide (ownL.rds (L := layK) HOB.out)
  have hcb := (fun e => (InRow.cap (InRow.of HOB.out)) sv.length cB (by rw [e]) : oB = none → cB = 0)
  have HOW := hide (l4own_gt key oB cB sv oR cR lll hs.length HG.out.1 w3 HRK.out hcb (by have := HSE.out.2; omega) (RcR.mon.go (HG.out.rc HOR.out) (Nat.zero_le _) (Nat.le_refl _)) (by omega) HFI.out.2.2.2.1 HFI.out.2.2.2.2)
  have HHL := hide HG.out.1
  clear HRK hcb
  go_wp2_with fail
  refine (HOW.out).mono ?_
  rintro e w4 ⟨o2, c2, oQ, cQ, hq, rfl, h1, h2, h3, hb⟩
  have hr4 := (hb.block _ (by omega)).trans HR3.out
  have hs4 := hb.size
  have r0 : w4.cell? ⟨w.heap.size, 0, none⟩ = some (.int .i64 0) := bx_cell hr4 0 _ rfl
  have fr0 : w4.frozen? ⟨w.heap.size, 0, none⟩ = false := bx_frozen hr4 0
  have r1 : w4.cell? ⟨w.heap.size, 1, none⟩ = some (.slice none 0 0) := bx_cell hr4 1 _ rfl
  have fr1 : w4.frozen? ⟨w.heap.size, 1, none⟩ = false := bx_frozen hr4 1
  have r2 : w4.cell? ⟨w.heap.size, 2, none⟩ = some (.slice none 0 0) := bx_cell hr4 2 _ rfl
  have fr2 : w4.frozen? ⟨w.heap.size, 2, none⟩ = false := bx_frozen hr4 2
  have HFF : Hid (ownK (setP w4 w.heap.size (.int .i64 key) (.slice o2 sv.length c2) (.slice oQ hs.length cQ)) w.heap.size (.slice o2 sv.length c2) sv ∧ ownL layH 37 (setP w4 w.heap.size (.int .i64 key) (.slice o2 sv.length c2) (.slice oQ hs.length cQ)) w.heap.size (.slice oQ hs.length cQ) hq ∧ GTabs (setP w4 w.heap.size (.int .i64 key) (.slice o2 sv.length c2) (.slice oQ hs.length cQ)) w.heap.size hq lll ∧ Dr k w (setP w4 w.heap.size (.int .i64 key) (.slice o2 sv.length c2) (.slice oQ hs.length cQ))) := by
    have g1 := box_put hr4 0 (.int .i64 key)
    have g2 := box_put g1 1 (.slice o2 sv.length c2)
    exact ⟨own_mono (own_putB (own_putB (own_putB h1 hr4 neP4 0 _) g1 neP4 1 _) g2 neP4 2 _) (by omega), own_mono (own_putB (own_putB (own_putB h2 hr4 neP1 0 _) g1 neP1 1 _) g2 neP1 2 _) (by omega), GTabs.mono (((h3.putB hr4 0 _).putB g1 1 _).putB g2 2 _) (by omega), (HD3.out.below hk (hb.mono (by omega))).below hk (setP_below (Below.refl _ _) (Nat.le_refl _) _ _ _)⟩
  clear h1 h2 h3 hb hr4 HOW HOB HOR HG HD3 HR3
  go_wp2
  refine bodyPost_ret (v := plv key (.slice o2 sv.length c2) (.slice oQ hs.length cQ)) (by simp [results, Try.results101, go_sem, r0, r1, r2]) rfl ⟨key, sv, lll, hq, o2, c2, oQ, cQ, by rw [← HHL.out], HSE.out.2, HSM.out, HFF.out.1, by rw [← HHL.out]; exact HFF.out.2.1, HFF.out.2.2.1, HFF.out.2.2.2⟩

end Go.Proofs.Ytldjaapbkihibaa

/- Bent pools. -/
namespace Go.Proofs.Ytldjaapbkihibaa
open Go.ChangeShapes Go.WideShapes Go.ChangeAt Go.RowKit Go.Joins
set_option linter.unusedVariables false
set_option linter.unusedSimpArgs false


theorem RcPm.mono {a b a' b' : Nat} {w : World} {v : Value} {m : Pm} (h : RcPm a b w v m) (k1 : a' ≤ a) (k2 : b ≤ b') : RcPm a' b' w v m := by
  obtain ⟨vb, vr, e, h1, h2, h3, h4⟩ := h
  exact ⟨vb, vr, e, h1.mono k1 k2, h2, RcR.mon.go h3 k1 k2, h4⟩
theorem RcPm.step {a b lo hi : Nat} {w w' : World} {v : Value} {m : Pm} (h : RcPm a b w v m) (s : Stp lo hi w w') (hd : hi ≤ a ∨ b ≤ lo) : RcPm a b w' v m := by
  obtain ⟨vb, vr, e, h1, h2, h3, h4⟩ := h
  exact ⟨vb, vr, e, h1.step s hd, h2, RcR.stp.go h3 s hd, h4⟩
theorem small_fit {key : Int} {l : List Bk} {lll : List (List (List Int))} (hl : l.length ≤ 1000) (h3 : lll.length ≤ 3) (h : ∀ i, i < lll.length → (lll.getD i []).length = 8 ∧ ∀ j, ((lll.getD i []).getD j []).length ≤ 2) : fitPm ⟨key, l, lll⟩ := by
  refine ⟨by dsimp only; omega, by dsimp only; omega, ?_, fun i hi => by dsimp only at *; rw [(h i hi).1]; decide, fun i hi j hj => by have := (h i hi).2 j; dsimp only; omega⟩
  dsimp only
  have hz2 : ∀ i, lenR lll i ≤ 16 := fun i => by
    by_cases h' : i < lll.length
    · have hb := sumN_bd (lenT (lll.getD i [])) 2 (fun j => (h i h').2 j) (lll.getD i []).length
      have h8 := (h i h').1
      show sumN (lenT (lll.getD i [])) (lll.getD i []).length ≤ 16
      rw [h8] at hb ⊢
      omega
    · unfold lenR; rw [List.getD_eq_getElem?_getD, List.getElem?_eq_none (by omega)]; exact Nat.zero_le _
  have hb := sumN_bd (lenR lll) 16 hz2 lll.length
  show sumN (lenR lll) lll.length ≤ 1048576
  omega
theorem own_pool {w : World} {base : Nat} {key : Int} {l : List Bk} {hs : List Hd} {lll : List (List (List Int))} {o2 oQ : Option Addr} {nb c2 n cQ : Nat} (hn : nb = l.length) (h1 : ownK w base (.slice o2 nb c2) l) (h2 : ownL layH 37 w base (.slice oQ n cQ) hs) (h3 : GTabs w base hs lll) : RcPm base w.heap.size w (plv key (.slice o2 nb c2) (.slice oQ n cQ)) ⟨key, l, lll⟩ := by
  subst hn
  exact ⟨_, _, rfl, InRow.ri (InRow.of h1), InRow.cap (InRow.of h1), GTabs.rc h3 h2, InRow.cap (InRow.of h2)⟩
theorem own_pool0 {w : World} {base : Nat} {key : Int} {l : List Bk} {o2 : Option Addr} {nb c2 : Nat} (hn : nb = l.length) (h1 : ownK w base (.slice o2 nb c2) l) : RcPm base w.heap.size w (plv key (.slice o2 nb c2) (.slice none 0 0)) ⟨key, l, []⟩ := by
  subst hn
  exact ⟨_, _, rfl, InRow.ri (InRow.of h1), InRow.cap (InRow.of h1), ⟨[], rfl, ⟨none, 0, rfl, .inl rfl⟩, fun i h => absurd h (Nat.not_lt_zero _)⟩, fun n c e => by injection e with _ _ e3; exact e3.symm⟩
theorem choose_rows {n : Nat} {α : Type} {d : α} {Q : Nat → α → Prop} (h : ∀ i, i < n → ∃ x, Q i x) : ∃ xs : List α, xs.length = n ∧ ∀ i, i < n → Q i (xs.getD i d) := by
  induction n with
  | zero => exact ⟨[], rfl, fun i hi => absurd hi (Nat.not_lt_zero _)⟩
  | succ n ih =>
    obtain ⟨xs, hl, hx⟩ := ih (fun i hi => h i (by omega))
    obtain ⟨y, hy⟩ := h n (by omega)
    refine ⟨xs ++ [y], by simp [hl], fun i hi => ?_⟩
    by_cases hi' : i < n
    · rw [List.getD_eq_getElem?_getD, List.getElem?_append_left (by omega), ← List.getD_eq_getElem?_getD]; exact hx i hi'
    · have e : i = n := by omega
      subst e
      have : (xs ++ [y]).getD i d = y := by rw [← hl]; simp
      rw [this]; exact hy
theorem hv_set_ne {hs : List Hd} {j q : Nat} {x : Hd} (h : q ≠ j) : hv (hs.set j x) q = hv hs q := by
  unfold hv; rw [List.getD_eq_getElem?_getD, List.getElem?_set_ne (Ne.symm h), ← List.getD_eq_getElem?_getD]
theorem hv_set_eq {hs : List Hd} {j : Nat} {x : Hd} (h : j < hs.length) : hv (hs.set j x) j = .slice x.1 x.2.1 x.2.2 := by
  unfold hv; rw [List.getD_eq_getElem?_getD, List.getElem?_set_self h]; rfl
theorem flat_setH (hs : List Hd) (j : Nat) (x : Hd) : (hs.set j x).flatMap layH.cs = (hs.flatMap layH.cs).set j (.slice x.1 x.2.1 x.2.2) := by
  have e : ∀ l : List Hd, l.flatMap layH.cs = l.map (fun x => Value.slice x.1 x.2.1 x.2.2) := fun l => by
    induction l with
    | nil => rfl
    | cons a l ih => rw [List.flatMap_cons, ih]; rfl
  rw [e, e, List.map_set]
theorem neT3 : (37 : TypeId) ≠ 43 := by decide
theorem neK3 : (39 : TypeId) ≠ 43 := by decide
theorem ring_bend {w1 : World} {base g3 r n c3 i : Nat} {cQ : Nat} {oQ : Option Addr} {hs : List Hd} {lll : List (List (List Int))} {x y : Int} (h : GTabs w1 base hs lll) (ho : ownL layH 37 w1 base (.slice oQ n cQ) hs) (hsm : smallR lll) (hi : i < lll.length) (he : hv hs i = .slice (some ⟨g3, 0, none⟩) 8 c3) (hr : ownI w1 base (.slice (some ⟨r, 0, none⟩) 2 2) [x, y]) :
    ∃ lll', smallR lll' ∧ lll'.length = lll.length ∧ RcR base (w1.setCell ⟨g3, 2, none⟩ (.slice (some ⟨r, 0, none⟩) 2 2)).heap.size (w1.setCell ⟨g3, 2, none⟩ (.slice (some ⟨r, 0, none⟩) 2 2)) (.slice oQ n cQ) lll' := by
  obtain ⟨W, hW⟩ : ∃ W, w1.setCell ⟨g3, 2, none⟩ (.slice (some ⟨r, 0, none⟩) 2 2) = W := ⟨_, rfl⟩
  obtain ⟨o3, c3', hs8, e3, k1, k2⟩ := h.2 i hi
  have e4 : hv hs i = .slice o3 (lll.getD i []).length c3' := by unfold hv; rw [e3]
  have hl8 := (hsm.2.2 i hi).1
  rw [he, hl8] at e4
  injection e4 with q1 q2 q3
  subst q1 q3
  rw [hl8] at k1
  have hgr : w1.grownBy W (some g3) := by rw [← hW]; exact grown_set w1 g3 2 _
  have rowI : ∀ v l, ownI w1 base v l → ownI W base v l := fun v l hv => World.ownsRow.kept hv hgr (own_apart hv k1 intNe)
  have key : ∀ q, q < lll.length → ∃ t : List (List Int), (t.length = 8 ∧ ∀ j, (t.getD j []).length ≤ 2) ∧ RcT base W.heap.size W (hv hs q) t := by
    intro q hq
    obtain ⟨o5, c5, hs5, e5, m1, m2⟩ := h.2 q hq
    have f8 := hsm.2.2 q hq
    have e6 : hv hs q = .slice o5 (lll.getD q []).length c5 := by unfold hv; rw [e5]
    rw [f8.1] at m1 m2 e6
    rw [e6]
    have hlen5 := m2.len
    by_cases hb : o5 = some ⟨g3, 0, none⟩
    · subst hb
      have m1' : w1.ownsRow base 43 layH.k (.slice (some ⟨g3, 0, none⟩) 8 c5) 8 (hs5.flatMap layH.cs) := by have h := m1; unfold ownL at h; rw [hlen5] at h; exact h
      have m3 := (World.ownsRow.stored m1' 2 (.slice (some ⟨r, 0, none⟩) 2 2)).1
      rw [hW, ← flat_setH hs5 2 (some ⟨r, 0, none⟩, 2, 2)] at m3
      have m4 : ownL layH 43 W base (.slice (some ⟨g3, 0, none⟩) 8 c5) (hs5.set 2 (some ⟨r, 0, none⟩, 2, 2)) := by
        unfold ownL; rw [List.length_set, hlen5]; exact m3
      refine ⟨(lll.getD q []).set 2 [x, y], ⟨by rw [List.length_set]; exact f8.1, fun j => ?_⟩, ⟨hs5.set 2 (some ⟨r, 0, none⟩, 2, 2), by rw [List.length_set, List.length_set, f8.1]; exact hlen5, ?_, fun j hj => ?_⟩⟩
      · by_cases hj : j = 2
        · subst hj; rw [List.getD_eq_getElem?_getD, List.getElem?_set_self (by rw [f8.1]; decide)]; simp
        · rw [List.getD_eq_getElem?_getD, List.getElem?_set_ne (Ne.symm hj), ← List.getD_eq_getElem?_getD]; exact f8.2 j
      · have := InRow.ri (L := layH) (InRow.of m4); simpa [hlen5] using this
      · rw [List.length_set, f8.1] at hj
        by_cases hj2 : j = 2
        · subst hj2
          rw [hv_set_eq (by omega), List.getD_eq_getElem?_getD, List.getElem?_set_self (by rw [f8.1]; decide)]
          exact ⟨InRow.ri (L := layI) (InRow.of (rowI _ _ hr)), InRow.cap (InRow.of (rowI _ _ hr))⟩
        · rw [hv_set_ne hj2, List.getD_eq_getElem?_getD, List.getElem?_set_ne (Ne.symm hj2), ← List.getD_eq_getElem?_getD]
          exact ⟨InRow.ri (L := layI) (InRow.of (rowI _ _ (m2.row j hj))), InRow.cap (InRow.of (rowI _ _ (m2.row j hj)))⟩
    · have m4 : ownL layH 43 W base (.slice o5 8 c5) hs5 := by
        refine World.ownsRow.kept m1 hgr ?_
        obtain ⟨g5, c5', q1⟩ := own_someH m1 (by rw [hlen5]; decide)
        injection q1 with q1 _ _
        · subst q1; right; intro e; simp [Value.ownBlock] at e; exact hb (by rw [e])
      refine ⟨lll.getD q [], f8, ⟨hs5, by rw [f8.1]; exact hlen5, ?_, fun j hj => ?_⟩⟩
      · have := InRow.ri (L := layH) (InRow.of m4); simpa [hlen5] using this
      · rw [f8.1] at hj
        exact ⟨InRow.ri (L := layI) (InRow.of (rowI _ _ (m2.row j hj))), InRow.cap (InRow.of (rowI _ _ (m2.row j hj)))⟩
  obtain ⟨ts, hts, hq⟩ := choose_rows (d := ([] : List (List Int))) key
  rw [hW]
  refine ⟨ts, ⟨by rw [hts]; exact hsm.1, by rw [hts]; exact hsm.2.1, fun j hj => (hq j (by omega)).1⟩, hts, ⟨hs, by rw [hts]; exact h.1, ?_, fun j hj => (hq j (by omega)).2⟩⟩
  exact InRow.ri (L := layH) (InRow.of (World.ownsRow.kept ho hgr (own_apart ho k1 neT3)))

structure PS (k B R C : Nat) (w0 wr : World) (key : Int) (l : List Bk) (lll : List (List (List Int))) (hs : List Hd) (o2 : Option Addr) (nb c2 : Nat) (oQ : Option Addr) (n cQ : Nat) : Prop where
  len : nb = l.length
  box : wr.heap[B]? = some (.cells #[.int .i64 key, .slice o2 nb c2, .slice oQ n cQ] 26 (0, 0))
  res : wr.heap[R]? = some (.cells #[.int .i64 0, .slice none 0 0, .slice none 0 0] 26 (0, 0))
  bk : ownK wr C (.slice o2 nb c2) l
  ow : ownL layH 37 wr C (.slice oQ n cQ) hs
  gt : GTabs wr C hs lll
  dr : Dr k w0 wr
theorem PS.draw {k B R C : Nat} {w0 wr : World} {key : Int} {l : List Bk} {lll : List (List (List Int))} {hs : List Hd} {o2 oQ : Option Addr} {nb c2 n cQ : Nat} {x : World} (h : PS k B R C w0 wr key l lll hs o2 nb c2 oQ n cQ) (hc : isCur k x) (hg : wr.grownBy x (some k)) (hB : B ≠ k) (hR : R ≠ k) (hC : k < C) : PS k B R C w0 x key l lll hs o2 nb c2 oQ n cQ :=
  ⟨h.len, grown_box hg (Array.getElem?_eq_some_iff.1 h.box).1 hB h.box, grown_box hg (Array.getElem?_eq_some_iff.1 h.res).1 hR h.res, ownL_other h.bk hg hC, ownL_other (L := layH) h.ow hg hC, h.gt.draw hg hC, h.dr.step hc hg⟩
theorem PS.below {k B R C : Nat} {w0 wr : World} {key : Int} {l : List Bk} {lll : List (List (List Int))} {hs : List Hd} {o2 oQ : Option Addr} {nb c2 n cQ : Nat} {x : World} (h : PS k B R C w0 wr key l lll hs o2 nb c2 oQ n cQ) (hb : Below wr.heap.size wr x) (hk : k < w0.heap.size) : PS k B R C w0 x key l lll hs o2 nb c2 oQ n cQ :=
  ⟨h.len, (hb.block _ (Array.getElem?_eq_some_iff.1 h.box).1).trans h.box, (hb.block _ (Array.getElem?_eq_some_iff.1 h.res).1).trans h.res, own_kept h.bk hb, own_kept h.ow hb, h.gt.kept hb, h.dr.below hk (hb.mono h.dr.gr.size)⟩
/-- What a bent pool's end wants. -/
structure PE (k B R C : Nat) (w0 wr : World) (v0 v1 v2 : Value) (m : Pm) : Prop where
  box : wr.heap[B]? = some (.cells #[v0, v1, v2] 26 (0, 0))
  res : wr.heap[R]? = some (.cells #[.int .i64 0, .slice none 0 0, .slice none 0 0] 26 (0, 0))
  rc : RcPm C wr.heap.size wr (.agg #[v0, v1, v2]) m
  fit : fitPm m
  dr : Dr k w0 wr
theorem PE.done {k B C : Nat} {w0 wr : World} {v0 v1 v2 : Value} {m : Pm} (h : PE k B w0.heap.size C w0 wr v0 v1 v2 m) (hk : k < w0.heap.size) (hC : w0.heap.size < C) : RcPm w0.heap.size (setP wr w0.heap.size v0 v1 v2).heap.size (setP wr w0.heap.size v0 v1 v2) (.agg #[v0, v1, v2]) m ∧ fitPm m ∧ Dr k w0 (setP wr w0.heap.size v0 v1 v2) :=
  ⟨by rw [setQ_size]; exact (h.rc.step (stp_setQ wr w0.heap.size v0 v1 v2) (.inl hC)).mono (Nat.le_of_lt hC) (Nat.le_refl _), h.fit, h.dr.below hk (setP_below (Below.refl _ _) (Nat.le_refl _) _ _ _)⟩
theorem PS.end0 {k B R C : Nat} {w0 wr : World} {key : Int} {l : List Bk} {lll : List (List (List Int))} {hs : List Hd} {o2 oQ : Option Addr} {nb c2 n cQ : Nat} (h : PS k B R C w0 wr key l lll hs o2 nb c2 oQ n cQ) (hs3 : smallR lll) (hl : l.length ≤ 1000) : PE k B R C w0 wr (.int .i64 key) (.slice o2 nb c2) (.slice oQ n cQ) ⟨key, l, lll⟩ := ⟨h.box, h.res, own_pool h.len h.bk h.ow h.gt, small_fit hl hs3.2.1 hs3.2.2, h.dr⟩
theorem PS.key {k B R C : Nat} {w0 wr : World} {key : Int} {l : List Bk} {lll : List (List (List Int))} {hs : List Hd} {o2 oQ : Option Addr} {nb c2 n cQ : Nat} (h : PS k B R C w0 wr key l lll hs o2 nb c2 oQ n cQ) (hs3 : smallR lll) (hl : l.length ≤ 1000) (hk : k < w0.heap.size) (hB : w0.heap.size ≤ B) (hR : R ≠ B) (y : Int) : PE k B R C w0 (wr.setCell ⟨B, 0, none⟩ (.int .i64 y)) (.int .i64 y) (.slice o2 nb c2) (.slice oQ n cQ) ⟨y, l, lll⟩ :=
  ⟨box_put h.box 0 _, set_box h.res hR, own_pool h.len (own_putB h.bk h.box neP4 0 _) (own_putB h.ow h.box neP1 0 _) (h.gt.putB h.box 0 _), small_fit hl hs3.2.1 hs3.2.2, h.dr.below hk ((Below.refl _ _).setCell (p := ⟨B, 0, none⟩) hB _)⟩
theorem PS.backs {k B R C : Nat} {w0 wr : World} {key : Int} {l : List Bk} {lll : List (List (List Int))} {hs : List Hd} {o2 oQ : Option Addr} {nb c2 n cQ : Nat} {L : List Bk} {o3 : Option Addr} {c3 m3 b3 : Nat} (h : PS k B R C w0 wr key l lll hs o2 nb c2 oQ n cQ) (hs3 : smallR lll) (hl : m3 ≤ 7) (hm : m3 = L.length) (hk : k < w0.heap.size) (hB : w0.heap.size ≤ B) (hR : R ≠ B) (hC : C ≤ b3) (ho : ownK wr b3 (.slice o3 m3 c3) L) : PE k B R C w0 (wr.setCell ⟨B, 1, none⟩ (.slice o3 m3 c3)) (.int .i64 key) (.slice o3 m3 c3) (.slice oQ n cQ) ⟨key, L, lll⟩ :=
  ⟨box_put h.box 1 _, set_box h.res hR, own_pool hm (own_mono (own_putB ho h.box neP4 1 _) hC) (own_putB h.ow h.box neP1 1 _) (h.gt.putB h.box 1 _), small_fit (by omega) hs3.2.1 hs3.2.2, h.dr.below hk ((Below.refl _ _).setCell (p := ⟨B, 1, none⟩) hB _)⟩
theorem PS.nil {k B R C : Nat} {w0 wr : World} {key : Int} {l : List Bk} {lll : List (List (List Int))} {hs : List Hd} {o2 oQ : Option Addr} {nb c2 n cQ : Nat} (h : PS k B R C w0 wr key l lll hs o2 nb c2 oQ n cQ) (hl : l.length ≤ 1000) (hk : k < w0.heap.size) (hB : w0.heap.size ≤ B) (hR : R ≠ B) : PE k B R C w0 (wr.setCell ⟨B, 2, none⟩ (.slice none 0 0)) (.int .i64 key) (.slice o2 nb c2) (.slice none 0 0) ⟨key, l, []⟩ :=
  ⟨box_put h.box 2 _, set_box h.res hR, own_pool0 h.len (own_putB h.bk h.box neP4 2 _), small_fit hl (by simp) (fun i hi => absurd hi (Nat.not_lt_zero _)), h.dr.below hk ((Below.refl _ _).setCell (p := ⟨B, 2, none⟩) hB _)⟩
theorem PS.bend {k B R C : Nat} {w0 wr : World} {key : Int} {l : List Bk} {lll : List (List (List Int))} {hs : List Hd} {o2 oQ : Option Addr} {nb c2 n cQ : Nat} {g3 r c3 i : Nat} {x y : Int} (h : PS k B R C w0 wr key l lll hs o2 nb c2 oQ n cQ) (hs3 : smallR lll) (hl : l.length ≤ 1000) (hk : k < w0.heap.size) (hC : w0.heap.size ≤ C) (hi : i < lll.length) (he : hv hs i = .slice (some ⟨g3, 0, none⟩) 8 c3) (hr : ownI wr C (.slice (some ⟨r, 0, none⟩) 2 2) [x, y]) (hgB : g3 ≠ B) (hgR : g3 ≠ R) (hgC : C ≤ g3) :
    ∃ m, PE k B R C w0 (wr.setCell ⟨g3, 2, none⟩ (.slice (some ⟨r, 0, none⟩) 2 2)) (.int .i64 key) (.slice o2 nb c2) (.slice oQ n cQ) m := by
  obtain ⟨lll', s1, s2, s3⟩ := ring_bend h.gt h.ow hs3 hi he hr
  obtain ⟨o3, c3', hs8, e3, k1, k2⟩ := h.gt.2 i hi
  have e4 : hv hs i = .slice o3 (lll.getD i []).length c3' := by unfold hv; rw [e3]
  rw [he, (hs3.2.2 i hi).1] at e4
  injection e4 with q1 q2 q3
  subst q1 q3
  have hgr : wr.grownBy (wr.setCell ⟨g3, 2, none⟩ (.slice (some ⟨r, 0, none⟩) 2 2)) (some g3) := grown_set wr g3 2 _
  have hbk := World.ownsRow.kept h.bk hgr (own_apart h.bk k1 neK3)
  have hln := h.len
  subst hln
  refine ⟨⟨key, l, lll'⟩, set_box h.box (Ne.symm hgB), set_box h.res (Ne.symm hgR), ⟨_, _, rfl, InRow.ri (InRow.of hbk), InRow.cap (InRow.of hbk), s3, InRow.cap (InRow.of h.ow)⟩, small_fit hl s1.2.1 s1.2.2, h.dr.below hk ((Below.refl _ _).setCell (p := ⟨g3, 2, none⟩) (show w0.heap.size ≤ g3 by omega) _)⟩
theorem own_twoI (w : World) (x y : Int) : ownI (w.alloc (.cells #[.int .i64 x, .int .i64 y] 3)) w.heap.size (.slice (some ⟨w.heap.size, 0, none⟩) 2 2) [x, y] := ⟨by simp [layI], .inr ⟨w.heap.size, 2, #[.int .i64 x, .int .i64 y], rfl, Nat.le_refl _, heap_alloc_new w _, by simp, by decide, by simp [layI], by simp [layI]⟩⟩
theorem pickD_any (k : Nat) (vs : List Int) (w : World) (hc : isCur k w) (hk : k < w.heap.size) (h0 : 0 < vs.length) (h1 : vs.length ≤ 1000) :
    Calls Try.prog 81 #[.pointer (some ⟨k, 0, none⟩), .slice (some ⟨w.heap.size, 0, none⟩) vs.length vs.length] (w.alloc (.cells (vs.map (Value.int .i64)).toArray 3)).drew fun e w' => ∃ x, x ∈ vs ∧ e = .returned (.int .i64 x) ∧ isCur k w' ∧ w.grownBy w' (some k) := by
  refine (l1PickInt_any k w.heap.size vs _ ((hc.alloc hk _).below (Below.drew (Below.refl _ _))) (by simp) (by omega) h0 h1 (fun q hq => ?_)).mono ?_
  · refine bx_cell (World.alloc_heap_new w _) q _ ?_
    rw [List.getElem?_toArray, List.getElem?_map, List.getElem?_eq_getElem hq, List.getD_eq_getElem?_getD, List.getElem?_eq_getElem hq]
    rfl
  · rintro e w' ⟨q, hq, rfl, hc', hg'⟩
    have hg2 : (w.alloc (.cells (vs.map (Value.int .i64)).toArray 3)).grownBy w' (some k) := ⟨hg'.os, hg'.tape, hg'.output, hg'.size, hg'.block⟩
    refine ⟨_, ?_, rfl, hc', grownBy_then (grown_alloc w _ k) hg2⟩
    rw [List.getD_eq_getElem?_getD, List.getElem?_eq_getElem hq]
    exact List.getElem_mem hq

theorem bent_a {k B R C : Nat} {w0 wr : World} {key : Int} {l : List Bk} {lll : List (List (List Int))} {hs : List Hd} {o2 oQ : Option Addr} {nb c2 n cQ : Nat} {x : World} (h : PS k B R C w0 wr key l lll hs o2 nb c2 oQ n cQ) (hc : isCur k x) (hg : wr.grownBy x (some k)) (hB : B ≠ k) (hR : R ≠ k) (hC : k < C) : x.cell? ⟨B, 2, none⟩ = some (.slice oQ n cQ) := bx_cell (h.draw hc hg hB hR hC).box 2 _ rfl
theorem bent_b {k B R C : Nat} {w0 wr : World} {key : Int} {l : List Bk} {lll : List (List (List Int))} {hs : List Hd} {o2 : Option Addr} {nb c2 n cQ : Nat} {x : World} {g i g3 c3 : Nat} (h : PS k B R C w0 wr key l lll hs o2 nb c2 (some ⟨g, 0, none⟩) n cQ) (hc : isCur k x) (hg : wr.grownBy x (some k)) (hB : B ≠ k) (hR : R ≠ k) (hC : k < C) (hi : i < lll.length) (hvi : hv hs i = .slice (some ⟨g3, 0, none⟩) 8 c3) : x.cell? ⟨g, i, none⟩ = some (.slice (some ⟨g3, 0, none⟩) 8 c3) := by
  have h2 := h.draw hc hg hB hR hC
  rw [← hvi]; exact head_cell h2.ow i (by rw [h2.gt.1]; exact hi)
theorem bent_d {wr : World} {B g g3 i n cQ c3 : Nat} (hB : g3 ≠ B) (hg : g3 ≠ g) (h1 : ∀ O, (wr.alloc O).cell? ⟨B, 2, none⟩ = some (.slice (some ⟨g, 0, none⟩) n cQ)) (h2 : ∀ O, (wr.alloc O).cell? ⟨g, i, none⟩ = some (.slice (some ⟨g3, 0, none⟩) 8 c3)) (O : Obj) (v : Value) : ((wr.alloc O).setCell ⟨g3, 2, none⟩ v).cell? ⟨B, 2, none⟩ = some (.slice (some ⟨g, 0, none⟩) n cQ) ∧ ((wr.alloc O).setCell ⟨g3, 2, none⟩ v).cell? ⟨g, i, none⟩ = some (.slice (some ⟨g3, 0, none⟩) 8 c3) :=
  ⟨(World.cell?_setCell_far _ _ _ _ hB).trans (h1 O), (World.cell?_setCell_far _ _ _ _ hg).trans (h2 O)⟩
theorem bent_c {k B R C : Nat} {w0 wr : World} {key : Int} {l : List Bk} {lll : List (List (List Int))} {hs : List Hd} {o2 : Option Addr} {nb c2 n cQ g i g3 c3 : Nat} (h : PS k B R C w0 wr key l lll hs o2 nb c2 (some ⟨g, 0, none⟩) n cQ) (hi : i < lll.length) (hvi : hv hs i = .slice (some ⟨g3, 0, none⟩) 8 c3) (hsm : smallR lll) (hl : l.length ≤ 1000) (hk : k < w0.heap.size) (hC : w0.heap.size ≤ C) (hgB : g3 ≠ B) (hgR : g3 ≠ R) (hgC : C ≤ g3) (x : Int) :
    (∀ O, (wr.alloc O).cell? ⟨B, 2, none⟩ = some (.slice (some ⟨g, 0, none⟩) n cQ)) ∧ (∀ O, (wr.alloc O).cell? ⟨g, i, none⟩ = some (.slice (some ⟨g3, 0, none⟩) 8 c3)) ∧ (∃ u, (wr.alloc (.cells #[.int .i64 x, .int .i64 1] 3)).cell? ⟨g3, 2, none⟩ = some u) ∧ (∀ O, (wr.alloc O).frozen? ⟨g3, 2, none⟩ = false) ∧ Hid (∃ m, PE k B R C w0 ((wr.alloc (.cells #[.int .i64 x, .int .i64 1] 3)).setCell ⟨g3, 2, none⟩ (.slice (some ⟨wr.heap.size, 0, none⟩) 2 2)) (.int .i64 key) (.slice o2 nb c2) (.slice (some ⟨g, 0, none⟩) n cQ) m) := by
  have hA : ∀ O, PS k B R C w0 (wr.alloc O) key l lll hs o2 nb c2 (some ⟨g, 0, none⟩) n cQ := fun O => h.below ((Below.refl _ _).alloc (Nat.le_refl _) O) hk
  have hT : ∀ O, ∃ hs8 : List Hd, hs8.length = 8 ∧ (wr.alloc O).ownsRow C 43 layH.k (.slice (some ⟨g3, 0, none⟩) 8 c3) 8 (hs8.flatMap layH.cs) := fun O => by
    obtain ⟨o3, c3', hs8, e3, k1, k2⟩ := (hA O).gt.2 i hi
    have e4 : hv hs i = .slice o3 (lll.getD i []).length c3' := by unfold hv; rw [e3]
    rw [hvi, (hsm.2.2 i hi).1] at e4
    injection e4 with q1 q2 q3
    subst q1 q3
    have hl := k2.len
    rw [(hsm.2.2 i hi).1] at hl k1
    unfold ownL at k1
    rw [hl] at k1
    exact ⟨hs8, hl, k1⟩
  refine ⟨fun O => bx_cell (hA O).box 2 _ rfl, fun O => by rw [← hvi]; exact head_cell (hA O).ow i (by rw [(hA O).gt.1]; exact hi), ?_, fun O => ?_, ?_⟩
  · obtain ⟨hs8, hl, k1⟩ := hT (.cells #[.int .i64 x, .int .i64 1] 3)
    have k2 : ownL layH 43 (wr.alloc (.cells #[.int .i64 x, .int .i64 1] 3)) C (.slice (some ⟨g3, 0, none⟩) 8 c3) hs8 := by unfold ownL; rw [hl]; exact k1
    exact ⟨_, head_cell k2 2 (by omega)⟩
  · obtain ⟨hs8, hl, k1⟩ := hT O
    exact World.ownsRow.frozenAt k1 2
  · have hCw : C ≤ wr.heap.size := Nat.le_trans hgC (by obtain ⟨o3, c3', hs8, e3, k1, k2⟩ := h.gt.2 i hi; have e4 : hv hs i = .slice o3 (lll.getD i []).length c3' := (by unfold hv; rw [e3]); rw [hvi] at e4; injection e4 with q1 _ _; subst q1; exact Nat.le_of_lt (k1.lt g3 rfl).2)
    exact (hA _).bend hsm hl hk hC hi hvi (own_mono (own_twoI wr x 1) hCw) hgB hgR hgC

set_option maxRecDepth 100000 in
set_option maxHeartbeats 16000000 in
theorem l4bent_any (k : Nat) (w : World) (hc : isCur k w) (hk : k < w.heap.size) :
    Calls Try.prog 53 #[.pointer (some ⟨k, 0, none⟩)] w fun e w' => ∃ v m, e = .returned v ∧ RcPm w.heap.size w'.heap.size w' v m ∧ fitPm m ∧ Dr k w w' := by
  obtain ⟨W0, hW0⟩ : ∃ W, w.alloc (.cells #[.int .i64 0, .slice none 0 0, .slice none 0 0] 26) = W := ⟨_, rfl⟩
  have hb0 : Below w.heap.size w W0 := by rw [← hW0]; exact (Below.refl _ _).alloc (Nat.le_refl _) _
  have HD0 := hide (show Dr k w W0 from ⟨hc.below (hb0.mono hk), by rw [← hW0]; exact grown_alloc w _ k⟩)
  have HR0 : Hid (W0.heap[w.heap.size]? = some (.cells #[.int .i64 0, .slice none 0 0, .slice none 0 0] 26 (0, 0))) := by rw [← hW0]; exact World.alloc_heap_new w _
  have hs0 : w.heap.size < W0.heap.size := by rw [← hW0]; simp
  clear hb0 hc
  go_enter Try.func53, Try.ntmps53
  go_wp2_with fail
  refine (l4draw_any k W0 HD0.out.cur (HD0.out.lt hk)).mono ?_
  rintro e w1 ⟨key, l, lll, hs, o2, c2, oQ, cQ, rfl, hl100, hsm, ow1, ow2, hgt, hd1⟩
  obtain ⟨nb, hnb⟩ : ∃ n, l.length = n := ⟨_, rfl⟩
  obtain ⟨n, hn⟩ : ∃ n, lll.length = n := ⟨_, rfl⟩
  rw [hnb] at ow1 ⊢
  rw [hn] at ow2 ⊢
  have HSM := hide hsm
  have HNB := hide hnb
  have HN := hide hn
  have hL : l.length ≤ 1000 := by omega
  have HL := hide hL
  have hn1 : 1 ≤ n := by rw [← hn]; exact hsm.1
  have hn3 : n ≤ 3 := by rw [← hn]; exact hsm.2.1
  have hs1 : W0.heap.size ≤ w1.heap.size := hd1.gr.size
  have hb2 : Below w1.heap.size w1 (w1.alloc (.cells #[.int .i64 key, .slice o2 nb c2, .slice oQ n cQ] 26)) := (Below.refl _ _).alloc (Nat.le_refl _) _
  have HJ2 := hide (show PS k w1.heap.size w.heap.size W0.heap.size w (w1.alloc (.cells #[.int .i64 key, .slice o2 nb c2, .slice oQ n cQ] 26)) key l lll hs o2 nb c2 oQ n cQ from ⟨hnb.symm, World.alloc_heap_new w1 _, (hb2.block _ (by omega)).trans (grown_box hd1.gr hs0 (by omega) HR0.out), own_kept ow1 hb2, own_kept ow2 hb2, hgt.kept hb2, (HD0.out.step hd1.cur hd1.gr).below hk (hb2.mono (by omega))⟩)
  clear hb2 ow1 ow2 hgt hd1 HR0 HD0 hnb hn hsm hL hl100
  go_wp2_with fail
  generalize (w1.alloc (.cells #[.int .i64 key, .slice o2 nb c2, .slice oQ n cQ] 26)) = W2 at *
  obtain ⟨B, hB⟩ : ∃ B, w1.heap.size = B := ⟨_, rfl⟩
  simp only [hB] at HJ2 hs1 ⊢
  have hkB : B ≠ k := by omega
  have hkR : w.heap.size ≠ k := by omega
  have hRB : w.heap.size ≠ B := by omega
  have hwB : w.heap.size ≤ B := by omega
  have hkC : k < W0.heap.size := by omega
  clear hB
  refine (l1Once_any k 8 W2 HJ2.out.dr.cur (by decide) (by decide)).mono ?_
  rintro e w3 ⟨yes, rfl, hc3, hg3⟩
  have HJ3 := hide (HJ2.out.draw hc3 hg3 hkB hkR hkC)
  clear hc3 hg3 HJ2
  cases yes with
  | false =>
    have HE := hide (HJ3.out.end0 HSM.out HL.out)
    have z0 : w3.cell? ⟨B, 0, none⟩ = some (.int .i64 key) := bx_cell HE.out.box 0 _ rfl
    have z1 : w3.cell? ⟨B, 1, none⟩ = some (.slice o2 nb c2) := bx_cell HE.out.box 1 _ rfl
    have z2 : w3.cell? ⟨B, 2, none⟩ = some (.slice oQ n cQ) := bx_cell HE.out.box 2 _ rfl
    have r0 : w3.cell? ⟨w.heap.size, 0, none⟩ = some (.int .i64 0) := bx_cell HE.out.res 0 _ rfl
    have fr0 : w3.frozen? ⟨w.heap.size, 0, none⟩ = false := bx_frozen HE.out.res 0
    have r1 : w3.cell? ⟨w.heap.size, 1, none⟩ = some (.slice none 0 0) := bx_cell HE.out.res 1 _ rfl
    have fr1 : w3.frozen? ⟨w.heap.size, 1, none⟩ = false := bx_frozen HE.out.res 1
    have r2 : w3.cell? ⟨w.heap.size, 2, none⟩ = some (.slice none 0 0) := bx_cell HE.out.res 2 _ rfl
    have fr2 : w3.frozen? ⟨w.heap.size, 2, none⟩ = false := bx_frozen HE.out.res 2
    have HF := hide (HE.out.done hk hs0)
    clear HJ3 HE
    go_wp2
    refine bodyPost_ret (v := .agg #[.int .i64 key, .slice o2 nb c2, .slice oQ n cQ]) (by simp [results, Try.results53, go_sem, r0, r1, r2]) rfl ⟨_, _, rfl, HF.out.1, HF.out.2.1, HF.out.2.2⟩
  | true =>
    go_wp2_with fail
    refine (l1Below_any k 4 w3 HJ3.out.dr.cur (by decide) (by decide)).mono ?_
    rintro e w4 ⟨x, rfl, hx0, hx3, hc4, hg4⟩
    have HJ4 := hide (HJ3.out.draw hc4 hg4 hkB hkR hkC)
    clear hc4 hg4 HJ3
    by_cases e0 : x = 0
    · subst e0
      go_wp2_with fail
      refine (pick_any k [-1, 1000000, 3] w4 HJ4.out.dr.cur (HJ4.out.dr.lt hk) (by simp) (by simp)).mono ?_
      rintro e w5 ⟨y, _, rfl, hc5, hg5⟩
      have HJ5 := hide (HJ4.out.draw hc5 hg5 hkB hkR hkC)
      have HE := hide (HJ5.out.key HSM.out HL.out hk hwB hRB y)
      have y2 : w5.cell? ⟨B, 0, none⟩ = some (.int .i64 key) := bx_cell HJ5.out.box 0 _ rfl
      have fy2 : w5.frozen? ⟨B, 0, none⟩ = false := bx_frozen HJ5.out.box 0
      have q0 : (w5.setCell ⟨B, 0, none⟩ (.int .i64 y)).cell? ⟨B, 0, none⟩ = some (.int .i64 y) := bx_cell HE.out.box 0 _ rfl
      have q1 : (w5.setCell ⟨B, 0, none⟩ (.int .i64 y)).cell? ⟨B, 1, none⟩ = some (.slice o2 nb c2) := bx_cell HE.out.box 1 _ rfl
      have q2 : (w5.setCell ⟨B, 0, none⟩ (.int .i64 y)).cell? ⟨B, 2, none⟩ = some (.slice oQ n cQ) := bx_cell HE.out.box 2 _ rfl
      have r0 : (w5.setCell ⟨B, 0, none⟩ (.int .i64 y)).cell? ⟨w.heap.size, 0, none⟩ = some (.int .i64 0) := bx_cell HE.out.res 0 _ rfl
      have fr0 : (w5.setCell ⟨B, 0, none⟩ (.int .i64 y)).frozen? ⟨w.heap.size, 0, none⟩ = false := bx_frozen HE.out.res 0
      have r1 : (w5.setCell ⟨B, 0, none⟩ (.int .i64 y)).cell? ⟨w.heap.size, 1, none⟩ = some (.slice none 0 0) := bx_cell HE.out.res 1 _ rfl
      have fr1 : (w5.setCell ⟨B, 0, none⟩ (.int .i64 y)).frozen? ⟨w.heap.size, 1, none⟩ = false := bx_frozen HE.out.res 1
      have r2 : (w5.setCell ⟨B, 0, none⟩ (.int .i64 y)).cell? ⟨w.heap.size, 2, none⟩ = some (.slice none 0 0) := bx_cell HE.out.res 2 _ rfl
      have fr2 : (w5.setCell ⟨B, 0, none⟩ (.int .i64 y)).frozen? ⟨w.heap.size, 2, none⟩ = false := bx_frozen HE.out.res 2
      have HF := hide (HE.out.done hk hs0)
      clear HJ4 HJ5 HE
      go_wp2
      refine bodyPost_ret (v := .agg #[.int .i64 y, .slice o2 nb c2, .slice oQ n cQ]) (by simp [results, Try.results53, go_sem, r0, r1, r2]) rfl ⟨_, _, rfl, HF.out.1, HF.out.2.1, HF.out.2.2⟩
    by_cases e1 : x = 1
    · subst e1
      go_wp2_with fail
      refine (l3bent_any k w4 HJ4.out.dr.cur (HJ4.out.dr.lt hk)).mono ?_
      rintro e w5 ⟨v5, L5, rfl, ow5, hl7, hc5, hg5⟩
      obtain ⟨o5, c5, e5, _⟩ := ownL.open (L := layK) ow5
      subst e5
      obtain ⟨m5, hm5⟩ : ∃ m, L5.length = m := ⟨_, rfl⟩
      rw [hm5] at hl7 ow5 ⊢
      have HJ5 := hide (HJ4.out.draw hc5 hg5 hkB hkR hkC)
      have HE := hide (HJ5.out.backs HSM.out hl7 hm5.symm hk hwB hRB (Nat.le_trans hs1 (Nat.le_of_lt (Array.getElem?_eq_some_iff.1 HJ4.out.box).1)) ow5)
      clear ow5 hm5
      have y2 : w5.cell? ⟨B, 1, none⟩ = some (.slice o2 nb c2) := bx_cell HJ5.out.box 1 _ rfl
      have fy2 : w5.frozen? ⟨B, 1, none⟩ = false := bx_frozen HJ5.out.box 1
      have q0 : (w5.setCell ⟨B, 1, none⟩ (.slice o5 m5 c5)).cell? ⟨B, 0, none⟩ = some (.int .i64 key) := bx_cell HE.out.box 0 _ rfl
      have q1 : (w5.setCell ⟨B, 1, none⟩ (.slice o5 m5 c5)).cell? ⟨B, 1, none⟩ = some (.slice o5 m5 c5) := bx_cell HE.out.box 1 _ rfl
      have q2 : (w5.setCell ⟨B, 1, none⟩ (.slice o5 m5 c5)).cell? ⟨B, 2, none⟩ = some (.slice oQ n cQ) := bx_cell HE.out.box 2 _ rfl
      have r0 : (w5.setCell ⟨B, 1, none⟩ (.slice o5 m5 c5)).cell? ⟨w.heap.size, 0, none⟩ = some (.int .i64 0) := bx_cell HE.out.res 0 _ rfl
      have fr0 : (w5.setCell ⟨B, 1, none⟩ (.slice o5 m5 c5)).frozen? ⟨w.heap.size, 0, none⟩ = false := bx_frozen HE.out.res 0
      have r1 : (w5.setCell ⟨B, 1, none⟩ (.slice o5 m5 c5)).cell? ⟨w.heap.size, 1, none⟩ = some (.slice none 0 0) := bx_cell HE.out.res 1 _ rfl
      have fr1 : (w5.setCell ⟨B, 1, none⟩ (.slice o5 m5 c5)).frozen? ⟨w.heap.size, 1, none⟩ = false := bx_frozen HE.out.res 1
      have r2 : (w5.setCell ⟨B, 1, none⟩ (.slice o5 m5 c5)).cell? ⟨w.heap.size, 2, none⟩ = some (.slice none 0 0) := bx_cell HE.out.res 2 _ rfl
      have fr2 : (w5.setCell ⟨B, 1, none⟩ (.slice o5 m5 c5)).frozen? ⟨w.heap.size, 2, none⟩ = false := bx_frozen HE.out.res 2
      have HF := hide (HE.out.done hk hs0)
      clear HJ4 HJ5 HE
      go_wp2
      refine bodyPost_ret (v := .agg #[.int .i64 key, .slice o5 m5 c5, .slice oQ n cQ]) (by simp [results, Try.results53, go_sem, r0, r1, r2]) rfl ⟨_, _, rfl, HF.out.1, HF.out.2.1, HF.out.2.2⟩
    by_cases e2 : x = 2
    · subst e2
      have HJ5 := HJ4
      have HE := hide (HJ5.out.nil HL.out hk hwB hRB)
      have y2 : w4.cell? ⟨B, 2, none⟩ = some (.slice oQ n cQ) := bx_cell HJ5.out.box 2 _ rfl
      have fy2 : w4.frozen? ⟨B, 2, none⟩ = false := bx_frozen HJ5.out.box 2
      have q0 : (w4.setCell ⟨B, 2, none⟩ (.slice none 0 0)).cell? ⟨B, 0, none⟩ = some (.int .i64 key) := bx_cell HE.out.box 0 _ rfl
      have q1 : (w4.setCell ⟨B, 2, none⟩ (.slice none 0 0)).cell? ⟨B, 1, none⟩ = some (.slice o2 nb c2) := bx_cell HE.out.box 1 _ rfl
      have q2 : (w4.setCell ⟨B, 2, none⟩ (.slice none 0 0)).cell? ⟨B, 2, none⟩ = some (.slice none 0 0) := bx_cell HE.out.box 2 _ rfl
      have r0 : (w4.setCell ⟨B, 2, none⟩ (.slice none 0 0)).cell? ⟨w.heap.size, 0, none⟩ = some (.int .i64 0) := bx_cell HE.out.res 0 _ rfl
      have fr0 : (w4.setCell ⟨B, 2, none⟩ (.slice none 0 0)).frozen? ⟨w.heap.size, 0, none⟩ = false := bx_frozen HE.out.res 0
      have r1 : (w4.setCell ⟨B, 2, none⟩ (.slice none 0 0)).cell? ⟨w.heap.size, 1, none⟩ = some (.slice none 0 0) := bx_cell HE.out.res 1 _ rfl
      have fr1 : (w4.setCell ⟨B, 2, none⟩ (.slice none 0 0)).frozen? ⟨w.heap.size, 1, none⟩ = false := bx_frozen HE.out.res 1
      have r2 : (w4.setCell ⟨B, 2, none⟩ (.slice none 0 0)).cell? ⟨w.heap.size, 2, none⟩ = some (.slice none 0 0) := bx_cell HE.out.res 2 _ rfl
      have fr2 : (w4.setCell ⟨B, 2, none⟩ (.slice none 0 0)).frozen? ⟨w.heap.size, 2, none⟩ = false := bx_frozen HE.out.res 2
      have HF := hide (HE.out.done hk hs0)
      clear HJ4 HJ5 HE
      go_wp2
      refine bodyPost_ret (v := .agg #[.int .i64 key, .slice o2 nb c2, .slice none 0 0]) (by simp [results, Try.results53, go_sem, r0, r1, r2]) rfl ⟨_, _, rfl, HF.out.1, HF.out.2.1, HF.out.2.2⟩
    · have HCD : Hid (isCur k w4) := HJ4.out.dr.cur
      have HKD : Hid (k < w4.heap.size) := HJ4.out.dr.lt hk
      obtain ⟨g, cg, hve⟩ := own_someH HJ4.out.ow (by rw [HJ4.out.gt.1, HN.out]; omega)
      injection hve with ho1 hA1 hA2
      clear hA1 hA2
      subst ho1
      obtain ⟨i, hi⟩ : ∃ i, n = i + 1 := ⟨n - 1, by omega⟩
      have hil : i < lll.length := by rw [HN.out]; omega
      obtain ⟨o3, c3, hs8, e3, k1, k2⟩ := HJ4.out.gt.2 i hil
      rw [(HSM.out.2.2 i hil).1] at e3 k1 k2
      obtain ⟨g3, c3', hv3⟩ := own_someH k1 (by rw [k2.len]; decide)
      injection hv3 with ho3 hA1 hA2
      clear hA1 hA2
      subst ho3
      have hgl : W0.heap.size ≤ g ∧ g < w4.heap.size := HJ4.out.ow.lt g rfl
      have hg3l : W0.heap.size ≤ g3 ∧ g3 < w4.heap.size := k1.lt g3 rfl
      have hg3B : g3 ≠ B := by
        rcases own_box k1 HJ4.out.box neP2 with h | h
        · cases h
        · exact fun e => h (by rw [e]; rfl)
      have hgB : g ≠ B := by
        rcases own_box HJ4.out.ow HJ4.out.box neP1 with h | h
        · cases h
        · exact fun e => h (by rw [e]; rfl)
      have hvI : hv hs i = .slice (some ⟨g3, 0, none⟩) 8 c3 := by unfold hv; rw [e3]
      have z2 : w4.cell? ⟨B, 2, none⟩ = some (.slice (some ⟨g, 0, none⟩) n cQ) := bx_cell HJ4.out.box 2 _ rfl
      have zc : w4.cell? ⟨g, i, none⟩ = some (.slice (some ⟨g3, 0, none⟩) 8 c3) := by rw [← hvI]; exact head_cell HJ4.out.ow i (by rw [HJ4.out.gt.1]; exact hil)
      have HGG : g3 ≠ g := by
        rcases own_apart k1 HJ4.out.ow neT1 with h | h
        · cases h
        · exact fun e => h (by rw [e]; rfl)
      clear k1 k2 e3
      have hBl : B < w4.heap.size := (Array.getElem?_eq_some_iff.1 HJ4.out.box).1
      have hg3R : g3 ≠ w.heap.size := by omega
      have hgg : g3 ≠ g := HGG
      obtain ⟨rfl, rfl⟩ | ⟨rfl, rfl⟩ | ⟨rfl, rfl⟩ : (i = 0 ∧ n = 1) ∨ (i = 1 ∧ n = 2) ∨ (i = 2 ∧ n = 3) := by omega
      · have HPK : Hid (Calls Try.prog 81 #[.pointer (some ⟨k, 0, none⟩), .slice (some ⟨w4.heap.size, 0, none⟩) 3 3] (w4.alloc (.cells #[.int .i64 (-1), .int .i64 0, .int .i64 6] 3)).drew fun e w' => ∃ x, x ∈ ([-1, 0, 6] : List Int) ∧ e = .returned (.int .i64 x) ∧ isCur k w' ∧ w4.grownBy w' (some k)) := pickD_any k [-1, 0, 6] w4 HCD.out HKD.out (by decide) (by decide)
        have z2d : w4.drew.cell? ⟨B, 2, none⟩ = some (.slice (some ⟨g, 0, none⟩) 1 cQ) := z2
        have zcd : w4.drew.cell? ⟨g, 0, none⟩ = some (.slice (some ⟨g3, 0, none⟩) 8 c3) := zc
        have z2a : ∀ O, (w4.alloc O).cell? ⟨B, 2, none⟩ = some (.slice (some ⟨g, 0, none⟩) 1 cQ) := fun O => bC ((Below.refl _ _).alloc (Nat.le_refl _) O) z2 hBl
        have zca : ∀ O, (w4.alloc O).cell? ⟨g, 0, none⟩ = some (.slice (some ⟨g3, 0, none⟩) 8 c3) := fun O => bC ((Below.refl _ _).alloc (Nat.le_refl _) O) zc hgl.2
        have hwI : IntKind.i64.wrap 0 = 0 := by first | rfl | decide
        go_wp2
        go_region_held3 (fun w' => w'.cell? ⟨B, 2, none⟩ = some (.slice (some ⟨g, 0, none⟩) 1 cQ) ∧ w'.cell? ⟨g, 0, none⟩ = some (.slice (some ⟨g3, 0, none⟩) 8 c3)) (first | with_reducible exact ⟨z2, zc⟩ | with_reducible exact ⟨z2d, zcd⟩ | with_reducible exact ⟨z2a _, zca _⟩ | with_reducible exact ⟨y2, yc⟩ | with_reducible exact ⟨ha2 _, hac _⟩ | with_reducible exact hag _ _ | go_keep) (first | (go_at_call 81; refine (HPK.out).mono ?_; rintro e w5 ⟨x5, hmem, rfl, hc5, hg5⟩; clear hmem; have J5 := HJ4.out.draw hc5 hg5 hkB hkR hkC; have y2 := bent_a HJ4.out hc5 hg5 hkB hkR hkC; have yc := bent_b HJ4.out hc5 hg5 hkB hkR hkC hil hvI; obtain ⟨ha2, hac, ⟨u3, hau⟩, haf, hae⟩ := bent_c J5 hil hvI HSM.out HL.out hk (Nat.le_of_lt hs0) hg3B hg3R hg3l.1 x5; have hag := bent_d hg3B hgg ha2 hac; clear hc5 hg5))
        obtain ⟨m9, he9⟩ := hae.out
        have q0 : ((w5.alloc (.cells #[.int .i64 x5, .int .i64 1] 3)).setCell ⟨g3, 2, none⟩ (.slice (some ⟨w5.heap.size, 0, none⟩) 2 2)).cell? ⟨B, 0, none⟩ = some (.int .i64 key) := bx_cell he9.box 0 _ rfl
        have q1 : ((w5.alloc (.cells #[.int .i64 x5, .int .i64 1] 3)).setCell ⟨g3, 2, none⟩ (.slice (some ⟨w5.heap.size, 0, none⟩) 2 2)).cell? ⟨B, 1, none⟩ = some (.slice o2 nb c2) := bx_cell he9.box 1 _ rfl
        have q2 : ((w5.alloc (.cells #[.int .i64 x5, .int .i64 1] 3)).setCell ⟨g3, 2, none⟩ (.slice (some ⟨w5.heap.size, 0, none⟩) 2 2)).cell? ⟨B, 2, none⟩ = some (.slice (some ⟨g, 0, none⟩) 1 cQ) := bx_cell he9.box 2 _ rfl
        have r0 : ((w5.alloc (.cells #[.int .i64 x5, .int .i64 1] 3)).setCell ⟨g3, 2, none⟩ (.slice (some ⟨w5.heap.size, 0, none⟩) 2 2)).cell? ⟨w.heap.size, 0, none⟩ = some (.int .i64 0) := bx_cell he9.res 0 _ rfl
        have fr0 : ((w5.alloc (.cells #[.int .i64 x5, .int .i64 1] 3)).setCell ⟨g3, 2, none⟩ (.slice (some ⟨w5.heap.size, 0, none⟩) 2 2)).frozen? ⟨w.heap.size, 0, none⟩ = false := bx_frozen he9.res 0
        have r1 : ((w5.alloc (.cells #[.int .i64 x5, .int .i64 1] 3)).setCell ⟨g3, 2, none⟩ (.slice (some ⟨w5.heap.size, 0, none⟩) 2 2)).cell? ⟨w.heap.size, 1, none⟩ = some (.slice none 0 0) := bx_cell he9.res 1 _ rfl
        have fr1 : ((w5.alloc (.cells #[.int .i64 x5, .int .i64 1] 3)).setCell ⟨g3, 2, none⟩ (.slice (some ⟨w5.heap.size, 0, none⟩) 2 2)).frozen? ⟨w.heap.size, 1, none⟩ = false := bx_frozen he9.res 1
        have r2 : ((w5.alloc (.cells #[.int .i64 x5, .int .i64 1] 3)).setCell ⟨g3, 2, none⟩ (.slice (some ⟨w5.heap.size, 0, none⟩) 2 2)).cell? ⟨w.heap.size, 2, none⟩ = some (.slice none 0 0) := bx_cell he9.res 2 _ rfl
        have fr2 : ((w5.alloc (.cells #[.int .i64 x5, .int .i64 1] 3)).setCell ⟨g3, 2, none⟩ (.slice (some ⟨w5.heap.size, 0, none⟩) 2 2)).frozen? ⟨w.heap.size, 2, none⟩ = false := bx_frozen he9.res 2
        have HF := hide (he9.done hk hs0)
        clear HJ4 he9 hae ha2 hac hau haf hag J5 y2 yc z2 zc z2a zca z2d zcd HPK HSM HN HCD HKD
        go_wp2
        refine bodyPost_ret (v := .agg #[.int .i64 key, .slice o2 nb c2, .slice (some ⟨g, 0, none⟩) 1 cQ]) (by simp [results, Try.results53, go_sem, r0, r1, r2]) rfl ⟨_, _, rfl, HF.out.1, HF.out.2.1, HF.out.2.2⟩
      · have HPK : Hid (Calls Try.prog 81 #[.pointer (some ⟨k, 0, none⟩), .slice (some ⟨w4.heap.size, 0, none⟩) 3 3] (w4.alloc (.cells #[.int .i64 (-1), .int .i64 0, .int .i64 6] 3)).drew fun e w' => ∃ x, x ∈ ([-1, 0, 6] : List Int) ∧ e = .returned (.int .i64 x) ∧ isCur k w' ∧ w4.grownBy w' (some k)) := pickD_any k [-1, 0, 6] w4 HCD.out HKD.out (by decide) (by decide)
        have z2d : w4.drew.cell? ⟨B, 2, none⟩ = some (.slice (some ⟨g, 0, none⟩) 2 cQ) := z2
        have zcd : w4.drew.cell? ⟨g, 1, none⟩ = some (.slice (some ⟨g3, 0, none⟩) 8 c3) := zc
        have z2a : ∀ O, (w4.alloc O).cell? ⟨B, 2, none⟩ = some (.slice (some ⟨g, 0, none⟩) 2 cQ) := fun O => bC ((Below.refl _ _).alloc (Nat.le_refl _) O) z2 hBl
        have zca : ∀ O, (w4.alloc O).cell? ⟨g, 1, none⟩ = some (.slice (some ⟨g3, 0, none⟩) 8 c3) := fun O => bC ((Below.refl _ _).alloc (Nat.le_refl _) O) zc hgl.2
        have hwI : IntKind.i64.wrap 1 = 1 := by first | rfl | decide
        go_wp2
        go_region_held3 (fun w' => w'.cell? ⟨B, 2, none⟩ = some (.slice (some ⟨g, 0, none⟩) 2 cQ) ∧ w'.cell? ⟨g, 1, none⟩ = some (.slice (some ⟨g3, 0, none⟩) 8 c3)) (first | with_reducible exact ⟨z2, zc⟩ | with_reducible exact ⟨z2d, zcd⟩ | with_reducible exact ⟨z2a _, zca _⟩ | with_reducible exact ⟨y2, yc⟩ | with_reducible exact ⟨ha2 _, hac _⟩ | with_reducible exact hag _ _ | go_keep) (first | (go_at_call 81; refine (HPK.out).mono ?_; rintro e w5 ⟨x5, hmem, rfl, hc5, hg5⟩; clear hmem; have J5 := HJ4.out.draw hc5 hg5 hkB hkR hkC; have y2 := bent_a HJ4.out hc5 hg5 hkB hkR hkC; have yc := bent_b HJ4.out hc5 hg5 hkB hkR hkC hil hvI; obtain ⟨ha2, hac, ⟨u3, hau⟩, haf, hae⟩ := bent_c J5 hil hvI HSM.out HL.out hk (Nat.le_of_lt hs0) hg3B hg3R hg3l.1 x5; have hag := bent_d hg3B hgg ha2 hac; clear hc5 hg5))
        obtain ⟨m9, he9⟩ := hae.out
        have q0 : ((w5.alloc (.cells #[.int .i64 x5, .int .i64 1] 3)).setCell ⟨g3, 2, none⟩ (.slice (some ⟨w5.heap.size, 0, none⟩) 2 2)).cell? ⟨B, 0, none⟩ = some (.int .i64 key) := bx_cell he9.box 0 _ rfl
        have q1 : ((w5.alloc (.cells #[.int .i64 x5, .int .i64 1] 3)).setCell ⟨g3, 2, none⟩ (.slice (some ⟨w5.heap.size, 0, none⟩) 2 2)).cell? ⟨B, 1, none⟩ = some (.slice o2 nb c2) := bx_cell he9.box 1 _ rfl
        have q2 : ((w5.alloc (.cells #[.int .i64 x5, .int .i64 1] 3)).setCell ⟨g3, 2, none⟩ (.slice (some ⟨w5.heap.size, 0, none⟩) 2 2)).cell? ⟨B, 2, none⟩ = some (.slice (some ⟨g, 0, none⟩) 2 cQ) := bx_cell he9.box 2 _ rfl
        have r0 : ((w5.alloc (.cells #[.int .i64 x5, .int .i64 1] 3)).setCell ⟨g3, 2, none⟩ (.slice (some ⟨w5.heap.size, 0, none⟩) 2 2)).cell? ⟨w.heap.size, 0, none⟩ = some (.int .i64 0) := bx_cell he9.res 0 _ rfl
        have fr0 : ((w5.alloc (.cells #[.int .i64 x5, .int .i64 1] 3)).setCell ⟨g3, 2, none⟩ (.slice (some ⟨w5.heap.size, 0, none⟩) 2 2)).frozen? ⟨w.heap.size, 0, none⟩ = false := bx_frozen he9.res 0
        have r1 : ((w5.alloc (.cells #[.int .i64 x5, .int .i64 1] 3)).setCell ⟨g3, 2, none⟩ (.slice (some ⟨w5.heap.size, 0, none⟩) 2 2)).cell? ⟨w.heap.size, 1, none⟩ = some (.slice none 0 0) := bx_cell he9.res 1 _ rfl
        have fr1 : ((w5.alloc (.cells #[.int .i64 x5, .int .i64 1] 3)).setCell ⟨g3, 2, none⟩ (.slice (some ⟨w5.heap.size, 0, none⟩) 2 2)).frozen? ⟨w.heap.size, 1, none⟩ = false := bx_frozen he9.res 1
        have r2 : ((w5.alloc (.cells #[.int .i64 x5, .int .i64 1] 3)).setCell ⟨g3, 2, none⟩ (.slice (some ⟨w5.heap.size, 0, none⟩) 2 2)).cell? ⟨w.heap.size, 2, none⟩ = some (.slice none 0 0) := bx_cell he9.res 2 _ rfl
        have fr2 : ((w5.alloc (.cells #[.int .i64 x5, .int .i64 1] 3)).setCell ⟨g3, 2, none⟩ (.slice (some ⟨w5.heap.size, 0, none⟩) 2 2)).frozen? ⟨w.heap.size, 2, none⟩ = false := bx_frozen he9.res 2
        have HF := hide (he9.done hk hs0)
        clear HJ4 he9 hae ha2 hac hau haf hag J5 y2 yc z2 zc z2a zca z2d zcd HPK HSM HN HCD HKD
        go_wp2
        refine bodyPost_ret (v := .agg #[.int .i64 key, .slice o2 nb c2, .slice (some ⟨g, 0, none⟩) 2 cQ]) (by simp [results, Try.results53, go_sem, r0, r1, r2]) rfl ⟨_, _, rfl, HF.out.1, HF.out.2.1, HF.out.2.2⟩
      · have HPK : Hid (Calls Try.prog 81 #[.pointer (some ⟨k, 0, none⟩), .slice (some ⟨w4.heap.size, 0, none⟩) 3 3] (w4.alloc (.cells #[.int .i64 (-1), .int .i64 0, .int .i64 6] 3)).drew fun e w' => ∃ x, x ∈ ([-1, 0, 6] : List Int) ∧ e = .returned (.int .i64 x) ∧ isCur k w' ∧ w4.grownBy w' (some k)) := pickD_any k [-1, 0, 6] w4 HCD.out HKD.out (by decide) (by decide)
        have z2d : w4.drew.cell? ⟨B, 2, none⟩ = some (.slice (some ⟨g, 0, none⟩) 3 cQ) := z2
        have zcd : w4.drew.cell? ⟨g, 2, none⟩ = some (.slice (some ⟨g3, 0, none⟩) 8 c3) := zc
        have z2a : ∀ O, (w4.alloc O).cell? ⟨B, 2, none⟩ = some (.slice (some ⟨g, 0, none⟩) 3 cQ) := fun O => bC ((Below.refl _ _).alloc (Nat.le_refl _) O) z2 hBl
        have zca : ∀ O, (w4.alloc O).cell? ⟨g, 2, none⟩ = some (.slice (some ⟨g3, 0, none⟩) 8 c3) := fun O => bC ((Below.refl _ _).alloc (Nat.le_refl _) O) zc hgl.2
        have hwI : IntKind.i64.wrap 2 = 2 := by first | rfl | decide
        go_wp2
        go_region_held3 (fun w' => w'.cell? ⟨B, 2, none⟩ = some (.slice (some ⟨g, 0, none⟩) 3 cQ) ∧ w'.cell? ⟨g, 2, none⟩ = some (.slice (some ⟨g3, 0, none⟩) 8 c3)) (first | with_reducible exact ⟨z2, zc⟩ | with_reducible exact ⟨z2d, zcd⟩ | with_reducible exact ⟨z2a _, zca _⟩ | with_reducible exact ⟨y2, yc⟩ | with_reducible exact ⟨ha2 _, hac _⟩ | with_reducible exact hag _ _ | go_keep) (first | (go_at_call 81; refine (HPK.out).mono ?_; rintro e w5 ⟨x5, hmem, rfl, hc5, hg5⟩; clear hmem; have J5 := HJ4.out.draw hc5 hg5 hkB hkR hkC; have y2 := bent_a HJ4.out hc5 hg5 hkB hkR hkC; have yc := bent_b HJ4.out hc5 hg5 hkB hkR hkC hil hvI; obtain ⟨ha2, hac, ⟨u3, hau⟩, haf, hae⟩ := bent_c J5 hil hvI HSM.out HL.out hk (Nat.le_of_lt hs0) hg3B hg3R hg3l.1 x5; have hag := bent_d hg3B hgg ha2 hac; clear hc5 hg5))
        obtain ⟨m9, he9⟩ := hae.out
        have q0 : ((w5.alloc (.cells #[.int .i64 x5, .int .i64 1] 3)).setCell ⟨g3, 2, none⟩ (.slice (some ⟨w5.heap.size, 0, none⟩) 2 2)).cell? ⟨B, 0, none⟩ = some (.int .i64 key) := bx_cell he9.box 0 _ rfl
        have q1 : ((w5.alloc (.cells #[.int .i64 x5, .int .i64 1] 3)).setCell ⟨g3, 2, none⟩ (.slice (some ⟨w5.heap.size, 0, none⟩) 2 2)).cell? ⟨B, 1, none⟩ = some (.slice o2 nb c2) := bx_cell he9.box 1 _ rfl
        have q2 : ((w5.alloc (.cells #[.int .i64 x5, .int .i64 1] 3)).setCell ⟨g3, 2, none⟩ (.slice (some ⟨w5.heap.size, 0, none⟩) 2 2)).cell? ⟨B, 2, none⟩ = some (.slice (some ⟨g, 0, none⟩) 3 cQ) := bx_cell he9.box 2 _ rfl
        have r0 : ((w5.alloc (.cells #[.int .i64 x5, .int .i64 1] 3)).setCell ⟨g3, 2, none⟩ (.slice (some ⟨w5.heap.size, 0, none⟩) 2 2)).cell? ⟨w.heap.size, 0, none⟩ = some (.int .i64 0) := bx_cell he9.res 0 _ rfl
        have fr0 : ((w5.alloc (.cells #[.int .i64 x5, .int .i64 1] 3)).setCell ⟨g3, 2, none⟩ (.slice (some ⟨w5.heap.size, 0, none⟩) 2 2)).frozen? ⟨w.heap.size, 0, none⟩ = false := bx_frozen he9.res 0
        have r1 : ((w5.alloc (.cells #[.int .i64 x5, .int .i64 1] 3)).setCell ⟨g3, 2, none⟩ (.slice (some ⟨w5.heap.size, 0, none⟩) 2 2)).cell? ⟨w.heap.size, 1, none⟩ = some (.slice none 0 0) := bx_cell he9.res 1 _ rfl
        have fr1 : ((w5.alloc (.cells #[.int .i64 x5, .int .i64 1] 3)).setCell ⟨g3, 2, none⟩ (.slice (some ⟨w5.heap.size, 0, none⟩) 2 2)).frozen? ⟨w.heap.size, 1, none⟩ = false := bx_frozen he9.res 1
        have r2 : ((w5.alloc (.cells #[.int .i64 x5, .int .i64 1] 3)).setCell ⟨g3, 2, none⟩ (.slice (some ⟨w5.heap.size, 0, none⟩) 2 2)).cell? ⟨w.heap.size, 2, none⟩ = some (.slice none 0 0) := bx_cell he9.res 2 _ rfl
        have fr2 : ((w5.alloc (.cells #[.int .i64 x5, .int .i64 1] 3)).setCell ⟨g3, 2, none⟩ (.slice (some ⟨w5.heap.size, 0, none⟩) 2 2)).frozen? ⟨w.heap.size, 2, none⟩ = false := bx_frozen he9.res 2
        have HF := hide (he9.done hk hs0)
        clear HJ4 he9 hae ha2 hac hau haf hag J5 y2 yc z2 zc z2a zca z2d zcd HPK HSM HN HCD HKD
        go_wp2
        refine bodyPost_ret (v := .agg #[.int .i64 key, .slice o2 nb c2, .slice (some ⟨g, 0, none⟩) 3 cQ]) (by simp [results, Try.results53, go_sem, r0, r1, r2]) rfl ⟨_, _, rfl, HF.out.1, HF.out.2.1, HF.out.2.2⟩

end Go.Proofs.Ytldjaapbkihibaa

/- The drawn arguments of FnCandidates and FnPools. -/
namespace Go.Proofs.Ytldjaapbkihibaa
open Go.ChangeShapes Go.WideShapes Go.ChangeAt Go.RowKit Go.Joins
set_option linter.unusedVariables false
set_option linter.unusedSimpArgs false


theorem RcPm.opn {lo hi : Nat} {w : World} {v : Value} {m : Pm} (h : RcPm lo hi w v m) : ∃ (o : Option Addr) (c : Nat) (oR : Option Addr) (cR : Nat), v = plv m.key (.slice o m.l.length c) (.slice oR m.ring.length cR) := by
  obtain ⟨vb, vr, e, ⟨o, c, e1, _⟩, _, h2, _⟩ := h
  obtain ⟨oR, cR, e2⟩ := RiR.len (RcR.ri h2)
  exact ⟨o, c, oR, cR, by rw [e, e1, e2]⟩
theorem RcPm.rd {lo hi : Nat} {w : World} {v : Value} {m : Pm} (h : RcPm lo hi w v m) : RdPm hi w v m := by
  obtain ⟨vb, vr, e, h1, _, h2, _⟩ := h
  exact ⟨vb, vr, e, h1.mono (Nat.zero_le _) (Nat.le_refl _), RiR.mon.go (RcR.ri h2) (Nat.zero_le _) (Nat.le_refl _)⟩
theorem stp_grown1 {w w' : World} {K : Nat} (hg : w.grownBy w' (some K)) : Stp K (K + 1) w w' := Stp.grown hg (fun b e => by have : K = b := Option.some.inj e; omega)

set_option maxRecDepth 100000 in
set_option maxHeartbeats 4000000 in
theorem drawCand_any (o : Option Addr) (cap : Nat) (l : List Int) (w : World) (hR : Rd w o l) (hB8 : isB l) (hm : l.length ≤ maxLen) :
    Calls Try.prog 18 #[.slice o l.length cap] w fun e w' => ∃ v m b, e = .returned (.tuple #[v, .int .i64 b]) ∧ RcPm w.heap.size w'.heap.size w' v m ∧ fitPm m ∧ Below w.heap.size w w' := by
  obtain ⟨W0, hW0⟩ : ∃ W, w.alloc (.cells #[.int .i64 0, .slice none 0 0, .slice none 0 0] 26) = W := ⟨_, rfl⟩
  have hb0 : Below w.heap.size w W0 := by rw [← hW0]; exact (Below.refl _ _).alloc (Nat.le_refl _) _
  have HR0 : Hid (W0.heap[w.heap.size]? = some (.cells #[.int .i64 0, .slice none 0 0, .slice none 0 0] 26 (0, 0))) := by rw [← hW0]; exact World.alloc_heap_new w _
  have hs0 : w.heap.size < W0.heap.size := by rw [← hW0]; simp
  have HNW := hide (l1New_any o cap l W0 (hR.kept hb0) hB8 hm)
  have HB0 := hide hb0
  clear hR hb0
  go_enter Try.func18, Try.ntmps18
  go_wp2_with fail
  refine HNW.out.mono ?_
  rintro e w1 ⟨rfl, hc1, hb1, hs1⟩
  obtain ⟨K, hK⟩ : ∃ K, W0.heap.size = K := ⟨_, rfl⟩
  have HR1 := hide ((hb1.block _ hs0).trans HR0.out)
  have HB1 := hide (HB0.out.trans (hb1.mono HB0.out.size))
  simp only [hK] at hs0 hs1 hc1 ⊢
  have HC1 := hide hc1
  clear hb1 hc1 HR0 HB0 HNW hK
  go_wp2_with fail
  refine (l4bent_any K w1 HC1.out hs1).mono ?_
  rintro e w2 ⟨v, m, rfl, hin, hf, hd2⟩
  have HIN := hide hin
  have HF := hide hf
  obtain ⟨o2, c2, oR2, cR2, hve⟩ := hin.opn
  obtain ⟨key, hkey⟩ : ∃ x, m.key = x := ⟨_, rfl⟩
  obtain ⟨nb, hnb⟩ : ∃ x, m.l.length = x := ⟨_, rfl⟩
  obtain ⟨n, hn⟩ : ∃ x, m.ring.length = x := ⟨_, rfl⟩
  rw [hkey, hnb, hn] at hve
  subst hve
  have HR2 := hide (grown_box hd2.gr (show w.heap.size < w1.heap.size by omega) (by omega) HR1.out)
  have HB2 := hide (show Below w.heap.size w w2 from ⟨hd2.gr.os.trans HB1.out.os, hd2.gr.tape.trans HB1.out.tape, hd2.gr.output.trans HB1.out.output, Nat.le_trans HB1.out.size hd2.gr.size, fun q hq => (hd2.gr.block q (Nat.lt_of_lt_of_le hq HB1.out.size) (by simp; omega)).trans (HB1.out.block q hq)⟩)
  have HC2 := hide hd2.cur
  have hs21 : w1.heap.size ≤ w2.heap.size := hd2.gr.size
  clear hin hf hd2 HR1 HB1 HC1 hkey hnb hn
  go_wp2_with fail
  refine (l1Below_any K 10 w2 HC2.out (by decide) (by decide)).mono ?_
  rintro e w3 ⟨b, rfl, hb0, hb10, hc3, hg3⟩
  have hr3 := grown_box hg3 (show w.heap.size < w2.heap.size by omega) (by omega) HR2.out
  have hs32 : w2.heap.size ≤ w3.heap.size := hg3.size
  have HB3 := hide (show Below w.heap.size w w3 from ⟨hg3.os.trans HB2.out.os, hg3.tape.trans HB2.out.tape, hg3.output.trans HB2.out.output, Nat.le_trans HB2.out.size hg3.size, fun q hq => (hg3.block q (Nat.lt_of_lt_of_le hq HB2.out.size) (by simp; omega)).trans (HB2.out.block q hq)⟩)
  have HI3 := hide (((HIN.out.step (stp_grown1 hg3) (.inl (by omega))).mono (Nat.le_refl _) hs32).step (stp_setQ w3 w.heap.size (.int .i64 key) (.slice o2 nb c2) (.slice oR2 n cR2)) (.inl (by omega)))
  have r0 : w3.cell? ⟨w.heap.size, 0, none⟩ = some (.int .i64 0) := bx_cell hr3 0 _ rfl
  have fr0 : w3.frozen? ⟨w.heap.size, 0, none⟩ = false := bx_frozen hr3 0
  have r1 : w3.cell? ⟨w.heap.size, 1, none⟩ = some (.slice none 0 0) := bx_cell hr3 1 _ rfl
  have fr1 : w3.frozen? ⟨w.heap.size, 1, none⟩ = false := bx_frozen hr3 1
  have r2 : w3.cell? ⟨w.heap.size, 2, none⟩ = some (.slice none 0 0) := bx_cell hr3 2 _ rfl
  have fr2 : w3.frozen? ⟨w.heap.size, 2, none⟩ = false := bx_frozen hr3 2
  clear hc3 hg3 hr3 HR2 HB2 HC2 HIN
  have hwr : IntKind.i64.wrap (b - 1) = b - 1 := by rw [IntKind.wrap_i64]; omega
  go_wp2
  refine bodyPost_ret (v := .tuple #[plv key (.slice o2 nb c2) (.slice oR2 n cR2), .int .i64 (b - 1)]) (by simp [results, Try.results18, go_sem, r0, r1, r2, hwr]) rfl ⟨_, m, b - 1, rfl, ?_, HF.out, setP_below HB3.out (Nat.le_refl _) _ _ _⟩
  exact HI3.out.mono (by omega) (by rw [setQ_size]; exact Nat.le_refl _)

set_option maxRecDepth 100000 in
set_option maxHeartbeats 4000000 in
theorem drawPDo_any (o : Option Addr) (cap : Nat) (l : List Int) (w : World) (hR : Rd w o l) (hB8 : isB l) (hm : l.length ≤ maxLen) :
    Calls Try.prog 12 #[.slice o l.length cap] w fun e w' => ∃ v m a i g, e = .returned (.tuple #[v, cmd a i g]) ∧ RcPm w.heap.size w'.heap.size w' v m ∧ fitPm m ∧ Below w.heap.size w w' := by
  obtain ⟨W0, hW0⟩ : ∃ W, (w.alloc (.cells #[.int .i64 0, .slice none 0 0, .slice none 0 0] 26)).alloc (.cells #[.int .i64 0, .int .i64 0, .int .i64 0] 28) = W := ⟨_, rfl⟩
  have hb0 : Below w.heap.size w W0 := by rw [← hW0]; exact (((Below.refl _ _).alloc (Nat.le_refl _) _).alloc (by simp <;> omega) _)
  have HR0 : Hid (W0.heap[w.heap.size]? = some (.cells #[.int .i64 0, .slice none 0 0, .slice none 0 0] 26 (0, 0))) := by rw [← hW0]; exact box_old2 w _ _ _
  have HK0 : Hid (W0.heap[w.heap.size + 1]? = some (.cells #[.int .i64 0, .int .i64 0, .int .i64 0] 28 (0, 0))) := by rw [← hW0]; exact box_new2 w _ _ _
  have hs0 : w.heap.size + 1 < W0.heap.size := by rw [← hW0]; simp
  have HNW := hide (l1New_any o cap l W0 (hR.kept hb0) hB8 hm)
  have HB0 := hide hb0
  clear hR hb0
  go_enter Try.func12, Try.ntmps12
  go_wp2_with fail
  refine HNW.out.mono ?_
  rintro e w1 ⟨rfl, hc1, hb1, hs1⟩
  obtain ⟨K, hK⟩ : ∃ K, W0.heap.size = K := ⟨_, rfl⟩
  have HR1 := hide ((hb1.block _ (by omega)).trans HR0.out)
  have HK1 := hide ((hb1.block _ (by omega)).trans HK0.out)
  have HB1 := hide (HB0.out.trans (hb1.mono HB0.out.size))
  simp only [hK] at hs0 hs1 hc1 ⊢
  have HC1 := hide hc1
  clear hb1 hc1 HR0 HK0 HB0 HNW hK
  go_wp2_with fail
  refine (l4bent_any K w1 HC1.out hs1).mono ?_
  rintro e w2 ⟨v, m, rfl, hin, hf, hd2⟩
  have HIN := hide hin
  have HF := hide hf
  obtain ⟨o2, c2, oR2, cR2, hve⟩ := hin.opn
  obtain ⟨key, hkey⟩ : ∃ x, m.key = x := ⟨_, rfl⟩
  obtain ⟨nb, hnb⟩ : ∃ x, m.l.length = x := ⟨_, rfl⟩
  obtain ⟨n, hn⟩ : ∃ x, m.ring.length = x := ⟨_, rfl⟩
  rw [hkey, hnb, hn] at hve
  subst hve
  have HR2 := hide (grown_box hd2.gr (show w.heap.size < w1.heap.size by omega) (by omega) HR1.out)
  have HK2 := hide (grown_box hd2.gr (show w.heap.size + 1 < w1.heap.size by omega) (by omega) HK1.out)
  have HB2 := hide (show Below w.heap.size w w2 from ⟨hd2.gr.os.trans HB1.out.os, hd2.gr.tape.trans HB1.out.tape, hd2.gr.output.trans HB1.out.output, Nat.le_trans HB1.out.size hd2.gr.size, fun q hq => (hd2.gr.block q (Nat.lt_of_lt_of_le hq HB1.out.size) (by simp; omega)).trans (HB1.out.block q hq)⟩)
  have HC2 := hide hd2.cur
  have hs21 : w1.heap.size ≤ w2.heap.size := hd2.gr.size
  clear hin hf hd2 HR1 HK1 HB1 HC1 hkey hnb hn
  go_wp2_with fail
  refine (l4bentCmd_any K w2 HC2.out (by omega)).mono ?_
  rintro e w3 ⟨a, i, g, rfl, hd3⟩
  have hr3 := grown_box hd3.gr (show w.heap.size < w2.heap.size by omega) (by omega) HR2.out
  have hk3 := grown_box hd3.gr (show w.heap.size + 1 < w2.heap.size by omega) (by omega) HK2.out
  have hs32 : w2.heap.size ≤ w3.heap.size := hd3.gr.size
  have HB3 := hide (show Below w.heap.size w w3 from ⟨hd3.gr.os.trans HB2.out.os, hd3.gr.tape.trans HB2.out.tape, hd3.gr.output.trans HB2.out.output, Nat.le_trans HB2.out.size hd3.gr.size, fun q hq => (hd3.gr.block q (Nat.lt_of_lt_of_le hq HB2.out.size) (by simp; omega)).trans (HB2.out.block q hq)⟩)
  have HI3 := hide ((((HIN.out.step (stp_grown1 hd3.gr) (.inl (by omega))).mono (Nat.le_refl _) hs32).step (stp_setQ w3 w.heap.size (.int .i64 key) (.slice o2 nb c2) (.slice oR2 n cR2)) (.inl (by omega))).step (stp_setQ (setP w3 w.heap.size (.int .i64 key) (.slice o2 nb c2) (.slice oR2 n cR2)) (w.heap.size + 1) (.int .i64 a) (.int .i64 i) (.int .i64 g)) (.inl (by omega)))
  have r0 : w3.cell? ⟨w.heap.size, 0, none⟩ = some (.int .i64 0) := bx_cell hr3 0 _ rfl
  have fr0 : w3.frozen? ⟨w.heap.size, 0, none⟩ = false := bx_frozen hr3 0
  have r1 : w3.cell? ⟨w.heap.size, 1, none⟩ = some (.slice none 0 0) := bx_cell hr3 1 _ rfl
  have fr1 : w3.frozen? ⟨w.heap.size, 1, none⟩ = false := bx_frozen hr3 1
  have r2 : w3.cell? ⟨w.heap.size, 2, none⟩ = some (.slice none 0 0) := bx_cell hr3 2 _ rfl
  have fr2 : w3.frozen? ⟨w.heap.size, 2, none⟩ = false := bx_frozen hr3 2
  have q0 : w3.cell? ⟨w.heap.size + 1, 0, none⟩ = some (.int .i64 0) := bx_cell hk3 0 _ rfl
  have fq0 : w3.frozen? ⟨w.heap.size + 1, 0, none⟩ = false := bx_frozen hk3 0
  have q1 : w3.cell? ⟨w.heap.size + 1, 1, none⟩ = some (.int .i64 0) := bx_cell hk3 1 _ rfl
  have fq1 : w3.frozen? ⟨w.heap.size + 1, 1, none⟩ = false := bx_frozen hk3 1
  have q2 : w3.cell? ⟨w.heap.size + 1, 2, none⟩ = some (.int .i64 0) := bx_cell hk3 2 _ rfl
  have fq2 : w3.frozen? ⟨w.heap.size + 1, 2, none⟩ = false := bx_frozen hk3 2
  clear hd3 hr3 hk3 HR2 HK2 HB2 HC2 HIN
  go_wp2
  refine bodyPost_ret (v := .tuple #[plv key (.slice o2 nb c2) (.slice oR2 n cR2), cmd a i g]) (by simp [results, Try.results12, go_sem, r0, r1, r2, q0, q1, q2]) rfl ⟨_, m, a, i, g, rfl, ?_, HF.out, setP_below (setP_below HB3.out (Nat.le_refl _) _ _ _) (Nat.le_succ _) _ _ _⟩
  exact HI3.out.mono (by omega) (by rw [setQ_size, setQ_size]; exact Nat.le_refl _)

end Go.Proofs.Ytldjaapbkihibaa

/- Candidates: each once, all of the pairs, no more than six. -/
namespace Go.Proofs.Ytldjaapbkihibaa
open Go.ChangeShapes Go.WideShapes Go.ChangeAt Go.RowKit Go.Joins
set_option linter.unusedVariables false
set_option linter.unusedSimpArgs false


theorem addTo_mem (out : List Int) (x y : Int) : y ∈ addTo out x ↔ y ∈ out ∨ y = x := by
  unfold addTo
  by_cases h : out.contains x = true
  · rw [if_pos h]
    have hx : x ∈ out := by simpa using h
    exact ⟨fun h => .inl h, fun h => h.elim id (fun e => by rw [e]; exact hx)⟩
  · rw [if_neg h]; simp
theorem addAll_mem (l : List Int) : ∀ (out : List Int) (y : Int), y ∈ addAll out l ↔ y ∈ out ∨ y ∈ l := by
  induction l with
  | nil => intro out y; simp [addAll]
  | cons a l ih =>
    intro out y
    show y ∈ addAll (addTo out a) l ↔ _
    rw [ih, addTo_mem]
    simp [or_assoc]
theorem candFold_mem (b : Nat) (R : List (List (List Int))) : ∀ (out : List Int) (y : Int), y ∈ R.foldl (fun out t => addAll out (t.getD b [])) out ↔ y ∈ out ∨ ∃ t ∈ R, y ∈ t.getD b [] := by
  induction R with
  | nil => intro out y; simp
  | cons a R ih =>
    intro out y
    rw [List.foldl_cons, ih, addAll_mem]
    constructor
    · rintro ((h | h) | ⟨t, h1, h2⟩)
      · exact .inl h
      · exact .inr ⟨a, by simp, h⟩
      · exact .inr ⟨t, by simp [h1], h2⟩
    · rintro (h | ⟨t, h1, h2⟩)
      · exact .inl (.inl h)
      · rcases List.mem_cons.1 h1 with e | h1
        · subst e; exact .inl (.inr h2)
        · exact .inr ⟨t, h1, h2⟩
theorem addTo_nodup {out : List Int} (x : Int) (h : out.Nodup) : (addTo out x).Nodup := by
  unfold addTo
  by_cases hc : out.contains x = true
  · rw [if_pos hc]; exact h
  · rw [if_neg hc]
    have hx : x ∉ out := by simpa using hc
    rw [List.nodup_append]
    exact ⟨h, by simp, fun a ha b hb e => by simp at hb; subst hb; subst e; exact hx ha⟩
theorem addAll_nodup (l : List Int) : ∀ {out : List Int}, out.Nodup → (addAll out l).Nodup := by
  induction l with
  | nil => intro out h; exact h
  | cons a l ih => intro out h; exact ih (addTo_nodup a h)
theorem candFold_nodup (b : Nat) (R : List (List (List Int))) : ∀ {out : List Int}, out.Nodup → (R.foldl (fun out t => addAll out (t.getD b [])) out).Nodup := by
  induction R with
  | nil => intro out h; exact h
  | cons a R ih => intro out h; exact ih (addAll_nodup _ h)
theorem six_most : ∀ (n : Nat) (l : List Int), l.Nodup → (∀ x ∈ l, 0 ≤ x ∧ x < (n : Int)) → l.length ≤ n
  | 0, l, _, h => by
    cases l with
    | nil => simp
    | cons a l => have := h a (by simp); omega
  | n + 1, l, hd, h => by
    by_cases hn : ((n : Int)) ∈ l
    · have h1 := six_most n (l.erase (n : Int)) (hd.erase _) (fun x hx => by
        have hx' := (List.Nodup.mem_erase_iff hd).1 hx
        have := h x hx'.2
        have hne := hx'.1
        omega)
      rw [List.length_erase_of_mem hn] at h1
      omega
    · have h1 := six_most n l hd (fun x hx => by
        have := h x hx
        have hne : x ≠ (n : Int) := fun e => hn (e ▸ hx)
        omega)
      omega
theorem pair_ids {l : List Int} (h : pairOkB l = true) : ∀ x ∈ l, 0 ≤ x ∧ x < 6 := by
  intro x hx
  obtain ⟨j, hj, rfl⟩ := List.getElem_of_mem hx
  cases hid : idB (l[j]) with
  | true => unfold idB at hid; simp at hid; omega
  | false =>
    have hb := pairOk_bad (l := l) hj (by rw [List.getD_eq_getElem?_getD, List.getElem?_eq_getElem hj]; exact hid)
    rw [hb] at h
    cases h
/-- What FnCandidates looks at. -/
theorem cand_facts {m : Pm} {q : Int} (h : poolB m = true) (h0 : 0 ≤ q) (h8 : q < 8) : (∀ i k, i < (candM m q).length → k < i → (candM m q).getD i 0 ≠ (candM m q).getD k 0) ∧ (∀ i k, i < m.ring.length → k < ((m.ring.getD i []).getD q.toNat []).length → (candM m q).contains (((m.ring.getD i []).getD q.toNat []).getD k 0) = true) ∧ (candM m q).length ≤ 6 := by
  have e : candM m q = candL m.ring q.toNat := by unfold candM; rw [if_pos (by simp [h, h0, h8])]
  have hf := pool_facts h
  have hnd : (candL m.ring q.toNat).Nodup := candFold_nodup _ _ (List.nodup_nil)
  rw [e]
  refine ⟨fun i k hi hk he => ?_, fun i k hi hk => ?_, ?_⟩
  · have hp := (List.pairwise_iff_getElem.1 hnd) k i (by omega) hi hk
    simp [hi, (show k < (candL m.ring q.toNat).length by omega)] at he
    exact hp he.symm
  · have hm : (((m.ring.getD i []).getD q.toNat []).getD k 0) ∈ candL m.ring q.toNat := by
      refine (candFold_mem q.toNat m.ring [] _).2 (.inr ⟨m.ring.getD i [], ?_, ?_⟩)
      · rw [List.getD_eq_getElem?_getD, List.getElem?_eq_getElem hi]; exact List.getElem_mem hi
      · rw [List.getD_eq_getElem?_getD (l := (m.ring.getD i []).getD q.toNat []), List.getElem?_eq_getElem hk]; exact List.getElem_mem hk
    simpa using hm
  · refine six_most 6 _ hnd (fun x hx => ?_)
    rcases (candFold_mem q.toNat m.ring [] x).1 hx with hx | ⟨t, ht, hx⟩
    · cases hx
    · obtain ⟨i, hi, rfl⟩ := List.getElem_of_mem ht
      have h5 := hf.2.2.2.2 i hi
      have e2 : m.ring.getD i [] = m.ring[i] := by simp [hi]
      rw [e2] at h5
      have := pair_ids ((pair_row h5).2 q.toNat (by omega)) x hx
      exact this

end Go.Proofs.Ytldjaapbkihibaa

/- What a command that is done leaves, as FnPools looks at it. -/
namespace Go.Proofs.Ytldjaapbkihibaa
open Go.ChangeShapes Go.WideShapes Go.ChangeAt Go.RowKit Go.Joins
set_option linter.unusedVariables false
set_option linter.unusedSimpArgs false


theorem pw_uniq : ∀ {m : List Bk}, m.Pairwise (fun a b => a.1 < b.1) → ∀ x ∈ m, ∀ y ∈ m, x.1 = y.1 → x = y
  | [], _, x, hx, _, _, _ => by cases hx
  | a :: m, h, x, hx, y, hy, e => by
    rw [List.pairwise_cons] at h
    rcases List.mem_cons.1 hx with e1 | hx
    · rcases List.mem_cons.1 hy with e2 | hy
      · rw [e1, e2]
      · have := h.1 y hy; rw [e1] at e; omega
    · rcases List.mem_cons.1 hy with e2 | hy
      · have := h.1 x hx; rw [e2] at e; omega
      · exact pw_uniq h.2 x hx y hy e
theorem do_one {m : List Bk} {a i g : Int} {y : Bk} (hp : m.Pairwise (fun a b => a.1 < b.1)) (hy : y ∈ m) (h1 : y.1 = i) (h2 : a ≤ 1 → y.2.1 = g) (h3 : a = 2 → y.2.2 = true) (h4 : a ≠ 3) : (∀ b ∈ m, b.1 = i → (a ≤ 1 → b.2.1 = g) ∧ (a = 2 → b.2.2 = true)) ∧ (m.any (fun b => b.1 == i)) = decide (a ≠ 3) := by
  refine ⟨fun b hb e => ?_, ?_⟩
  · have : b = y := pw_uniq hp b hb y hy (by rw [e, h1])
    rw [this]; exact ⟨h2, h3⟩
  · rw [decide_eq_true h4, List.any_eq_true]
    exact ⟨y, hy, by simp [h1]⟩
theorem do_said {l m : List Bk} {a i g : Int} (hl : backsOkB l = true) (hc : cmdOkB a i g = true) (h : doL l a i g = some m) : (∀ b ∈ m, b.1 = i → (a ≤ 1 → b.2.1 = g) ∧ (a = 2 → b.2.2 = true)) ∧ (m.any (fun b => b.1 == i)) = decide (a ≠ 3) := by
  have hm := (backsOk_pw.1 (doL_ok hl hc h)).1
  have hlp := (backsOk_pw.1 hl).1
  have hcc := cmdOkB_iff.1 hc
  rcases doL_some h with ⟨ht, rfl, rfl⟩ | ⟨ht, rfl, rfl⟩ | ⟨ht, rfl, rfl⟩ | ⟨ht, h0, h1, h2, rfl⟩
  · exact do_one hm (y := (i, g, false)) (by simp) rfl (fun _ => rfl) (fun h => by omega) (by omega)
  · exact do_one hm (y := (i, g, (l.getD (placeN l i) (0, 0, false)).2.2)) (List.mem_set (there_lt0 ht) _) rfl (fun _ => rfl) (fun h => by omega) (by omega)
  · exact do_one hm (y := (i, (l.getD (placeN l i) (0, 0, false)).2.1, true)) (List.mem_set (there_lt0 ht) _) rfl (fun h => by omega) (fun _ => rfl) (by omega)
  · have hlt := there_lt0 ht
    have hii := there_is0 ht
    have ha : a = 3 := by unfold CmdOk at hcc; omega
    have hno : ∀ b ∈ l.take (placeN l i) ++ l.drop (placeN l i + 1), b.1 ≠ i := by
      intro b hb
      rcases List.mem_append.1 hb with hb | hb
      · have := take_below l i b hb; omega
      · have e : l.take (placeN l i + 1) ++ l.drop (placeN l i + 1) = l := List.take_append_drop _ _
        rw [← e, List.pairwise_append] at hlp
        have h1 : l.getD (placeN l i) (0, 0, false) ∈ l.take (placeN l i + 1) := by
          rw [take_snoc hlt]; simp
        have := hlp.2.2 _ h1 b hb
        omega
    refine ⟨fun b hb e => absurd e (hno b hb), ?_⟩
    rw [ha]
    rw [Bool.eq_iff_iff]
    simp only [List.any_eq_true, decide_eq_true_eq]
    constructor
    · rintro ⟨b, hb, e⟩; exact absurd (by simpa using e) (hno b hb)
    · intro h; exact absurd rfl h
theorem take_any (m : List Bk) (i : Int) (j : Nat) (h : j < m.length) : (m.take (j + 1)).any (fun b => b.1 == i) = ((m.take j).any (fun b => b.1 == i) || ((m.getD j (0, 0, false)).1 == i)) := by
  rw [take_snoc h, List.any_append]
  simp
/-- A command that is done leaves a pool that may be. -/
theorem pdo_yes {m : Pm} {a i g : Int} (h : pdoF m a i g = true) : ∃ l, poolB m = true ∧ cmdOkB a i g = true ∧ doL m.l a i g = some l ∧ pdoM m a i g = ⟨m.key, l, (newT m.key l :: m.ring).take 3⟩ ∧ poolB (pdoM m a i g) = true := by
  unfold pdoF at h
  rw [Bool.and_eq_true, Bool.and_eq_true] at h
  obtain ⟨⟨h1, h2⟩, h3⟩ := h
  obtain ⟨l, hl⟩ := Option.isSome_iff_exists.1 h3
  have e : pdoM m a i g = ⟨m.key, l, (newT m.key l :: m.ring).take 3⟩ := by
    unfold pdoM
    rw [if_pos (by rw [h1, h2]; rfl), hl]
  obtain ⟨f1, f2, f3, f4, f5⟩ := pool_facts h1
  have hlo := doL_ok f2 h2 hl
  refine ⟨l, h1, h2, hl, e, ?_⟩
  rw [e]
  refine pool_rest f1 hlo (by dsimp only; rw [List.length_take, List.length_cons]; omega) (by dsimp only; rw [List.length_take]; omega) (fun j hj => ?_) ?_
  · dsimp only at hj ⊢
    rw [List.length_take, List.length_cons] at hj
    rw [take_getD _ _ _ _ (by omega)]
    cases j with
    | zero => exact tabOk_new m.key hlo
    | succ j => rw [List.getD_cons_succ]; exact f5 j (by omega)
  · dsimp only
    rw [take_getD _ _ _ _ (by omega)]
    show movedI (newT m.key l) (newT m.key l) = 0
    unfold movedI
    rw [if_pos ⟨newT_len _ _, newT_len _ _⟩]
    exact moved_none 8 (fun _ _ => rfl)
theorem pdo_no {m : Pm} {a i g : Int} (h : pdoF m a i g = false) : (pdoM m a i g).ring.length = 0 ∨ (pdoM m a i g = m ∧ 1 ≤ m.ring.length ∧ ∀ j, j < m.ring.length → (m.ring.getD j []).length = 8) := by
  by_cases h1 : (poolB m && cmdOkB a i g) = true
  · right
    have hn : doL m.l a i g = none := by
      unfold pdoF at h
      rw [h1] at h
      cases hd : doL m.l a i g with
      | none => rfl
      | some l => rw [hd] at h; cases h
    have hp : poolB m = true := by rw [Bool.and_eq_true] at h1; exact h1.1
    obtain ⟨f1, f2, f3, f4, f5⟩ := pool_facts hp
    refine ⟨by unfold pdoM; rw [if_pos h1, hn], f3, fun j hj => (tab_pair (f5 j hj)).1⟩
  · left
    unfold pdoM; rw [if_neg h1]; rfl

end Go.Proofs.Ytldjaapbkihibaa

/- The laws' samePool: two that read as one pool are one. -/
namespace Go.Proofs.Ytldjaapbkihibaa
open Go.ChangeShapes Go.WideShapes Go.ChangeAt Go.RowKit Go.Joins
set_option linter.unusedVariables false
set_option linter.unusedSimpArgs false


theorem movedI_self {ll : List (List Int)} (h : ll.length = 8) : movedI ll ll = 0 := by
  unfold movedI
  rw [if_pos ⟨h, h⟩]
  exact moved_none 8 (fun i _ => rfl)
theorem RiK.cell {C : Nat} {w : World} {o : Option Addr} {n c : Nat} {l : List Bk} (h : RiV layK 0 C w (.slice o n c) l) (j : Nat) (hj : j < l.length) : ∃ g off, o = some ⟨g, off, none⟩ ∧ g < C ∧ w.cell? ⟨g, off + j * 3, none⟩ = some (.int .i64 (l.getD j (0, 0, false)).1) ∧ w.cell? ⟨g, off + j * 3 + 1, none⟩ = some (.int .i64 (l.getD j (0, 0, false)).2.1) ∧ w.cell? ⟨g, off + j * 3 + 2, none⟩ = some (.bool (l.getD j (0, 0, false)).2.2) := by
  obtain ⟨o1, c1, e, r⟩ := RiV.open h
  injection e with e1 _ _
  subst e1
  rcases r with r | ⟨b, off, ho, hb, r⟩
  · subst r; exact absurd hj (Nat.not_lt_zero _)
  · exact ⟨b, off, ho, hb, r j hj 0 (by decide), r j hj 1 (by decide), r j hj 2 (by decide)⟩

set_option maxRecDepth 100000 in
set_option maxHeartbeats 8000000 in
theorem samePool_sh (v1 v2 : Value) (m : Pm) (w : World) (h1 : RdPm w.heap.size w v1 m) (h2 : RdPm w.heap.size w v2 m) (hf : fitPm m) (h8 : ∀ i, i < m.ring.length → (m.ring.getD i []).length = 8) :
    Calls Try.prog 14 #[v1, v2] w fun e w' => e = .returned (.bool true) ∧ Below w.heap.size w w' := by
  obtain ⟨vb1, vr1, rfl, hb1, r1⟩ := h1
  obtain ⟨vb2, vr2, rfl, hb2, r2⟩ := h2
  obtain ⟨o1, c1, rfl, _⟩ := hb1.open
  obtain ⟨o2, c2, rfl, _⟩ := hb2.open
  obtain ⟨oR1, cR1, rfl⟩ := RiR.len r1
  obtain ⟨oR2, cR2, rfl⟩ := RiR.len r2
  obtain ⟨hf1, hf2, hf3, hf4, hf5⟩ := hf
  have HB1 := hide hb1
  have HB2 := hide hb2
  have HR1 := hide r1
  have HR2 := hide r2
  have H8 := hide h8
  have HF4 := hide hf4
  have HF5 := hide hf5
  obtain ⟨key, hkey⟩ : ∃ x, m.key = x := ⟨_, rfl⟩
  obtain ⟨nb, hnb⟩ : ∃ x, m.l.length = x := ⟨_, rfl⟩
  obtain ⟨n, hn⟩ : ∃ x, m.ring.length = x := ⟨_, rfl⟩
  have HNB := hide hnb
  have HN := hide hn
  rw [hkey, hnb, hn]
  rw [hnb] at HB1 HB2 hf1
  rw [hn] at HR1 HR2 H8 HF4 HF5 hf2
  clear hkey hnb hn hb1 hb2 r1 r2 h8 hf3 hf4 hf5
  obtain ⟨W0, hW0⟩ : ∃ W, ((w.alloc (.cells #[.int .i64 key, .slice o1 nb c1, .slice oR1 n cR1] 26)).alloc (.cells #[.int .i64 key, .slice o2 nb c2, .slice oR2 n cR2] 26)) = W := ⟨_, rfl⟩
  have hb_W0 : Below w.heap.size w W0 := by rw [← hW0]; exact (((Below.refl _ _).alloc (Nat.le_refl _) _).alloc (by simp <;> omega) _)
  have HB := hide hb_W0
  clear hb_W0
  have zz : w.heap.size < W0.heap.size := by rw [← hW0]; simp <;> omega
  have z0 : W0.cell? ⟨w.heap.size, 0, none⟩ = some (.int .i64 key) := by rw [← hW0]; simp [go_sem]
  have z1 : W0.cell? ⟨w.heap.size, 1, none⟩ = some (.slice o1 nb c1) := by rw [← hW0]; simp [go_sem]
  have z2 : W0.cell? ⟨w.heap.size, 2, none⟩ = some (.slice oR1 n cR1) := by rw [← hW0]; simp [go_sem]
  have zu : w.heap.size + 1 < W0.heap.size := by rw [← hW0]; simp
  have u0 : W0.cell? ⟨w.heap.size + 1, 0, none⟩ = some (.int .i64 key) := by rw [← hW0]; simp [go_sem]
  have u1 : W0.cell? ⟨w.heap.size + 1, 1, none⟩ = some (.slice o2 nb c2) := by rw [← hW0]; simp [go_sem]
  have u2 : W0.cell? ⟨w.heap.size + 1, 2, none⟩ = some (.slice oR2 n cR2) := by rw [← hW0]; simp [go_sem]
  go_enter Try.func14, Try.ntmps14
  go_wp2
  go_loopw [4, 5] (fun rv iv wr => ∃ i : Nat, i ≤ nb ∧ iv = .int .i64 (i : Int) ∧ rv = .bool false ∧ Hid (Below W0.heap.size W0 wr))
    (fun _ iv _ => nb - (intOf iv).toNat)
  case atStart => exact ⟨0, Nat.zero_le _, rfl, rfl, Below.refl _ _⟩
  case round =>
    rename World => wr
    obtain ⟨i, hi', rfl, rfl, HBr⟩ := hrel
    have z1' := bC HBr.out z1 zz
    have z2' := bC HBr.out z2 zz
    have u1' := bC HBr.out u1 zu
    have u2' := bC HBr.out u2 zu
    have zz' := Nat.lt_of_lt_of_le zz HBr.out.size
    have zu' := Nat.lt_of_lt_of_le zu HBr.out.size
    have HBw := hide (HB.out.trans (HBr.out.mono HB.out.size))
    by_cases hlt : i < nb
    · have hlt' : (i : Int) < (nb : Int) := by omega
      obtain ⟨g1, f1, rfl, hg1, a0, a1, a2⟩ := RiK.cell HB1.out i (by rw [HNB.out]; exact hlt)
      obtain ⟨g2, f2, rfl, hg2, b0, b1, b2⟩ := RiK.cell HB2.out i (by rw [HNB.out]; exact hlt)
      have G0 := Grown.cell z1' zz'
      have G1 := Grown.cell u1' zu'
      have Ga0 := Grown.cell (bC HBw.out a0 hg1) (Nat.lt_of_lt_of_le hg1 HBw.out.size)
      have Ga1 := Grown.cell (bC HBw.out a1 hg1) (Nat.lt_of_lt_of_le hg1 HBw.out.size)
      have Ga2 := Grown.cell (bC HBw.out a2 hg1) (Nat.lt_of_lt_of_le hg1 HBw.out.size)
      have Gb0 := Grown.cell (bC HBw.out b0 hg2) (Nat.lt_of_lt_of_le hg2 HBw.out.size)
      have Gb1 := Grown.cell (bC HBw.out b1 hg2) (Nat.lt_of_lt_of_le hg2 HBw.out.size)
      have Gb2 := Grown.cell (bC HBw.out b2 hg2) (Nat.lt_of_lt_of_le hg2 HBw.out.size)
      clear a0 a1 a2 b0 b1 b2
      generalize m.l.getD i (0, 0, false) = d at *
      obtain ⟨d0, d1, d2⟩ := d
      dsimp only at Ga0 Ga1 Ga2 Gb0 Gb1 Gb2
      go_wp2
      (refine wp_region_grown (by kernel_rfl) (by kernel_rfl) ?_; intro hne9; (repeat (go_big_quiet_step (fail))); (with_reducible refine wpQuiet_nil ?_); intro _ hw9; obtain ⟨pq, hw8⟩ := hw9; subst hw8)
      have HB9 := hide (HBr.out.trans (pq.b.mono HBr.out.size))
      go_wp2
      go_roundw
      case rel => exact ⟨i + 1, by omega, by go_num, rfl, HB9.out⟩
      case measure => simp [intOf]; omega
    · have e : i = nb := by omega
      subst e
      go_wp2
      go_loopw [4, 6] (fun rv iv wq => ∃ k : Nat, k ≤ n ∧ iv = .int .i64 (k : Int) ∧ rv = .bool false ∧ Hid (Below W0.heap.size W0 wq))
        (fun _ iv _ => n - (intOf iv).toNat)
      case atStart => exact ⟨0, Nat.zero_le _, rfl, rfl, HBr.out⟩
      case round =>
      rename World => wq
      obtain ⟨k, hk', rfl, rfl, HBq⟩ := hrel
      clear z1' z2' u1' u2' zz' zu'
      have z2' := bC HBq.out z2 zz
      have u2' := bC HBq.out u2 zu
      have zz' := Nat.lt_of_lt_of_le zz HBq.out.size
      have zu' := Nat.lt_of_lt_of_le zu HBq.out.size
      have HBv := hide (HB.out.trans (HBq.out.mono HB.out.size))
      by_cases hlt : k < n
      · have hlt' : (k : Int) < (n : Int) := by omega
        obtain ⟨b1, f1, w1, rfl, hb1, a1, t1⟩ := RiRows.at HR1.out (Nat.le_refl _) k (by rw [HN.out]; exact hlt)
        obtain ⟨b2, f2, w2, rfl, hb2, a2, t2⟩ := RiRows.at HR2.out (Nat.le_refl _) k (by rw [HN.out]; exact hlt)
        have h8 := H8.out k hlt
        have hf4 := HF4.out k hlt
        have hf5 := HF5.out k hlt
        obtain ⟨ll, hll⟩ : ∃ x, m.ring.getD k [] = x := ⟨_, rfl⟩
        rw [hll] at t1 t2 h8 hf4 hf5
        obtain ⟨o3, c3, rfl, rd1⟩ := RiT.rd t1
        obtain ⟨o4, c4, rfl, rd2⟩ := RiT.rd t2
        have HMv := hide (fun p : Grown wq => specMoved_any o3 o4 c3 c4 ll ll p.v ((rd1.kept (HBv.out.trans (p.b.mono HBv.out.size)) (Nat.le_refl _)).le (HBv.out.trans (p.b.mono HBv.out.size)).size) ((rd2.kept (HBv.out.trans (p.b.mono HBv.out.size)) (Nat.le_refl _)).le (HBv.out.trans (p.b.mono HBv.out.size)).size) hf4 hf4 hf5 hf5)
        rw [movedI_self h8] at HMv
        rw [h8] at HMv a1 a2
        have G0 := Grown.cell z2' zz'
        have G1 := Grown.cell u2' zu'
        have G2 := Grown.cell (bC HBv.out a1 hb1) (Nat.lt_of_lt_of_le hb1 HBv.out.size)
        have G3 := Grown.cell (bC HBv.out a2 hb2) (Nat.lt_of_lt_of_le hb2 HBv.out.size)
        clear a1 a2 t1 t2 rd1 rd2 hll h8 hf4 hf5
        go_wp2
        (refine wp_region_grown (by kernel_rfl) (by kernel_rfl) ?_; intro hne9; (repeat (go_big_quiet_step ((go_at_call 60; exact grown_of _ (HMv.out _))))); (with_reducible refine wpQuiet_nil ?_); intro _ hw9; obtain ⟨pq, hw8⟩ := hw9; subst hw8)
        have HB9 := hide (HBq.out.trans (pq.b.mono HBq.out.size))
        go_wp2
        go_roundw
        case rel => exact ⟨k + 1, by omega, by go_num, rfl, HB9.out⟩
        case measure => simp [intOf]; omega
      · have e : k = n := by omega
        subst e
        go_wp2
        go_ret
        exact ⟨rfl, HBv.out⟩

end Go.Proofs.Ytldjaapbkihibaa

