/- The program's twoBest. -/
import Derived.Test.YtldjaapbkihibaaSContest
import Derived.Test.YtldjaapbkihibaaIntsA
namespace Go.Proofs.Ytldjaapbkihibaa
open Go.ChangeShapes Go.WideShapes Go.ChangeAt Go.RowKit Go.Joins
set_option linter.unusedVariables false
set_option linter.unusedSimpArgs false

set_option maxHeartbeats 400000 in
theorem bestId_any (o : Option Addr) (c C : Nat) (l : List Sc) (w : World) (hR : RdL layD C w o l) (h0 : 0 < l.length) :
    Calls Try.prog 175 #[.slice o l.length c] w fun e w' => e = .returned (.int .i64 (l.getD 0 (0, 0)).1) ∧ w = w' := by
  rcases hR with hR | ⟨b, off, rfl, hbl, hcell⟩
  · subst hR; simp at h0
  have hc := RdL.sc hcell 0 h0
  clear hcell
  generalize l.getD 0 (0, 0) = x at *
  obtain ⟨x1, x2⟩ := x
  simp only [Nat.zero_mul, Nat.add_zero] at hc
  obtain ⟨c0, c1⟩ := hc
  have z : (0 : Int) < (l.length : Int) := by omega
  go_enter Try.func175, Try.ntmps175
  go_wp2
  go_ret
  exact ⟨rfl, rfl⟩

/-- What twoBest answers of a board: nothing; the first twice; the first and the first of the rest. -/
def TwoOf (lb : List Sc) (p : List Int) : Prop :=
  (lb = [] ∧ p = []) ∨ (lb.length = 1 ∧ p = [(lb.getD 0 (0, 0)).1, (lb.getD 0 (0, 0)).1]) ∨
  ∃ l2, Rest lb l2 ∧ HeapP l2 l2.length ∧ 0 < l2.length ∧ p = [(lb.getD 0 (0, 0)).1, (l2.getD 0 (0, 0)).1]

theorem ownI_lit (w : World) (base : Nat) (x y : Int) (hb : base ≤ w.heap.size) : ownI (w.alloc (.cells #[.int .i64 x, .int .i64 y] 3)) base (.slice (some ⟨w.heap.size, 0, none⟩) 2 2) [x, y] := by
  have := World.ownsRow_lit (base := base) (e := 3) (size := 1) w #[.int .i64 x, .int .i64 y] 2 hb (by unfold maxLen; omega) rfl
  exact this

set_option maxRecDepth 100000 in
set_option maxHeartbeats 2000000 in
theorem twoBest_any (k : Nat) (v : Value) (lb : List Sc) (w : World) (hb : BrdV k v w lb) (hh : HeapP lb lb.length) (ho : okD lb) (hlen : lb.length ≤ 1000) :
    Calls Try.prog 141 #[.iface 186 (.pointer (some ⟨k, 0, none⟩))] w fun e w' => ∃ v' p, e = .returned v' ∧ TwoOf lb p ∧ ownI w' k v' p ∧ Below k w w' := by
  have eN : ∀ args w, (callFunc 170 args).run Try.prog w = .ok (.enter 170 args) w := enters_of Try.func170 (by kernel_rfl) rfl
  have eB : ∀ args w, (callFunc 175 args).run Try.prog w = .ok (.enter 175 args) w := enters_of Try.func175 (by kernel_rfl) rfl
  obtain ⟨o, c, rfl⟩ := hb.slice
  have hc := hb.cell
  have mN := finds_val' methLen hc
  have hklt := hb.lt
  by_cases h0 : lb.length = 0
  · have e : lb = [] := List.eq_nil_of_length_eq_zero h0
    subst e
    simp only [List.length_nil] at mN
    go_enter Try.func141, Try.ntmps141
    go_wp2_with (first | (go_at_call 170; refine (sbLen_any _ _ _ _).mono ?_; rintro e w2 ⟨rfl, rfl⟩))
    go_ret
    exact ⟨_, [], rfl, .inl ⟨rfl, rfl⟩, World.ownsRow_nil _ _ _ _, Below.refl _ _⟩
  · have hpos : 0 < lb.length := by omega
    have hn0 : ((lb.length : Int) == 0) = false := by rw [beq_eq_false_iff_ne]; omega
    have HN0 := hide h0
    obtain ⟨g, c1, he⟩ := ownsRow_form hb.row hpos
    simp only [Value.slice.injEq] at he
    obtain ⟨rfl, _, rfl⟩ := he
    have hB : Brd k g c w lb := ⟨hb.box, hb.row⟩
    have hrd := hB.row.rd
    obtain ⟨n, hn⟩ : ∃ n, n + 1 = lb.length := ⟨lb.length - 1, by omega⟩
    have hpop := popH_any k g c lb n w hB hn ho hh (by omega)
    have hbest := bestId_any (some ⟨g, 0, none⟩) c w.heap.size lb w hrd hpos
    generalize hfst : (lb.getD 0 (0, 0)).1 = fst at hbest
    have HF := hide hfst
    clear h0 hn hfst
    go_enter Try.func141, Try.ntmps141
    go_wp2_with (first | (go_at_call 170; refine (sbLen_any _ _ _ _).mono ?_; rintro e w2 ⟨rfl, rfl⟩))
    rw [finds_val' (f := 175) ?hm hc]
    case hm => kernel_rfl
    go_wp2_with (first | (go_at_call 175; refine hbest.mono ?_; rintro e w2 ⟨rfl, rfl⟩))
    refine hpop.mono ?_
    rintro e w3 ⟨⟨v3, rfl⟩, l2, hb3, hh3, hr3, ho3, hB3⟩
    have hk3 := hb3.v.lt
    have hl2 : l2.length ≤ 1000 := by have := hr3.1; omega
    have mN3 := finds_val' methLen hb3.cell
    clear mN hpop hbest hrd hb hB hc
    by_cases h2 : l2.length = 0
    · have e : l2 = [] := List.eq_nil_of_length_eq_zero h2
      subst e
      simp only [List.length_nil] at mN3
      have HT : Hid (TwoOf lb [fst, fst]) := .inr (.inl ⟨by have := hr3.1; simpa using this.symm, by rw [HF.out]⟩)
      have HO := hide (ownI_lit w3 k fst fst (by omega))
      have HB := hide hB3
      clear hr3 hh3 ho3 hB3 HF
      go_wp2_with (first | (go_at_call 170; refine (sbLen_any _ _ _ _).mono ?_; rintro e w2 ⟨rfl, rfl⟩))
      go_ret
      exact ⟨_, [fst, fst], rfl, HT.out, HO.out, HB.out.alloc (by omega) _⟩
    · have hpos2 : 0 < l2.length := by omega
      have hn2 : ((l2.length : Int) == 0) = false := by rw [beq_eq_false_iff_ne]; omega
      have hc3 := hb3.cell
      have hbest2 := bestId_any (some ⟨g, 0, none⟩) c w3.heap.size l2 w3 hb3.row.rd hpos2
      have HT : Hid (TwoOf lb [fst, (l2.getD 0 (0, 0)).1]) := .inr (.inr ⟨l2, hr3, hh3, hpos2, by rw [HF.out]⟩)
      generalize (l2.getD 0 (0, 0)).1 = snd at *
      have HO := hide (ownI_lit w3 k fst snd (by omega))
      have HB := hide hB3
      clear hr3 hh3 ho3 hB3 HF h2
      go_wp2_with (first | (go_at_call 170; refine (sbLen_any _ _ _ _).mono ?_; rintro e w2 ⟨rfl, rfl⟩))
      rw [finds_val' (f := 175) ?hm2 hc3]
      case hm2 => kernel_rfl
      go_wp2_with (first | (go_at_call 175; refine hbest2.mono ?_; rintro e w2 ⟨rfl, rfl⟩))
      go_ret
      exact ⟨_, [fst, snd], rfl, HT.out, HO.out, HB.out.alloc (by omega) _⟩

end Go.Proofs.Ytldjaapbkihibaa
