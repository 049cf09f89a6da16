/- Several texts in one: SContest, STwo, PairMath, SPair, SPair2, STab, RowsP. -/
import Derived.Deep.RegionHeld3
import Derived.Test.YtmmhgkkcpjhiiaaGreatQLearn17
import Derived.Test.YtmmhgkkcpjhiiaaGreatQLearn19
import Derived.Test.YtmmhgkkcpjhiiaaGreatQLearn10
import Derived.Test.YtmmhgkkcpjhiiaaGreatQLearn11
import Derived.Test.YtmmhgkkcpjhiiaaGreatQLearn03
namespace Go.Proofs.YtmmhgkkcpjhiiaaGreat
open Go.ChangeShapes Go.WideShapes Go.ChangeAt Go.RowKit Go.Joins
set_option linter.unusedVariables false
set_option linter.unusedSimpArgs false

def scL (k b : Int) (l : List Bk) : List Sc := (l.filter (fun x => !x.2.2)).map (fun x => (x.1, scoreI k b x.1 x.2.1))
theorem scL_snoc_no (k b : Int) (l : List Bk) (x : Bk) (h : x.2.2 = true) : scL k b (l ++ [x]) = scL k b l := by simp [scL, h]
theorem scL_snoc_yes (k b : Int) (l : List Bk) (x : Bk) (h : x.2.2 = false) : scL k b (l ++ [x]) = scL k b l ++ [(x.1, scoreI k b x.1 x.2.1)] := by simp [scL, h]
def Holds (lb ls : List Sc) : Prop := lb.length = ls.length ∧ (∀ z, (∃ i, i < lb.length ∧ lb.getD i (0, 0) = z) ↔ z ∈ ls) ∧ Dist lb lb.length
theorem mem_getD {l : List Sc} {z : Sc} : (∃ i, i < l.length ∧ l.getD i (0, 0) = z) ↔ z ∈ l := by
 constructor
 ·rintro ⟨i, hi, rfl⟩
  rw [show l.getD i (0, 0) = l[i] by simp [hi]]
  exact List.getElem_mem hi
 ·intro h
  obtain ⟨i, hi, e⟩ := List.getElem_of_mem h
  exact ⟨i, hi, by simp [hi, e]⟩
theorem Holds.push {lb l' ls : List Sc} {x : Sc} (h : Holds lb ls) (hx : x ∉ ls) (hs : Same (lb ++ [x]) l' (lb.length + 1)) : Holds l' (ls ++ [x]) := by
 have hl : (lb ++ [x]).length = lb.length + 1 := by simp
 have hl' : l'.length = lb.length + 1 := hs.1.trans hl
 refine ⟨by rw [hl', h.1]; simp, fun z => ?_, ?_⟩
 ·rw [hl', hs.2.1 z, ← hl, mem_getD, List.mem_append, List.mem_append, ← h.2.1 z, mem_getD]
 ·rw [hl']
  refine hs.2.2 (fun i j hi hj e => ?_)
  rcases Nat.lt_or_ge i lb.length with h1 | h1 <;> rcases Nat.lt_or_ge j lb.length with h2 | h2
  ·rw [getD_snoc_lt h1, getD_snoc_lt h2] at e; exact h.2.2 i j h1 h2 e
  ·rw [getD_snoc_lt h1, show j = lb.length by omega, getD_snoc_eq] at e
   exact absurd ((h.2.1 x).1 ⟨i, h1, e⟩) hx
  ·rw [show i = lb.length by omega, getD_snoc_eq, getD_snoc_lt h2] at e
   exact absurd ((h.2.1 x).1 ⟨j, h2, e.symm⟩) hx
  ·omega
theorem scL_ids {key b : Int} {l : List Bk} {z : Sc} (h : z ∈ scL key b l) : ∃ i, i < l.length ∧ (l.getD i (0, 0, false)).1 = z.1 := by
 unfold scL at h
 obtain ⟨x, hx, e⟩ := List.mem_map.1 h
 obtain ⟨i, hi, e2⟩ := List.getElem_of_mem (List.mem_filter.1 hx).1
 exact ⟨i, hi, by rw [← e]; simp [hi, e2]⟩
theorem backs_lt {l : List Bk} (h : backsOkB l = true) : ∀ j, j < l.length → ∀ i, i < j → (l.getD i (0, 0, false)).1 < (l.getD j (0, 0, false)).1 := fun j => by
 induction j with
 | zero => intro _ i hi; omega
 | succ j ih =>
  intro hj i hi
  have h1 : (l.getD j (0, 0, false)).1 < (l.getD (j + 1) (0, 0, false)).1 := by
   have := backsOkB_iff.1 h (j + 1) hj
   unfold okAt at this
   simp only [Bool.and_eq_true, Bool.or_eq_true, decide_eq_true_eq, Nat.add_sub_cancel] at this
   rcases this.2 with h0 | h0
   ·omega
   ·exact h0
  rcases Nat.lt_or_ge i j with h2 | h2
  ·exact Int.lt_trans (ih (by omega) i h2) h1
  ·rw [show i = j by omega]; exact h1
theorem sc_new {key b : Int} {l : List Bk} {j : Nat} {x y : Int} {z : Bool} {s : Int} (h : backsOkB l = true) (hj : j < l.length) (hxy : l.getD j (0, 0, false) = (x, y, z)) : (x, s) ∉ scL key b (l.take j) := fun hm => by
 obtain ⟨i, hi, e⟩ := scL_ids hm
 have hij : i < j := by simp at hi; omega
 have := backs_lt h j hj i hij
 rw [hxy] at this
 rw [show (l.take j).getD i (0, 0, false) = l.getD i (0, 0, false) by simp [List.getD_eq_getElem?_getD, List.getElem?_take, hij]] at e
 dsimp only at e this
 omega

theorem BrdV.kept {k : Nat} {v : Value} {w w' : World} {l : List Sc} (h : BrdV k v w l) (hb : Below w.heap.size w w') : BrdV k v w' l := ⟨(hb.block k h.lt).trans h.box, own_kept h.row hb⟩
theorem okAt_back {l : List Bk} {j : Nat} {x y : Int} {z : Bool} (hl : backsOkB l = true) (hj : j < l.length) (hxy : l.getD j (0, 0, false) = (x, y, z)) : backB x y = true := by
 have := backsOkB_iff.1 hl j hj
 unfold okAt at this
 rw [hxy] at this
 exact (Bool.and_eq_true_iff.1 this).1

set_option maxRecDepth 100000 in
set_option maxHeartbeats 2000000 in
theorem contestOf_any (key b : Int) (o : Option Addr) (cap : Nat) (l : List Bk) (w : World) (hR : RdK w.heap.size w o l) (hlen : l.length ≤ 1000) (hk : keyB key = true) (hbk : 0 ≤ b ∧ b < 8) (hl : backsOkB l = true) :
  Calls Tryz.prog 396 #[.int .i64 key, .int .i64 b, .slice o l.length cap] w fun e w' => ∃ k v lb, e = .returned (.iface 467 (.pointer (some ⟨k, 0, none⟩))) ∧ BrdV k v w' lb ∧ HeapP lb lb.length ∧ okD lb ∧ Holds lb (scL key b l) ∧ w.heap.size ≤ k ∧ Below w.heap.size w w' := by
 go_enter Tryz.func396, Tryz.ntmps396
 go_wp2
 go_loopw [13] (fun iv wr => ∃ (j : Nat) (v : Value) (lb : List Sc), iv = .int .i64 j ∧ j ≤ l.length ∧ BrdV w.heap.size v wr lb ∧ HeapP lb lb.length ∧ okD lb ∧ Holds lb (scL key b (l.take j)) ∧ lb.length ≤ j ∧ Below w.heap.size w wr)
  (fun iv _ => l.length - (intOf iv).toNat)
 case atStart =>
  refine ⟨0, .slice none 0 0, [], rfl, Nat.zero_le _, ⟨World.alloc_heap_new w _, World.ownsRow_nil _ _ _ _⟩, fun i h1 h2 => by simp at h2, fun i hi => by simp at hi, ⟨rfl, fun z => by simp [scL], fun i j hi => by simp at hi⟩, Nat.zero_le _, (Below.refl _ _).alloc (Nat.le_refl _) _⟩
 case round =>
  obtain ⟨j, v, lb, rfl, hj, hb, hh, ho, hhd, hlb, hBr⟩ := hrel
  by_cases hlt : j < l.length
  ·rcases hR with hR | ⟨bb, off, rfl, hbl, hcell⟩
   ·subst hR; simp at hlt
   obtain ⟨x, y, z, hxy⟩ : ∃ x y z, l.getD j (0, 0, false) = (x, y, z) := ⟨_, _, _, rfl⟩
   have hcx := RdL.back (C := w.heap.size) hcell j hlt
   rw [hxy] at hcx
   have hc0 : wr.cell? ⟨bb, off + j * 3, none⟩ = some (.int .i64 x) := (hBr.cell (p := ⟨bb, off + j * 3, none⟩) hbl).trans hcx.1
   have hc1 : wr.cell? ⟨bb, off + j * 3 + 1, none⟩ = some (.int .i64 y) := (hBr.cell (p := ⟨bb, off + j * 3 + 1, none⟩) hbl).trans hcx.2.1
   have hc2 : wr.cell? ⟨bb, off + j * 3 + 2, none⟩ = some (.bool z) := (hBr.cell (p := ⟨bb, off + j * 3 + 2, none⟩) hbl).trans hcx.2.2
   have hts := takeL_succ layK l j hlt
   rw [show l.getD j layK.d = l.getD j (0, 0, false) from rfl, hxy] at hts
   have hbb := okAt_back hl hlt hxy
   obtain ⟨i0, i1, g0, g1⟩ := backB_iff.1 hbb
   have hnew := sc_new (key := key) (b := b) (s := scoreI key b x y) hl hlt hxy
   clear hcell hcx hxy
   cases z with
   | true =>
    have HH := hide (show Holds lb (scL key b (l.take (j + 1))) by rw [hts, scL_snoc_no _ _ _ _ rfl]; exact hhd)
    have HB := hide hb
    have HBr := hide hBr
    clear hts hhd hb hBr hnew
    go_wp2
    go_roundw
    case rel => exact ⟨j + 1, v, lb, by go_num, by omega, HB.out.kept ((Below.refl _ _).alloc (Nat.le_refl _) _), hh, ho, HH.out, by omega, HBr.out.alloc HBr.out.size _⟩
    case measure => simp [intOf]; omega
   | false =>
    have hso : scoreOfI key b x y = scoreI key b x y := by rw [scoreOfI, if_pos ⟨hk, hbk, hbb⟩]
    have hsc := fun W => hso ▸ implScore_any key b x y false W
    obtain ⟨p0, p1, p2⟩ := box3 wr (.int .i64 x) (.int .i64 y) (.bool false) 178
    have hs : wr.heap.size < (wr.alloc (Obj.cells #[Value.int IntKind.i64 x, Value.int IntKind.i64 y, Value.bool false] 178)).heap.size := by simp
    have hb0 : BrdV w.heap.size v (wr.alloc (Obj.cells #[Value.int IntKind.i64 x, Value.int IntKind.i64 y, Value.bool false] 178)) lb := hb.kept ((Below.refl _ _).alloc (Nat.le_refl _) _)
    have hB0 : Below w.heap.size w (wr.alloc (Obj.cells #[Value.int IntKind.i64 x, Value.int IntKind.i64 y, Value.bool false] 178)) := hBr.alloc hBr.size _
    have HH := hide (fun l2 (h2 : Same (lb ++ [(x, scoreI key b x y)]) l2 (lb.length + 1)) => (show Holds l2 (scL key b (l.take (j + 1))) by rw [hts, scL_snoc_yes _ _ _ _ rfl]; exact hhd.push hnew h2))
    have HL := hide (fun l2 (h2 : Same (lb ++ [(x, scoreI key b x y)]) l2 (lb.length + 1)) => (show l2.length ≤ j + 1 by rw [h2.1]; simp; omega))
    clear hts hhd hnew
    go_wp2_with fail
    clear hc0 hc1 hc2
    generalize (wr.alloc (Obj.cells #[Value.int IntKind.i64 x, Value.int IntKind.i64 y, Value.bool false] 178)) = w0 at *
    have HB0 := hide hb0
    have HBB := hide hB0
    generalize hscg : scoreI key b x y = sc at *
    clear hb0 hB0 hb hBr hscg hso
    go_region_with (first | (go_at_call 410; refine (hsc _).mono ?_; rintro e w1 ⟨rfl, hb1⟩; replace hb1 : Below w0.heap.size w0 w1 := (Below.drew (Below.refl _ _)).trans hb1; have q0 := (hb1.cell (p := ⟨wr.heap.size, 0, none⟩) hs).trans p0; have q1 := (hb1.cell (p := ⟨wr.heap.size, 1, none⟩) hs).trans p1; have q2 := (hb1.cell (p := ⟨wr.heap.size, 2, none⟩) hs).trans p2) | (go_at_call 326; refine (pushH_any w.heap.size v lb x sc w1 (HB0.out.kept hb1) ho ⟨i0, by omega⟩ hh (by omega)).mono ?_; rintro e w2 ⟨rfl, g2, c2, l2, hb2, hh2, hs2, ho2, hB2⟩))
    all_goals (
     go_wp2
     go_roundw
     case rel => exact ⟨j + 1, _, l2, by go_num, by omega, hb2.v, hh2, ho2, HH.out l2 hs2, HL.out l2 hs2, (HBB.out.trans (hb1.mono HBB.out.size)).trans hB2⟩
     case measure => simp [intOf]; omega)
  ·have e : j = l.length := by omega
   subst e
   rw [List.take_of_length_le (Nat.le_refl _)] at hhd
   go_wp2
   go_ret
   exact ⟨_, v, lb, rfl, hb, hh, ho, hhd, Nat.le_refl _, hBr⟩

end Go.Proofs.YtmmhgkkcpjhiiaaGreat

namespace Go.Proofs.YtmmhgkkcpjhiiaaGreat
open Go.ChangeShapes Go.WideShapes Go.ChangeAt Go.RowKit Go.Joins
set_option linter.unusedVariables false
set_option linter.unusedSimpArgs false

set_option maxHeartbeats 400000 in
theorem bestId_any (o : Option Addr) (c C : Nat) (l : List Sc) (w : World) (hR : RdL layD C w o l) (h0 : 0 < l.length) :
  Calls Tryz.prog 449 #[.slice o l.length c] w fun e w' => e = .returned (.int .i64 (l.getD 0 (0, 0)).1) ∧ w = w' := by
 rcases hR with hR | ⟨b, off, rfl, hbl, hcell⟩
 ·subst hR; simp at h0
 have hc := RdL.sc hcell 0 h0
 clear hcell
 generalize l.getD 0 (0, 0) = x at *
 obtain ⟨x1, x2⟩ := x
 simp only [Nat.zero_mul, Nat.add_zero] at hc
 obtain ⟨c0, c1⟩ := hc
 have z : (0 : Int) < (l.length : Int) := by omega
 go_enter Tryz.func449, Tryz.ntmps449
 go_wp2
 go_ret
 exact ⟨rfl, rfl⟩

def TwoOf (lb : List Sc) (p : List Int) : Prop :=
 (lb = [] ∧ p = []) ∨ (lb.length = 1 ∧ p = [(lb.getD 0 (0, 0)).1, (lb.getD 0 (0, 0)).1]) ∨
 ∃ l2, Rest lb l2 ∧ HeapP l2 l2.length ∧ 0 < l2.length ∧ p = [(lb.getD 0 (0, 0)).1, (l2.getD 0 (0, 0)).1]

theorem ownI_lit (w : World) (base : Nat) (x y : Int) (hb : base ≤ w.heap.size) : ownI (w.alloc (.cells #[.int .i64 x, .int .i64 y] 3)) base (.slice (some ⟨w.heap.size, 0, none⟩) 2 2) [x, y] := by
 have := World.ownsRow_lit (base := base) (e := 3) (size := 1) w #[.int .i64 x, .int .i64 y] 2 hb (by unfold maxLen; omega) rfl
 exact this

set_option maxRecDepth 100000 in
set_option maxHeartbeats 2000000 in
theorem twoBest_any (k : Nat) (v : Value) (lb : List Sc) (w : World) (hb : BrdV k v w lb) (hh : HeapP lb lb.length) (ho : okD lb) (hlen : lb.length ≤ 1000) :
  Calls Tryz.prog 395 #[.iface 467 (.pointer (some ⟨k, 0, none⟩))] w fun e w' => ∃ v' p, e = .returned v' ∧ TwoOf lb p ∧ ownI w' k v' p ∧ Below k w w' := by
 have eN : ∀ args w, (callFunc 444 args).run Tryz.prog w = .ok (.enter 444 args) w := enters_of Tryz.func444 (by kernel_rfl) rfl
 have eB : ∀ args w, (callFunc 449 args).run Tryz.prog w = .ok (.enter 449 args) w := enters_of Tryz.func449 (by kernel_rfl) rfl
 obtain ⟨o, c, rfl⟩ := hb.slice
 have hc := hb.cell
 have mN := finds_val' methLen hc
 have hklt := hb.lt
 by_cases h0 : lb.length = 0
 ·have e : lb = [] := List.eq_nil_of_length_eq_zero h0
  subst e
  simp only [List.length_nil] at mN
  go_enter Tryz.func395, Tryz.ntmps395
  go_wp2_with (first | (go_at_call 444; refine (sbLen_any _ _ _ _).mono ?_; rintro e w2 ⟨rfl, rfl⟩))
  go_ret
  exact ⟨_, [], rfl, .inl ⟨rfl, rfl⟩, World.ownsRow_nil _ _ _ _, Below.refl _ _⟩
 ·have hpos : 0 < lb.length := by omega
  have hn0 : ((lb.length : Int) == 0) = false := by rw [beq_eq_false_iff_ne]; omega
  have HN0 := hide h0
  obtain ⟨g, c1, he⟩ := ownsRow_form hb.row hpos
  simp only [Value.slice.injEq] at he
  obtain ⟨rfl, _, rfl⟩ := he
  have hB : Brd k g c w lb := ⟨hb.box, hb.row⟩
  have hrd := hB.row.rd
  obtain ⟨n, hn⟩ : ∃ n, n + 1 = lb.length := ⟨lb.length - 1, by omega⟩
  have hpop := popH_any k g c lb n w hB hn ho hh (by omega)
  have hbest := bestId_any (some ⟨g, 0, none⟩) c w.heap.size lb w hrd hpos
  generalize hfst : (lb.getD 0 (0, 0)).1 = fst at hbest
  have HF := hide hfst
  clear h0 hn hfst
  go_enter Tryz.func395, Tryz.ntmps395
  go_wp2_with (first | (go_at_call 444; refine (sbLen_any _ _ _ _).mono ?_; rintro e w2 ⟨rfl, rfl⟩))
  rw [finds_val' (f := 449) ?hm hc]
  case hm => kernel_rfl
  go_wp2_with (first | (go_at_call 449; refine hbest.mono ?_; rintro e w2 ⟨rfl, rfl⟩))
  refine hpop.mono ?_
  rintro e w3 ⟨⟨v3, rfl⟩, l2, hb3, hh3, hr3, ho3, hB3⟩
  have hk3 := hb3.v.lt
  have hl2 : l2.length ≤ 1000 := by have := hr3.1; omega
  have mN3 := finds_val' methLen hb3.cell
  clear mN hpop hbest hrd hb hB hc
  by_cases h2 : l2.length = 0
  ·have e : l2 = [] := List.eq_nil_of_length_eq_zero h2
   subst e
   simp only [List.length_nil] at mN3
   have HT : Hid (TwoOf lb [fst, fst]) := .inr (.inl ⟨by have := hr3.1; simpa using this.symm, by rw [HF.out]⟩)
   have HO := hide (ownI_lit w3 k fst fst (by omega))
   have HB := hide hB3
   clear hr3 hh3 ho3 hB3 HF
   go_wp2_with (first | (go_at_call 444; refine (sbLen_any _ _ _ _).mono ?_; rintro e w2 ⟨rfl, rfl⟩))
   go_ret
   exact ⟨_, [fst, fst], rfl, HT.out, HO.out, HB.out.alloc (by omega) _⟩
  ·have hpos2 : 0 < l2.length := by omega
   have hn2 : ((l2.length : Int) == 0) = false := by rw [beq_eq_false_iff_ne]; omega
   have hc3 := hb3.cell
   have hbest2 := bestId_any (some ⟨g, 0, none⟩) c w3.heap.size l2 w3 hb3.row.rd hpos2
   have HT : Hid (TwoOf lb [fst, (l2.getD 0 (0, 0)).1]) := .inr (.inr ⟨l2, hr3, hh3, hpos2, by rw [HF.out]⟩)
   generalize (l2.getD 0 (0, 0)).1 = snd at *
   have HO := hide (ownI_lit w3 k fst snd (by omega))
   have HB := hide hB3
   clear hr3 hh3 ho3 hB3 HF h2
   go_wp2_with (first | (go_at_call 444; refine (sbLen_any _ _ _ _).mono ?_; rintro e w2 ⟨rfl, rfl⟩))
   rw [finds_val' (f := 449) ?hm2 hc3]
   case hm2 => kernel_rfl
   go_wp2_with (first | (go_at_call 449; refine hbest2.mono ?_; rintro e w2 ⟨rfl, rfl⟩))
   go_ret
   exact ⟨_, [fst, snd], rfl, HT.out, HO.out, HB.out.alloc (by omega) _⟩

end Go.Proofs.YtmmhgkkcpjhiiaaGreat

namespace Go.Proofs.YtmmhgkkcpjhiiaaGreat
open Go.ChangeShapes Go.WideShapes Go.ChangeAt Go.RowKit Go.Joins
set_option linter.unusedVariables false
set_option linter.unusedSimpArgs false

def pickStep (p : Option Sc × Option Sc) (x : Sc) : Option Sc × Option Sc :=
 match p with
 | (none, t) => (some x, none)
 | (some o, t) => if o.2 < x.2 then (some x, some o) else
  match t with
  | none => (some o, some x)
  | some u => if u.2 < x.2 then (some o, some x) else (some o, some u)
def pick (l : List Sc) : Option Sc × Option Sc := l.foldl pickStep (none, none)
theorem pick_snoc (l : List Sc) (x : Sc) : pick (l ++ [x]) = pickStep (pick l) x := by simp [pick]
def pairL (p : Option Sc × Option Sc) : List Int :=
 match p with
 | (none, _) => []
 | (some o, none) => [o.1, o.1]
 | (some o, some t) => [o.1, t.1]
def Best (l : List Sc) (p : Option Sc × Option Sc) : Prop :=
 match p with
 | (none, t) => l = [] ∧ t = none
 | (some o, none) => l = [o]
 | (some o, some t) => o ∈ l ∧ t ∈ l ∧ t ≠ o ∧ (∀ z ∈ l, rank o ≤ rank z) ∧ (∀ z ∈ l, z ≠ o → rank t ≤ rank z)
theorem rank_lt {o x : Sc} (ho : okS o) (hx : okS x) (h : o.2 < x.2) : rank x < rank o := by unfold rank okS at *; omega
theorem rank_gt {o x : Sc} (ho : okS o) (hx : okS x) (hid : o.1 < x.1) (h : ¬ o.2 < x.2) : rank o < rank x := by unfold rank okS at *; omega
theorem rank_inj {a b : Sc} (ha : okS a) (hb : okS b) (h : rank a = rank b) : a = b := by
 obtain ⟨a1, a2⟩ := a
 obtain ⟨b1, b2⟩ := b
 unfold rank okS at *
 dsimp only at *
 have h1 : a2 = b2 := by omega
 have h2 : a1 = b1 := by omega
 rw [h1, h2]
theorem best_step {l : List Sc} {p : Option Sc × Option Sc} {x : Sc} (h : Best l p) (hok : ∀ z ∈ l, okS z) (hx : okS x) (hid : ∀ z ∈ l, z.1 < x.1) : Best (l ++ [x]) (pickStep p x) := by
 have hne : ∀ z ∈ l, z ≠ x := fun z hz e => by have := hid z hz; rw [e] at this; omega
 obtain ⟨p1, p2⟩ := p
 cases p1 with
 | none =>
  obtain ⟨h1, h2⟩ : l = [] ∧ p2 = none := h
  subst h1 h2
  rfl
 | some o =>
  cases p2 with
  | none =>
   have h1 : l = [o] := h
   subst h1
   have oo := hok o (by simp)
   have oi := hid o (by simp)
   unfold pickStep
   by_cases hlt : o.2 < x.2
   ·simp only [if_pos hlt]
    have := rank_lt oo hx hlt
    refine ⟨by simp, by simp, fun e => hne o (by simp) e, fun z hz => ?_, fun z hz hzx => ?_⟩
    ·simp at hz; rcases hz with e | e <;> subst e <;> omega
    ·simp at hz; rcases hz with e | e
     ·subst e; omega
     ·exact absurd e hzx
   ·simp only [if_neg hlt]
    have := rank_gt oo hx oi hlt
    refine ⟨by simp, by simp, fun e => hne o (by simp) e.symm, fun z hz => ?_, fun z hz hzo => ?_⟩
    ·simp at hz; rcases hz with e | e <;> subst e <;> omega
    ·simp at hz; rcases hz with e | e
     ·exact absurd e hzo
     ·subst e; omega
  | some t =>
   obtain ⟨ho, ht, hto, hmin, hmin2⟩ : o ∈ l ∧ t ∈ l ∧ t ≠ o ∧ (∀ z ∈ l, rank o ≤ rank z) ∧ (∀ z ∈ l, z ≠ o → rank t ≤ rank z) := h
   have oo := hok o ho
   have ot := hok t ht
   have oi := hid o ho
   have ti := hid t ht
   unfold pickStep
   by_cases hlt : o.2 < x.2
   ·simp only [if_pos hlt]
    have hr := rank_lt oo hx hlt
    refine ⟨by simp, List.mem_append.2 (.inl ho), hne o ho, fun z hz => ?_, fun z hz hzx => ?_⟩
    ·rcases List.mem_append.1 hz with hz | hz
     ·have := hmin z hz; omega
     ·simp at hz; subst hz; omega
    ·rcases List.mem_append.1 hz with hz | hz
     ·exact hmin z hz
     ·simp at hz; exact absurd hz hzx
   ·simp only [if_neg hlt]
    have hr := rank_gt oo hx oi hlt
    by_cases hlt2 : t.2 < x.2
    ·simp only [if_pos hlt2]
     have hr2 := rank_lt ot hx hlt2
     refine ⟨List.mem_append.2 (.inl ho), by simp, fun e => hne o ho e.symm, fun z hz => ?_, fun z hz hzo => ?_⟩
     ·rcases List.mem_append.1 hz with hz | hz
      ·exact hmin z hz
      ·simp at hz; subst hz; omega
     ·rcases List.mem_append.1 hz with hz | hz
      ·have := hmin2 z hz hzo; omega
      ·simp at hz; subst hz; omega
    ·simp only [if_neg hlt2]
     have hr2 := rank_gt ot hx ti hlt2
     refine ⟨List.mem_append.2 (.inl ho), List.mem_append.2 (.inl ht), hto, fun z hz => ?_, fun z hz hzo => ?_⟩
     ·rcases List.mem_append.1 hz with hz | hz
      ·exact hmin z hz
      ·simp at hz; subst hz; omega
     ·rcases List.mem_append.1 hz with hz | hz
      ·exact hmin2 z hz hzo
      ·simp at hz; subst hz; omega
theorem two_pair {lb ls : List Sc} {p : Option Sc × Option Sc} {q : List Int} (hB : Best ls p) (hok : ∀ z ∈ ls, okS z) (hH : Holds lb ls) (hh : HeapP lb lb.length) (hT : TwoOf lb q) : q = pairL p := by
 have hm := hH.2.1
 obtain ⟨p1, p2⟩ := p
 rcases hT with ⟨h1, h2⟩ | ⟨h1, h2⟩ | ⟨l2, hr, hh2, hpos, h2⟩
 ·subst h1 h2
  have : ls = [] := List.eq_nil_of_length_eq_zero hH.1.symm
  subst this
  cases p1 with
  | none => rfl
  | some o =>
   cases p2 with
   | none => cases (hB : [] = [o])
   | some t => exact absurd hB.1 (by simp)
 ·obtain ⟨o, ho⟩ : ∃ o, ls = [o] := List.length_eq_one_iff.1 (hH.1.symm.trans h1)
  subst ho
  have e0 : lb.getD 0 (0, 0) = o := by
   have := (hm (lb.getD 0 (0, 0))).1 ⟨0, by omega, rfl⟩
   simpa using this
  rw [h2, e0]
  cases p1 with
  | none => cases (hB.1 : [o] = [])
  | some o' =>
   cases p2 with
   | none => have : [o] = [o'] := hB; simp at this; subst this; rfl
   | some t =>
    obtain ⟨a1, a2, a3, _⟩ : o' ∈ [o] ∧ t ∈ [o] ∧ t ≠ o' ∧ _ := hB
    simp at a1 a2; rw [a1, a2] at a3; exact absurd rfl a3
 ·have hl2 := hr.1
  have hd := hH.2.2
  have m0 : lb.getD 0 (0, 0) ∈ ls := (hm _).1 ⟨0, by omega, rfl⟩
  have top : ∀ z ∈ ls, rank (lb.getD 0 (0, 0)) ≤ rank z := fun z hz => by
   obtain ⟨i, hi, e⟩ := (hm z).2 hz
   have := heap_top hh i hi
   unfold fr at this
   rw [e] at this; exact this
  obtain ⟨i2, hi2a, hi2b, ei2⟩ := (hr.2 (l2.getD 0 (0, 0))).1 ⟨0, hpos, rfl⟩
  have m2 : l2.getD 0 (0, 0) ∈ ls := (hm _).1 ⟨i2, hi2b, ei2⟩
  have ne2 : l2.getD 0 (0, 0) ≠ lb.getD 0 (0, 0) := fun e => by
   have := hd i2 0 hi2b (by omega) (ei2.trans e); omega
  have top2 : ∀ z ∈ ls, z ≠ lb.getD 0 (0, 0) → rank (l2.getD 0 (0, 0)) ≤ rank z := fun z hz hne => by
   obtain ⟨i, hi, e⟩ := (hm z).2 hz
   have hi1 : 1 ≤ i := by
    rcases Nat.eq_zero_or_pos i with h | h
    ·subst h; exact absurd e.symm hne
    ·exact h
   obtain ⟨i', hi', e'⟩ := (hr.2 z).2 ⟨i, hi1, hi, e⟩
   have := heap_top hh2 i' hi'
   unfold fr at this
   rw [e'] at this; exact this
  cases p1 with
  | none => have : ls = [] := hB.1; rw [this] at m0; cases m0
  | some o =>
   cases p2 with
   | none =>
    have h1 : ls = [o] := hB
    rw [h1] at m0 m2
    simp at m0 m2
    exact absurd (m2.trans m0.symm) ne2
   | some t =>
    obtain ⟨ho, ht, hto, hmin, hmin2⟩ : o ∈ ls ∧ t ∈ ls ∧ t ≠ o ∧ (∀ z ∈ ls, rank o ≤ rank z) ∧ (∀ z ∈ ls, z ≠ o → rank t ≤ rank z) := hB
    have e0 : lb.getD 0 (0, 0) = o := rank_inj (hok _ m0) (hok o ho) (Int.le_antisymm (top o ho) (hmin _ m0))
    rw [e0] at ne2 top2
    have e2 : l2.getD 0 (0, 0) = t := rank_inj (hok _ m2) (hok t ht) (Int.le_antisymm (top2 t ht hto) (hmin2 _ m2 ne2))
    rw [h2, e0, e2]
    rfl

end Go.Proofs.YtmmhgkkcpjhiiaaGreat

namespace Go.Proofs.YtmmhgkkcpjhiiaaGreat
open Go.ChangeShapes Go.WideShapes Go.ChangeAt Go.RowKit Go.Joins
set_option linter.unusedVariables false
set_option linter.unusedSimpArgs false

def scOf (key b : Int) (x : Bk) : Sc := (x.1, scoreI key b x.1 x.2.1)
def IdxOf (key b : Int) (l : List Bk) (v : Int) (q : Option Sc) : Prop := (v = -1 ∧ q = none) ∨ ∃ k : Nat, v = (k : Int) ∧ k < l.length ∧ q = some (scOf key b (l.getD k (0, 0, false)))
theorem pick_next {key b : Int} {l : List Bk} {j : Nat} {x y : Int} (hlt : j < l.length) (hxy : l.getD j (0, 0, false) = (x, y, false)) : pick (scL key b (l.take (j + 1))) = pickStep (pick (scL key b (l.take j))) (scOf key b (x, y, false)) := by
 have hts := takeL_succ layK l j hlt
 rw [show l.getD j layK.d = l.getD j (0, 0, false) from rfl, hxy] at hts
 rw [hts, scL_snoc_yes _ _ _ _ rfl, pick_snoc]; rfl
theorem pick_skip {key b : Int} {l : List Bk} {j : Nat} {x y : Int} (hlt : j < l.length) (hxy : l.getD j (0, 0, false) = (x, y, true)) : pick (scL key b (l.take (j + 1))) = pick (scL key b (l.take j)) := by
 have hts := takeL_succ layK l j hlt
 rw [show l.getD j layK.d = l.getD j (0, 0, false) from rfl, hxy] at hts
 rw [hts, scL_snoc_no _ _ _ _ rfl]
theorem backs_all {l : List Bk} (h : backsOkB l = true) {k : Nat} (hk : k < l.length) {x y : Int} {z : Bool} (hxy : l.getD k (0, 0, false) = (x, y, z)) : 0 ≤ x ∧ x < 6 ∧ 1 ≤ y ∧ y ≤ 100 := backB_iff.1 (okAt_back h hk hxy)

set_option maxRecDepth 100000 in
set_option maxHeartbeats 2000000 in
theorem l3pair_any (key b : Int) (o : Option Addr) (cap : Nat) (l : List Bk) (w : World) (hR : RdK w.heap.size w o l) (hlen : l.length ≤ 1000) (hk : keyB key = true) (hbk : 0 ≤ b ∧ b < 8) (hl : backsOkB l = true) :
  Calls Tryz.prog 324 #[.int .i64 key, .int .i64 b, .slice o l.length cap] w fun e w' => ∃ v, e = .returned v ∧ ownI w' w.heap.size v (pairL (pick (scL key b l))) ∧ Below w.heap.size w w' := by
 obtain ⟨hk1, hk2⟩ := keyB_iff.1 hk
 have hsc := fun k (hk : k < l.length) x y z (hxy : l.getD k (0, 0, false) = (x, y, z)) W => have h := backs_all hl hk hxy; l3score_any key b x y z W hk1 hk2 hbk.1 hbk.2 h.1 h.2.1 (by omega) h.2.2.2
 have HSC := hide hsc
 clear hsc
 go_enter Tryz.func324, Tryz.ntmps324
 go_wp2
 go_loopw [7, 8, 9] (fun one two iv wr => ∃ (j : Nat) (v1 v2 : Int), iv = .int .i64 j ∧ one = .int .i64 v1 ∧ two = .int .i64 v2 ∧ j ≤ l.length ∧ IdxOf key b l v1 (pick (scL key b (l.take j))).1 ∧ IdxOf key b l v2 (pick (scL key b (l.take j))).2 ∧ Below w.heap.size w wr)
  (fun _ _ iv _ => l.length - (intOf iv).toNat)
 case atStart => exact ⟨0, -1, -1, rfl, rfl, rfl, Nat.zero_le _, .inl ⟨rfl, by simp [scL, pick]⟩, .inl ⟨rfl, by simp [scL, pick]⟩, Below.refl _ _⟩
 case round =>
  obtain ⟨j, v1, v2, rfl, rfl, rfl, hj, hi1, hi2, hBr⟩ := hrel
  by_cases hlt : j < l.length
  ·rcases hR with hR | ⟨bb, off, rfl, hbl, hcell⟩
   ·subst hR; simp at hlt
   have HC := hide (fun k (hk : k < l.length) W (hW : Below w.heap.size w W) => have h := RdL.back (C := w.heap.size) hcell k hk; (show W.cell? ⟨bb, off + k * 3, none⟩ = some (.int .i64 (l.getD k (0, 0, false)).1) ∧ W.cell? ⟨bb, off + k * 3 + 1, none⟩ = some (.int .i64 (l.getD k (0, 0, false)).2.1) ∧ W.cell? ⟨bb, off + k * 3 + 2, none⟩ = some (.bool (l.getD k (0, 0, false)).2.2) from ⟨(hW.cell (p := ⟨bb, off + k * 3, none⟩) hbl).trans h.1, (hW.cell (p := ⟨bb, off + k * 3 + 1, none⟩) hbl).trans h.2.1, (hW.cell (p := ⟨bb, off + k * 3 + 2, none⟩) hbl).trans h.2.2⟩))
   clear hcell
   have hcx := HC.out j hlt wr hBr
   obtain ⟨x, y, z, hxy⟩ : ∃ x y z, l.getD j (0, 0, false) = (x, y, z) := ⟨_, _, _, rfl⟩
   rw [hxy] at hcx
   dsimp only at hcx
   obtain ⟨c0, c1, c2⟩ := hcx
   have z1 : (j : Int) < (l.length : Int) := by omega
   cases z with
   | true =>
    have HP := hide (pick_skip (key := key) (b := b) hlt hxy)
    have HB := hide hBr
    have H1 := hide hi1
    have H2 := hide hi2
    clear hxy hBr hi1 hi2
    go_wp2
    go_roundw
    case rel => exact ⟨j + 1, v1, v2, by go_num, rfl, rfl, by omega, by rw [HP.out]; exact H1.out, by rw [HP.out]; exact H2.out, HB.out⟩
    case measure => simp [intOf]; omega
   | false =>
    have HP := hide (pick_next (key := key) (b := b) hlt hxy)
    have hsI := HSC.out j hlt x y false hxy
    have HJ : Hid (IdxOf key b l (j : Int) (some (scOf key b (x, y, false)))) := .inr ⟨j, rfl, hlt, by rw [hxy]⟩
    generalize hg : scOf key b (x, y, false) = sx at *
    obtain ⟨sid, sc⟩ := sx
    have hscx : scoreI key b x y = sc := by simp [scOf] at hg; exact hg.2
    rw [hscx] at hsI
    have HB := hide hBr
    clear hxy hBr hg hscx
    generalize pick (scL key b (l.take j)) = pp at *
    obtain ⟨p1, p2⟩ := pp
    dsimp only at hi1 hi2
    rcases hi1 with ⟨rfl, rfl⟩ | ⟨k1, rfl, hk1l, rfl⟩
    ·go_wp2_with fail
     refine (hsI wr).mono ?_
     rintro e w1 ⟨rfl, hb1⟩
     have HB1 := hide (HB.out.trans (hb1.mono HB.out.size))
     clear c0 c1 c2 hsI hb1 hi2
     go_wp2
     go_roundw
     case rel => exact ⟨j + 1, j, -1, by go_num, rfl, rfl, by omega, by rw [HP.out]; exact HJ.out, by rw [HP.out]; exact .inl ⟨rfl, rfl⟩, HB1.out⟩
     case measure => simp [intOf]; omega
    ·obtain ⟨x1, y1, t1, hxy1⟩ : ∃ x y z, l.getD k1 (0, 0, false) = (x, y, z) := ⟨_, _, _, rfl⟩
     have hs1 := HSC.out k1 hk1l x1 y1 t1 hxy1
     have HI1 : Hid (IdxOf key b l (k1 : Int) (some (scOf key b (x1, y1, t1)))) := .inr ⟨k1, rfl, hk1l, by rw [hxy1]⟩
     have HC1 := HC.out k1 hk1l
     rw [hxy1] at HP HC1
     dsimp only at HC1
     generalize hg1 : scOf key b (x1, y1, t1) = s1 at *
     obtain ⟨id1, sc1⟩ := s1
     have hsc1 : scoreI key b x1 y1 = sc1 := by simp [scOf] at hg1; exact hg1.2
     rw [hsc1] at hs1
     have z2 : (k1 : Int) < (l.length : Int) := by omega
     have z3 : ¬ ((k1 : Int) < 0) := by omega
     have HCC1 := hide HC1
     clear hxy1 hg1 hsc1 HC1
     go_wp2_with fail
     refine (hsI wr).mono ?_
     rintro e w1 ⟨rfl, hb1⟩
     have HB1 := hide (HB.out.trans (hb1.mono HB.out.size))
     obtain ⟨d0, d1, d2⟩ := HCC1.out w1 HB1.out
     clear c0 c1 c2 hsI hb1
     go_wp2_with fail
     refine (hs1 w1).mono ?_
     rintro e w2 ⟨rfl, hb2⟩
     have HB2 := hide (HB1.out.trans (hb2.mono HB1.out.size))
     clear d0 d1 d2 hs1 hb2
     by_cases hgt : sc1 < sc
     ·have HE : Hid (pickStep (some (id1, sc1), p2) (sid, sc) = (some (sid, sc), some (id1, sc1))) := by simp [pickStep, hgt, Hid]
      clear hi2
      go_wp2
      go_roundw
      case rel => exact ⟨j + 1, j, k1, by go_num, rfl, rfl, by omega, by rw [HP.out, HE.out]; exact HJ.out, by rw [HP.out, HE.out]; exact HI1.out, HB2.out⟩
      case measure => simp [intOf]; omega
     ·rcases hi2 with ⟨rfl, rfl⟩ | ⟨k2, rfl, hk2l, rfl⟩
      ·have HE : Hid (pickStep (some (id1, sc1), none) (sid, sc) = (some (id1, sc1), some (sid, sc))) := by simp [pickStep, hgt, Hid]
       go_wp2
       go_roundw
       case rel => exact ⟨j + 1, k1, j, by go_num, rfl, rfl, by omega, by rw [HP.out, HE.out]; exact HI1.out, by rw [HP.out, HE.out]; exact HJ.out, HB2.out⟩
       case measure => simp [intOf]; omega
      ·obtain ⟨x2, y2, t2, hxy2⟩ : ∃ x y z, l.getD k2 (0, 0, false) = (x, y, z) := ⟨_, _, _, rfl⟩
       have hs2 := HSC.out k2 hk2l x2 y2 t2 hxy2
       have HI2 : Hid (IdxOf key b l (k2 : Int) (some (scOf key b (x2, y2, t2)))) := .inr ⟨k2, rfl, hk2l, by rw [hxy2]⟩
       have HC2 := HC.out k2 hk2l
       rw [hxy2] at HP HC2
       dsimp only at HC2
       generalize hg2 : scOf key b (x2, y2, t2) = s2 at *
       obtain ⟨id2, sc2⟩ := s2
       have hsc2 : scoreI key b x2 y2 = sc2 := by simp [scOf] at hg2; exact hg2.2
       rw [hsc2] at hs2
       have z4 : (k2 : Int) < (l.length : Int) := by omega
       have z5 : ¬ ((k2 : Int) < 0) := by omega
       obtain ⟨f0, f1, f2⟩ := HC2 w2 HB2.out
       clear hxy2 hg2 hsc2 HC2
       go_wp2_with fail
       refine (hs2 w2).mono ?_
       rintro e w3 ⟨rfl, hb3⟩
       have HB3 := hide (HB2.out.trans (hb3.mono HB2.out.size))
       clear f0 f1 f2 hs2 hb3
       by_cases hgt2 : sc2 < sc
       ·have HE : Hid (pickStep (some (id1, sc1), some (id2, sc2)) (sid, sc) = (some (id1, sc1), some (sid, sc))) := by unfold Hid; simp only [pickStep, if_neg (show ¬ sc1 < sc by omega), if_pos hgt2]
        go_wp2
        go_roundw
        case rel => exact ⟨j + 1, k1, j, by go_num, rfl, rfl, by omega, by rw [HP.out, HE.out]; exact HI1.out, by rw [HP.out, HE.out]; exact HJ.out, HB3.out⟩
        case measure => simp [intOf]; omega
       ·have HE : Hid (pickStep (some (id1, sc1), some (id2, sc2)) (sid, sc) = (some (id1, sc1), some (id2, sc2))) := by unfold Hid; simp only [pickStep, if_neg (show ¬ sc1 < sc by omega), if_neg (show ¬ sc2 < sc by omega)]
        go_wp2
        go_roundw
        case rel => exact ⟨j + 1, k1, k2, by go_num, rfl, rfl, by omega, by rw [HP.out, HE.out]; exact HI1.out, by rw [HP.out, HE.out]; exact HI2.out, HB3.out⟩
        case measure => simp [intOf]; omega
  ·have e : j = l.length := by omega
   subst e
   rw [List.take_of_length_le (Nat.le_refl _)] at hi1 hi2
   have HQ := hide (show pick (scL key b l) = ((pick (scL key b l)).1, (pick (scL key b l)).2) from rfl)
   generalize (pick (scL key b l)).1 = p1 at *
   generalize (pick (scL key b l)).2 = p2 at *
   have HB := hide hBr
   have z0 : ¬ (l.length : Int) < (l.length : Int) := by omega
   rcases hi1 with ⟨rfl, rfl⟩ | ⟨k1, rfl, hk1l, rfl⟩
   ·clear hBr hi2
    go_wp2
    go_ret
    exact ⟨_, rfl, by rw [HQ.out]; exact World.ownsRow_nil _ _ _ _, HB.out⟩
   ·rcases hR with hR | ⟨bb, off, rfl, hbl, hcell⟩
    ·subst hR; simp at hk1l
    have h1 := RdL.back (C := w.heap.size) hcell k1 hk1l
    have c1 := (hBr.cell (p := ⟨bb, off + k1 * 3, none⟩) hbl).trans h1.1
    have z2 : (k1 : Int) < (l.length : Int) := by omega
    have z3 : ¬ ((k1 : Int) < 0) := by omega
    have HI1 : Hid ((scOf key b (l.getD k1 (0, 0, false))).1 = (l.getD k1 (0, 0, false)).1) := rfl
    generalize scOf key b (l.getD k1 (0, 0, false)) = s1 at *
    rcases hi2 with ⟨rfl, rfl⟩ | ⟨k2, rfl, hk2l, rfl⟩
    ·have HO := hide (fun W (hW : w.heap.size ≤ W.heap.size) => ownI_lit W w.heap.size (l.getD k1 (0, 0, false)).1 (l.getD k1 (0, 0, false)).1 hW)
     have HPL : Hid (pairL (pick (scL key b l)) = [(l.getD k1 (0, 0, false)).1, (l.getD k1 (0, 0, false)).1]) := by unfold Hid; rw [HQ.out]; show [s1.1, s1.1] = _; rw [HI1.out]
     generalize (l.getD k1 (0, 0, false)).1 = x1 at *
     have hsz := HB.out.size
     clear hBr hcell h1
     go_wp2
     go_region
     all_goals go_wp2
     all_goals go_ret
     all_goals exact ⟨_, rfl, by rw [HPL.out]; exact (HO.out wr hsz).drew, (HB.out.alloc hsz _).drew⟩
    ·have h2 := RdL.back (C := w.heap.size) hcell k2 hk2l
     have c2 := (hBr.cell (p := ⟨bb, off + k2 * 3, none⟩) hbl).trans h2.1
     have z4 : (k2 : Int) < (l.length : Int) := by omega
     have z5 : ¬ ((k2 : Int) < 0) := by omega
     have HO := hide (fun W (hW : w.heap.size ≤ W.heap.size) => ownI_lit W w.heap.size (l.getD k1 (0, 0, false)).1 (l.getD k2 (0, 0, false)).1 hW)
     have HPL : Hid (pairL (pick (scL key b l)) = [(l.getD k1 (0, 0, false)).1, (l.getD k2 (0, 0, false)).1]) := by unfold Hid; rw [HQ.out]; show [s1.1, (scOf key b (l.getD k2 (0, 0, false))).1] = _; rw [HI1.out]; rfl
     generalize (l.getD k1 (0, 0, false)).1 = x1 at *
     generalize (l.getD k2 (0, 0, false)).1 = x2 at *
     have hsz := HB.out.size
     clear hBr hcell h1 h2
     go_wp2
     go_region
     all_goals go_wp2
     all_goals go_ret
     all_goals exact ⟨_, rfl, by rw [HPL.out]; exact (HO.out wr hsz).drew, (HB.out.alloc hsz _).drew⟩

end Go.Proofs.YtmmhgkkcpjhiiaaGreat

namespace Go.Proofs.YtmmhgkkcpjhiiaaGreat
open Go.ChangeShapes Go.WideShapes Go.ChangeAt Go.RowKit Go.Joins
set_option linter.unusedVariables false
set_option linter.unusedSimpArgs false

def pairI (key b : Int) (l : List Bk) : List Int := if keyB key = true ∧ (0 ≤ b ∧ b < 8) ∧ backsOkB l = true then pairL (pick (scL key b l)) else []
theorem pairI_len (key b : Int) (l : List Bk) : (pairI key b l).length ≤ 2 := by
 unfold pairI
 split
 ·unfold pairL; split <;> simp
 ·simp
theorem backs_len {l : List Bk} (h : backsOkB l = true) : l.length ≤ 6 := by
 have key : ∀ j, j < l.length → (j : Int) ≤ (l.getD j (0, 0, false)).1 := fun j => by
  induction j with
  | zero =>
   intro hj
   obtain ⟨x, y, z, hxy⟩ : ∃ x y z, l.getD 0 (0, 0, false) = (x, y, z) := ⟨_, _, _, rfl⟩
   have := backs_all h hj hxy
   rw [hxy]; simpa using this.1
  | succ j ih =>
   intro hj
   have h1 := ih (by omega)
   have h2 := backs_lt h (j + 1) hj j (by omega)
   omega
 rcases Nat.lt_or_ge 6 l.length with h7 | h7
 ·obtain ⟨x, y, z, hxy⟩ : ∃ x y z, l.getD 6 (0, 0, false) = (x, y, z) := ⟨_, _, _, rfl⟩
  have h1 := key 6 h7
  have h2 := backs_all h h7 hxy
  rw [hxy] at h1
  dsimp only at h1
  omega
 ·exact h7
theorem scL_mem_ok {key b : Int} {l : List Bk} (h : backsOkB l = true) {z : Sc} (hz : z ∈ scL key b l) : okS z := by
 obtain ⟨i, hi, e⟩ := scL_ids hz
 obtain ⟨x, y, t, hxy⟩ : ∃ x y z, l.getD i (0, 0, false) = (x, y, z) := ⟨_, _, _, rfl⟩
 have := backs_all h hi hxy
 rw [hxy] at e
 unfold okS
 rw [← e]
 dsimp only
 omega
theorem backsOkB_take {l : List Bk} (h : backsOkB l = true) (j : Nat) : backsOkB (l.take j) = true := by
 rw [backsOkB_iff] at *
 intro i hi
 have hi' : i < l.length := by simp at hi; omega
 have hij : i < j := by simp at hi; omega
 have := h i hi'
 unfold okAt at *
 have e1 : (l.take j).getD i (0, 0, false) = l.getD i (0, 0, false) := by simp [List.getD_eq_getElem?_getD, List.getElem?_take, hij]
 have e2 : (l.take j).getD (i - 1) (0, 0, false) = l.getD (i - 1) (0, 0, false) := by simp [List.getD_eq_getElem?_getD, List.getElem?_take, show i - 1 < j by omega]
 rw [e1, e2]; exact this
theorem best_scL {key b : Int} {l : List Bk} (h : backsOkB l = true) : Best (scL key b l) (pick (scL key b l)) := by
 have key' : ∀ j, j ≤ l.length → Best (scL key b (l.take j)) (pick (scL key b (l.take j))) := fun j => by
  induction j with
  | zero => intro _; exact ⟨by simp [scL], by simp [scL, pick]⟩
  | succ j ih =>
   intro hj
   have ih' := ih (by omega)
   obtain ⟨x, y, z, hxy⟩ : ∃ x y z, l.getD j (0, 0, false) = (x, y, z) := ⟨_, _, _, rfl⟩
   have hts := takeL_succ layK l j (by omega)
   rw [show l.getD j layK.d = l.getD j (0, 0, false) from rfl, hxy] at hts
   cases z with
   | true => rw [hts, scL_snoc_no _ _ _ _ rfl]; exact ih'
   | false =>
    rw [hts, scL_snoc_yes _ _ _ _ rfl, pick_snoc]
    have hb := backs_all h (by omega) hxy
    refine best_step ih' (fun z hz => scL_mem_ok (backsOkB_take h j) hz) ⟨hb.1, by dsimp only; omega⟩ (fun z hz => ?_)
    obtain ⟨i, hi, e⟩ := scL_ids hz
    have hij : i < j := by simp at hi; omega
    have := backs_lt h j (by omega) i hij
    rw [hxy] at this
    rw [show (l.take j).getD i (0, 0, false) = l.getD i (0, 0, false) by simp [List.getD_eq_getElem?_getD, List.getElem?_take, hij]] at e
    rw [← e]; exact this
 have := key' l.length (Nat.le_refl _)
 rw [List.take_of_length_le (Nat.le_refl _)] at this
 exact this

set_option maxHeartbeats 1000000 in
theorem implPairOf_any (key b : Int) (o : Option Addr) (cap : Nat) (l : List Bk) (w : World) (hR : RdK w.heap.size w o l) (hlen : l.length ≤ 1048576) :
  Calls Tryz.prog 379 #[.int .i64 key, .int .i64 b, .slice o l.length cap] w fun e w' => ∃ v, e = .returned v ∧ ownI w' w.heap.size v (pairI key b l) ∧ Below w.heap.size w w' := by
 have hkey := fun w => isKey_any key w
 have hbuc := fun w => isBucket_any b w
 have hbo := implBacksOk_any o cap l w hR hlen
 by_cases hk : keyB key = true
 ·rw [hk] at hkey
  by_cases hbk : 0 ≤ b ∧ b < 8
  ·rw [show (decide (0 ≤ b) && decide (b < 8)) = true by simp [hbk]] at hbuc
   by_cases hl : backsOkB l = true
   ·rw [hl] at hbo
    have HE := hide (show pairI key b l = pairL (pick (scL key b l)) by rw [pairI, if_pos ⟨hk, hbk, hl⟩])
    have hln := backs_len hl
    go_enter Tryz.func379, Tryz.ntmps379
    go_wp2_with (first | (go_at_call 233; refine (hkey _).mono ?_; rintro e w1 ⟨rfl, rfl⟩) | (go_at_call 317; refine (hbuc _).mono ?_; rintro e w1 ⟨rfl, rfl⟩) | (go_at_call 370; refine hbo.mono ?_; rintro e w2 ⟨rfl, hb2⟩))
    refine (contestOf_any key b o cap l w2 ((hR.kept hb2 (Nat.le_refl _)).le hb2.size) (by omega) hk hbk hl).mono ?_
    rintro e w3 ⟨k, v, lb, rfl, hbd, hhp, hok, hhd, hkge, hb3⟩
    have hlb : lb.length ≤ 1000 := by
     have h1 := hhd.1
     have h2 : (scL key b l).length ≤ l.length := by unfold scL; rw [List.length_map]; exact List.length_filter_le _ _
     omega
    have htwo := twoBest_any k v lb w3 hbd hhp hok hlb
    clear hbo
    go_wp2_with fail
    refine htwo.mono ?_
    rintro e w4 ⟨v4, p, rfl, ht, ho4, hb4⟩
    have hp := two_pair (best_scL hl) (fun z hz => scL_mem_ok hl hz) hhd hhp ht
    have HO := hide (own_mono (hp ▸ ho4) (Nat.le_trans hb2.size hkge))
    have HB := hide ((hb2.trans (hb3.mono hb2.size)).trans (hb4.mono (Nat.le_trans hb2.size hkge)))
    clear ho4 hb2 hb3 hb4 hR ht hp htwo hbd hhp hok hhd
    go_wp2
    go_ret
    exact ⟨v4, rfl, by rw [HE.out]; exact HO.out, HB.out⟩
   ·rw [Bool.eq_false_iff.2 hl] at hbo
    have HE := hide (show pairI key b l = [] by rw [pairI, if_neg (fun q => hl q.2.2)])
    go_enter Tryz.func379, Tryz.ntmps379
    go_wp2_with (first | (go_at_call 233; refine (hkey _).mono ?_; rintro e w1 ⟨rfl, rfl⟩) | (go_at_call 317; refine (hbuc _).mono ?_; rintro e w1 ⟨rfl, rfl⟩) | (go_at_call 370; refine hbo.mono ?_; rintro e w2 ⟨rfl, hb2⟩))
    go_ret
    exact ⟨_, rfl, by rw [HE.out]; exact World.ownsRow_nil _ _ _ _, hb2⟩
  ·rw [show (decide (0 ≤ b) && decide (b < 8)) = false by simpa using hbk] at hbuc
   have HE := hide (show pairI key b l = [] by rw [pairI, if_neg (fun q => hbk q.2.1)])
   go_enter Tryz.func379, Tryz.ntmps379
   go_wp2_with (first | (go_at_call 233; refine (hkey _).mono ?_; rintro e w1 ⟨rfl, rfl⟩) | (go_at_call 317; refine (hbuc _).mono ?_; rintro e w1 ⟨rfl, rfl⟩))
   go_ret
   exact ⟨_, rfl, by rw [HE.out]; exact World.ownsRow_nil _ _ _ _, Below.refl _ _⟩
 ·rw [Bool.eq_false_iff.2 hk] at hkey
  have HE := hide (show pairI key b l = [] by rw [pairI, if_neg (fun q => hk q.1)])
  go_enter Tryz.func379, Tryz.ntmps379
  go_wp2_with (first | (go_at_call 233; refine (hkey _).mono ?_; rintro e w1 ⟨rfl, rfl⟩))
  go_ret
  exact ⟨_, rfl, by rw [HE.out]; exact World.ownsRow_nil _ _ _ _, Below.refl _ _⟩

end Go.Proofs.YtmmhgkkcpjhiiaaGreat

namespace Go.Proofs.YtmmhgkkcpjhiiaaGreat
open Go.ChangeShapes Go.WideShapes Go.ChangeAt Go.RowKit Go.Joins
set_option linter.unusedVariables false
set_option linter.unusedSimpArgs false

theorem ownL.rds {α : Type} {L : Lay α} {e : TypeId} {w : World} {base n c : Nat} {o : Option Addr} {l : List α} (h : ownL L e w base (.slice o n c) l) : RdL L w.heap.size w o l := by
 obtain ⟨o', c', e', hr⟩ := h.open
 injection e' with e1 e2 e3
 rw [e1]; exact hr
theorem own_apart {w : World} {b1 b2 s1 s2 n1 n2 : Nat} {e1 e2 : TypeId} {v1 v2 : Value} {x1 x2 : List Value} (h1 : w.ownsRow b1 e1 s1 v1 n1 x1) (h2 : w.ownsRow b2 e2 s2 v2 n2 x2) (he : e1 ≠ e2) : v1.ownBlock = none ∨ v1.ownBlock ≠ v2.ownBlock := by
 rcases h1.2 with ⟨rfl, _⟩ | ⟨g, cap, cur, rfl, _, hg, _⟩
 ·exact .inl rfl
 ·right
  rcases h2.2 with ⟨rfl, _⟩ | ⟨g', cap', cur', rfl, _, hg', _⟩
  ·simp [Value.ownBlock]
  ·intro e
   simp [Value.ownBlock] at e
   subst e
   rw [hg] at hg'
   simp at hg'
   exact he hg'.2
theorem intNe : (3 : TypeId) ≠ 47 := by decide
def hv (hs : List Hd) (i : Nat) : Value := .slice (hs.getD i (none, 0, 0)).1 (hs.getD i (none, 0, 0)).2.1 (hs.getD i (none, 0, 0)).2.2
structure Tab (R : Nat → List Int) (k : Nat) (w : World) (base : Nat) (hs : List Hd) : Prop where
 len : hs.length = k
 row : ∀ i, i < k → ownI w base (hv hs i) (R i)
 apart : ∀ i j, i < k → j < k → i ≠ j → (hv hs i).ownBlock = none ∨ (hv hs i).ownBlock ≠ (hv hs j).ownBlock
theorem Tab.nil (R : Nat → List Int) (w : World) (base : Nat) : Tab R 0 w base [] := ⟨rfl, fun i h => absurd h (Nat.not_lt_zero _), fun i _ h => absurd h (Nat.not_lt_zero _)⟩
theorem Tab.kept {R : Nat → List Int} {k : Nat} {w w' : World} {base : Nat} {hs : List Hd} (h : Tab R k w base hs) (hb : Below w.heap.size w w') : Tab R k w' base hs :=
 ⟨h.len, fun i hi => own_kept (h.row i hi) hb, h.apart⟩
theorem Tab.grown {R : Nat → List Int} {k : Nat} {w w' : World} {base : Nat} {hs : List Hd} {r : Option Nat} (h : Tab R k w base hs) (hg : w.grownBy w' r) (hn : ∀ i, i < k → (hv hs i).ownBlock = none ∨ (hv hs i).ownBlock ≠ r) : Tab R k w' base hs :=
 ⟨h.len, fun i hi => (h.row i hi).kept hg (hn i hi), h.apart⟩
theorem Tab.other {R : Nat → List Int} {k : Nat} {w w' : World} {base b2 s2 n2 : Nat} {hs : List Hd} {e2 : TypeId} {v2 : Value} {x2 : List Value} (h : Tab R k w base hs) (h2 : w.ownsRow b2 e2 s2 v2 n2 x2) (he : 3 ≠ e2) (hg : w.grownBy w' v2.ownBlock) : Tab R k w' base hs :=
 h.grown hg fun i hi => own_apart (h.row i hi) h2 he
theorem hv_left {hs : List Hd} {x : Hd} {i : Nat} (h : i < hs.length) : hv (hs ++ [x]) i = hv hs i := by
 unfold hv; rw [List.getD_eq_getElem?_getD, List.getElem?_append_left h, ← List.getD_eq_getElem?_getD]
theorem hv_last {hs : List Hd} {x : Hd} : hv (hs ++ [x]) hs.length = .slice x.1 x.2.1 x.2.2 := by
 unfold hv; rw [List.getD_eq_getElem?_getD, List.getElem?_append_right (Nat.le_refl _), Nat.sub_self]; rfl
theorem Tab.snoc {R : Nat → List Int} {k : Nat} {w : World} {base n0 : Nat} {hs : List Hd} {o : Option Addr} {m c : Nat} (h : Tab R k w base hs) (hlt : ∀ i, i < k → ∀ b, (hv hs i).ownBlock = some b → b < n0) (hbn : base ≤ n0)
  (hr : ownI w n0 (.slice o m c) (R k)) : Tab R (k + 1) w base (hs ++ [(o, m, c)]) := by
 have hl := h.len
 have new : hv (hs ++ [(o, m, c)]) k = .slice o m c := by rw [← hl]; exact hv_last
 refine ⟨by simp [hl], fun i hi => ?_, fun i j hi hj hij => ?_⟩
 ·rcases Nat.lt_succ_iff_lt_or_eq.1 hi with h' | h'
  ·rw [hv_left (by omega)]; exact h.row i h'
  ·subst h'; rw [new]; exact own_mono hr hbn
 ·rcases Nat.lt_succ_iff_lt_or_eq.1 hi with h' | h'
  ·rw [hv_left (by omega)]
   rcases Nat.lt_succ_iff_lt_or_eq.1 hj with g' | g'
   ·rw [hv_left (by omega)]; exact h.apart i j h' g' hij
   ·subst g'; rw [new]
    cases hob : (hv hs i).ownBlock with
    | none => exact .inl rfl
    | some b =>
     right
     intro e
     have h1 := hlt i h' b hob
     have h2 := (hr.lt b e.symm).1
     omega
  ·subst h'
   rw [new]
   cases hob : (Value.slice o m c).ownBlock with
   | none => exact .inl rfl
   | some b =>
    right
    rw [hv_left (by omega)]
    intro e
    have h1 := hlt j (by omega) b e.symm
    have h2 := (hr.lt b hob).1
    omega
theorem Tab.lt {R : Nat → List Int} {k : Nat} {w : World} {base : Nat} {hs : List Hd} (h : Tab R k w base hs) : ∀ i, i < k → ∀ b, (hv hs i).ownBlock = some b → b < w.heap.size :=
 fun i hi b e => ((h.row i hi).lt b e).2
def rowsOf (R : Nat → List Int) (n : Nat) : List (List Int) := (List.range n).map R
theorem rowsOf_length (R : Nat → List Int) (n : Nat) : (rowsOf R n).length = n := by simp [rowsOf]
theorem rowsOf_get (R : Nat → List Int) (n i : Nat) (h : i < n) : (rowsOf R n).getD i [] = R i := by simp [rowsOf, h]
theorem Tab.rd {R : Nat → List Int} {n : Nat} {w : World} {base b2 m c : Nat} {hs : List Hd} {o : Option Addr} (h : Tab R n w base hs) (ho : ownL layH 47 w b2 (.slice o m c) hs) : RdLL w.heap.size w o (rowsOf R n) := by
 refine ⟨hs, by rw [h.len, rowsOf_length], ownL.rds ho, fun i hi => ?_⟩
 rw [rowsOf_length] at hi
 rw [rowsOf_get R n i hi]
 have hr := h.row i hi
 obtain ⟨o', c', e', _⟩ := ownL.open (L := layI) hr
 unfold hv at e'
 injection e' with e1 e2 e3
 exact ⟨e2, ownL.rds (L := layI) hr⟩

def OwnT (w : World) (base : Nat) (v : Value) (n : Nat) (R : Nat → List Int) : Prop :=
 (v = .slice none 0 0 ∧ n = 0) ∨ ∃ g hs, v = .slice (some ⟨g, 0, none⟩) n n ∧ ownL layH 47 w base v hs ∧ Tab R n w base hs
theorem OwnT.kept {w w' : World} {base n : Nat} {v : Value} {R : Nat → List Int} (h : OwnT w base v n R) (hb : Below w.heap.size w w') : OwnT w' base v n R := by
 rcases h with h | ⟨g, hs, e, ho, ht⟩
 ·exact .inl h
 ·exact .inr ⟨g, hs, e, own_kept ho hb, ht.kept hb⟩
theorem OwnT.grown {w w' : World} {base n gx : Nat} {v : Value} {R : Nat → List Int} (h : OwnT w base v n R) (hg : w.grownBy w' (some gx)) (hx : gx < base) : OwnT w' base v n R := by
 have key : ∀ {u : Value} {e : TypeId} {s m : Nat} {xs : List Value}, w.ownsRow base e s u m xs → u.ownBlock = none ∨ u.ownBlock ≠ some gx := fun {u e s m xs} hu => by
  cases hob : u.ownBlock with
  | none => exact .inl rfl
  | some b => right; have := (hu.lt b hob).1; intro e'; injection e' with e'; omega
 rcases h with h | ⟨g, hs, e, ho, ht⟩
 ·exact .inl h
 ·exact .inr ⟨g, hs, e, World.ownsRow.kept ho hg (key ho), ht.grown hg fun i hi => key (ht.row i hi)⟩
theorem OwnT.open {w : World} {base n : Nat} {v : Value} {R : Nat → List Int} (h : OwnT w base v n R) : ∃ o c, v = .slice o n c ∧ RdLL w.heap.size w o (rowsOf R n) := by
 rcases h with ⟨rfl, rfl⟩ | ⟨g, hs, rfl, ho, ht⟩
 ·exact ⟨none, 0, rfl, [], rfl, .inl rfl, fun i hi => by simp [rowsOf] at hi⟩
 ·exact ⟨_, _, rfl, ht.rd ho⟩

def st (R : Nat → List Int) (k : Int) : Nat → Int
 | 0 => k
 | i + 1 => st R k i + (R i).length
def mkd (R : Nat → List Int) (k : Int) (i j : Nat) : List Int := if j < i then markI (st R k j) (R j).length else R j
theorem Tab.marked {R : Nat → List Int} {k : Int} {n i : Nat} {w w' : World} {base : Nat} {hs : List Hd} (hi : i < n) (h : Tab (mkd R k i) n w base hs)
  (ho : ownI w' base (hv hs i) (markI (st R k i) (R i).length)) (hg : w.grownBy w' (hv hs i).ownBlock) : Tab (mkd R k (i + 1)) n w' base hs := by
 refine ⟨h.len, fun j hj => ?_, h.apart⟩
 by_cases e : j = i
 ·subst e
  rw [mkd, if_pos (Nat.lt_succ_self _)]; exact ho
 ·have hr := (h.row j hj).kept hg (h.apart j i hj hi e)
  have e2 : mkd R k (i + 1) j = mkd R k i j := by
   unfold mkd
   by_cases h1 : j < i
   ·rw [if_pos h1, if_pos (by omega)]
   ·rw [if_neg h1, if_neg (by omega)]
  rw [e2]; exact hr

end Go.Proofs.YtmmhgkkcpjhiiaaGreat

namespace Go.Proofs.YtmmhgkkcpjhiiaaGreat
open Go.ChangeShapes Go.WideShapes Go.ChangeAt Go.RowKit Go.Joins
set_option linter.unusedVariables false
set_option linter.unusedSimpArgs false

theorem Stp.cellP {lo hi : Nat} {w w' : World} {p : Addr} {u : Value} (s : Stp lo hi w w') (h : w.cell? p = some u) (hk : p.block < lo ∨ hi ≤ p.block) : w'.cell? p = some u := by
 have hlt : p.block < w.heap.size := by
  rcases Nat.lt_or_ge p.block w.heap.size with h' | h'
  ·exact h'
  ·simp [World.cell?, Array.getElem?_eq_none h'] at h
 have e := s.block p.block hlt hk
 simp only [World.cell?, e] at h ⊢
 exact h
def RiV {α : Type} (L : Lay α) (lo hi : Nat) (w : World) (v : Value) (l : List α) : Prop := ∃ o c, v = .slice o l.length c ∧ RdLo L lo hi w o l
theorem RiV.step {α : Type} {L : Lay α} {a b lo hi : Nat} {w w' : World} {v : Value} {l : List α} (h : RiV L a b w v l) (s : Stp lo hi w w') (hd : hi ≤ a ∨ b ≤ lo) : RiV L a b w' v l := by
 obtain ⟨o, c, e, r⟩ := h
 refine ⟨o, c, e, ?_⟩
 rcases r with r | ⟨g, off, ho, h0, h1, r⟩
 ·exact .inl r
 ·refine .inr ⟨g, off, ho, h0, h1, fun i hi' j hj => ?_⟩
  have h := r i hi' j hj
  have hl : (L.cs (l.getD i L.d)).length = L.k := L.len _
  rw [List.getElem?_eq_getElem (by omega)] at h ⊢
  exact s.cellP h (by simp only; omega)
theorem RiV.mono {α : Type} {L : Lay α} {a b a' b' : Nat} {w : World} {v : Value} {l : List α} (h : RiV L a b w v l) (h1 : a' ≤ a) (h2 : b ≤ b') : RiV L a' b' w v l := by
 obtain ⟨o, c, e, r⟩ := h
 refine ⟨o, c, e, ?_⟩
 rcases r with r | ⟨g, off, ho, h3, h4, r⟩
 ·exact .inl r
 ·exact .inr ⟨g, off, ho, by omega, by omega, r⟩
theorem RiV.open {α : Type} {L : Lay α} {a b : Nat} {w : World} {v : Value} {l : List α} (h : RiV L a b w v l) : ∃ o c, v = .slice o l.length c ∧ RdL L b w o l := by
 obtain ⟨o, c, e, r⟩ := h
 exact ⟨o, c, e, r.rd⟩
theorem RiV.of {α : Type} {L : Lay α} {C : Nat} {w : World} {o : Option Addr} {c : Nat} {l : List α} (h : RdL L C w o l) : RiV L 0 C w (.slice o l.length c) l := by
 refine ⟨o, c, rfl, ?_⟩
 rcases h with h | ⟨g, off, ho, h1, r⟩
 ·exact .inl h
 ·exact .inr ⟨g, off, ho, Nat.zero_le _, h1, r⟩
theorem InRow.ri {α : Type} {L : Lay α} {e : TypeId} {lo hi : Nat} {w : World} {v : Value} {l : List α} (h : InL L e lo hi w v l) : RiV L lo hi w v l := by
 obtain ⟨o, c, e1, r⟩ := InL.rd (L := L) h
 refine ⟨o, c, e1, ?_⟩
 rcases r with r | ⟨g, off, ho, h1, r⟩
 ·exact .inl r
 ·refine .inr ⟨g, off, ho, (h.1.lt g (by rw [e1, ho]; rfl)).1, h1, r⟩
def RiRows {α : Type} (Q : Nat → Nat → World → Value → α → Prop) (d : α) (lo hi : Nat) (w : World) (v : Value) (xs : List α) : Prop := ∃ hs : List Hd, hs.length = xs.length ∧ RiV layH lo hi w v hs ∧ ∀ i, i < xs.length → Q lo hi w (hv hs i) (xs.getD i d)
structure Stps {α : Type} (Q : Nat → Nat → World → Value → α → Prop) : Prop where
 go : ∀ {a b lo hi : Nat} {w w' : World} {v : Value} {x : α}, Q a b w v x → Stp lo hi w w' → (hi ≤ a ∨ b ≤ lo) → Q a b w' v x
structure Monos {α : Type} (Q : Nat → Nat → World → Value → α → Prop) : Prop where
 go : ∀ {a b a' b' : Nat} {w : World} {v : Value} {x : α}, Q a b w v x → a' ≤ a → b ≤ b' → Q a' b' w v x
theorem RiRows.step {α : Type} {Q : Nat → Nat → World → Value → α → Prop} {d : α} (hQ : Stps Q) : Stps (RiRows Q d) := ⟨fun ⟨hs, h0, h1, h2⟩ s hd => ⟨hs, h0, h1.step s hd, fun i hi => hQ.go (h2 i hi) s hd⟩⟩
theorem RiRows.mono {α : Type} {Q : Nat → Nat → World → Value → α → Prop} {d : α} (hQ : Monos Q) : Monos (RiRows Q d) := ⟨fun ⟨hs, h0, h1, h2⟩ k1 k2 => ⟨hs, h0, h1.mono k1 k2, fun i hi => hQ.go (h2 i hi) k1 k2⟩⟩
abbrev RiI := RiV layI
abbrev RiT := RiRows RiI []
abbrev RiR := RiRows RiT []
theorem RiI.stp : Stps RiI := ⟨fun h s hd => RiV.step h s hd⟩
theorem RiI.mon : Monos RiI := ⟨fun h h1 h2 => RiV.mono h h1 h2⟩
theorem RiT.stp : Stps RiT := RiRows.step RiI.stp
theorem RiT.mon : Monos RiT := RiRows.mono RiI.mon
theorem RiR.stp : Stps RiR := RiRows.step RiT.stp
theorem RiR.mon : Monos RiR := RiRows.mono RiT.mon
theorem RiT.rd {a b : Nat} {w : World} {v : Value} {ll : List (List Int)} (h : RiT a b w v ll) : ∃ o c, v = .slice o ll.length c ∧ RdLL b w o ll := by
 obtain ⟨hs, h0, h1, h2⟩ := h
 obtain ⟨o, c, e, r⟩ := h1.open
 refine ⟨o, c, by rw [e, h0], hs, h0, r, fun i hi => ?_⟩
 obtain ⟨o', c', e', r'⟩ := (h2 i hi).open
 unfold hv at e'
 injection e' with e1 e2 e3
 exact ⟨e2, by rw [e1]; exact r'⟩
theorem RiT.of {C : Nat} {w : World} {o : Option Addr} {c : Nat} {ll : List (List Int)} (h : RdLL C w o ll) : RiT 0 C w (.slice o ll.length c) ll := by
 obtain ⟨hs, h0, r, h2⟩ := h
 refine ⟨hs, h0, by rw [← h0]; exact RiV.of r, fun i hi => ?_⟩
 have h3 := RiV.of (c := (hs.getD i (none, 0, 0)).2.2) (h2 i hi).2
 unfold hv
 rw [(h2 i hi).1]
 exact h3
theorem RiR.at {a C : Nat} {w : World} {o : Option Addr} {n c : Nat} {lll : List (List (List Int))} (h : RiR a C w (.slice o n c) lll) (hC : C ≤ w.heap.size) (i : Nat) (hi : i < lll.length) :
  ∃ b off o' c', o = some ⟨b, off, none⟩ ∧ b < w.heap.size ∧ w.cell? ⟨b, off + i, none⟩ = some (.slice o' (lll.getD i []).length c') ∧ RdLL w.heap.size w o' (lll.getD i []) := by
 obtain ⟨hs, h0, h1, h2⟩ := h
 obtain ⟨o1, c1, e, r⟩ := h1.open
 injection e with e1 e2 e3
 subst e1
 rcases r with r | ⟨b, off, ho, hb, r⟩
 ·subst r; simp at h0; omega
 ·have hc := RdL.head r i (by omega)
  obtain ⟨o', c', e', r'⟩ := RiT.rd (h2 i hi)
  unfold hv at e'
  rw [e'] at hc
  exact ⟨b, off, o', c', ho, Nat.lt_of_lt_of_le hb hC, hc, r'.le hC⟩

structure Rw {α : Type} (Q : Nat → Nat → World → Value → α → Prop) (d : α) (xs : List α) (lo hi : Nat) (w : World) (hs : List Hd) (L H : Nat → Nat) : Prop where
 len : hs.length = xs.length
 bd : ∀ i, i < xs.length → lo ≤ L i ∧ H i ≤ hi
 sep : ∀ i j, i < j → j < xs.length → H i ≤ L j
 row : ∀ i, i < xs.length → Q (L i) (H i) w (hv hs i) (xs.getD i d)
theorem Rw.nil {α : Type} (Q : Nat → Nat → World → Value → α → Prop) (d : α) (lo hi : Nat) (w : World) (L H : Nat → Nat) : Rw Q d [] lo hi w [] L H := ⟨rfl, fun i h => absurd h (Nat.not_lt_zero _), fun i j _ h => absurd h (Nat.not_lt_zero _), fun i h => absurd h (Nat.not_lt_zero _)⟩
theorem Rw.step {α : Type} {Q : Nat → Nat → World → Value → α → Prop} {d : α} {xs : List α} {a b lo hi : Nat} {w w' : World} {hs : List Hd} {L H : Nat → Nat} (hQ : Stps Q) (h : Rw Q d xs a b w hs L H) (s : Stp lo hi w w') (hd : ∀ i, i < xs.length → hi ≤ L i ∨ H i ≤ lo) : Rw Q d xs a b w' hs L H :=
 ⟨h.len, h.bd, h.sep, fun i hi' => hQ.go (h.row i hi') s (hd i hi')⟩
theorem Rw.kept {α : Type} {Q : Nat → Nat → World → Value → α → Prop} {d : α} {xs : List α} {a b : Nat} {w w' : World} {hs : List Hd} {L H : Nat → Nat} (hQ : Stps Q) (h : Rw Q d xs a b w hs L H) (hb : Below w.heap.size w w') : Rw Q d xs a b w' hs L H :=
 h.step hQ (Stp.of (lo := 0) (hi := 0) hb) (fun i _ => .inl (Nat.zero_le _))
theorem Rw.mono {α : Type} {Q : Nat → Nat → World → Value → α → Prop} {d : α} {xs : List α} {a b a' b' : Nat} {w : World} {hs : List Hd} {L H : Nat → Nat} (h : Rw Q d xs a b w hs L H) (h1 : a' ≤ a) (h2 : b ≤ b') : Rw Q d xs a' b' w hs L H :=
 ⟨h.len, fun i hi => ⟨Nat.le_trans h1 (h.bd i hi).1, Nat.le_trans (h.bd i hi).2 h2⟩, h.sep, h.row⟩
theorem Rw.snoc {α : Type} {Q : Nat → Nat → World → Value → α → Prop} {d : α} {xs : List α} {lo b l2 h2 : Nat} {w : World} {hs : List Hd} {L H : Nat → Nat} {o : Option Addr} {m c : Nat} {x : α} (h : Rw Q d xs lo b w hs L H) (hb : b ≤ l2) (hlo : lo ≤ l2) (hl : l2 ≤ h2) (q : Q l2 h2 w (.slice o m c) x) :
  Rw Q d (xs ++ [x]) lo h2 w (hs ++ [(o, m, c)]) (fun i => if i < xs.length then L i else l2) (fun i => if i < xs.length then H i else h2) := by
 have hl' := h.len
 refine ⟨by simp [hl'], fun i hi => ?_, fun i j hij hj => ?_, fun i hi => ?_⟩
 ·by_cases hi' : i < xs.length
  ·have := h.bd i hi'; simp only [hi', if_true]; omega
  ·simp only [hi', if_false]; omega
 ·simp at hj
  have hi' : i < xs.length := by omega
  by_cases hj' : j < xs.length
  ·simp only [hi', hj', if_true]; exact h.sep i j hij hj'
  ·have := h.bd i hi'; simp only [hi', hj', if_true, if_false]; omega
 ·by_cases hi' : i < xs.length
  ·have e1 : (xs ++ [x]).getD i d = xs.getD i d := by rw [List.getD_eq_getElem?_getD, List.getElem?_append_left hi', ← List.getD_eq_getElem?_getD]
   simp only [hi', if_true]
   rw [hv_left (by omega), e1]; exact h.row i hi'
  ·have e0 : i = xs.length := by simp at hi; omega
   subst e0
   have e1 : (xs ++ [x]).getD xs.length d = x := by simp
   simp only [Nat.lt_irrefl, if_false]
   rw [e1, ← hl', hv_last]; exact q
theorem Rw.mark {α : Type} {Q : Nat → Nat → World → Value → α → Prop} {d : α} {xs : List α} {a b : Nat} {w w' : World} {hs : List Hd} {L H : Nat → Nat} (hQ : Stps Q) (h : Rw Q d xs a b w hs L H) {i : Nat} (hi : i < xs.length) {y : α} (s : Stp (L i) (H i) w w') (q : Q (L i) (H i) w' (hv hs i) y) : Rw Q d (xs.set i y) a b w' hs L H := by
 refine ⟨by rw [List.length_set]; exact h.len, fun j hj => h.bd j (by simpa using hj), fun j k hjk hk => h.sep j k hjk (by simpa using hk), fun j hj => ?_⟩
 have hj' : j < xs.length := by simpa using hj
 by_cases e : j = i
 ·subst e
  have e1 : (xs.set j y).getD j d = y := by simp [List.getD_eq_getElem?_getD, hj']
  rw [e1]; exact q
 ·have e' : ¬ i = j := fun h => e h.symm
  have e1 : (xs.set i y).getD j d = xs.getD j d := by simp [List.getD_eq_getElem?_getD, List.getElem?_set, e']
  rw [e1]
  refine hQ.go (h.row j hj') s ?_
  rcases Nat.lt_or_ge j i with h' | h'
  ·exact .inr (h.sep j i h' hi)
  ·exact .inl (h.sep i j (by omega) hj')
def outB (v : Value) (n : Nat) (L H : Nat → Nat) : Prop := ∀ i, i < n → ∀ b, v.ownBlock = some b → b < L i ∨ H i ≤ b
def InRows {α : Type} (Q : Nat → Nat → World → Value → α → Prop) (d : α) (T : TypeId) (lo hi : Nat) (w : World) (v : Value) (xs : List α) : Prop := ∃ hs L H, InL layH T lo hi w v hs ∧ Rw Q d xs lo hi w hs L H ∧ outB v xs.length L H
theorem InRows.step {α : Type} {Q : Nat → Nat → World → Value → α → Prop} {d : α} {T : TypeId} (hQ : Stps Q) : Stps (InRows Q d T) := ⟨fun ⟨hs, L, H, h0, h1, h2⟩ s hd =>
 ⟨hs, L, H, InRow.step h0 s hd, h1.step hQ s (fun i hi => by have := h1.bd i hi; omega), h2⟩⟩
theorem InRows.mono {α : Type} {Q : Nat → Nat → World → Value → α → Prop} {d : α} {T : TypeId} : Monos (InRows Q d T) := ⟨fun ⟨hs, L, H, h0, h1, h2⟩ k1 k2 =>
 ⟨hs, L, H, InRow.mono h0 k1 k2, h1.mono k1 k2, h2⟩⟩
theorem InRows.ri {α : Type} {Q Q' : Nat → Nat → World → Value → α → Prop} {d : α} {T : TypeId} (hm : Monos Q') (hq : ∀ {lo hi : Nat} {w : World} {v : Value} {x : α}, Q lo hi w v x → Q' lo hi w v x) {lo hi : Nat} {w : World} {v : Value} {xs : List α} (h : InRows Q d T lo hi w v xs) : RiRows Q' d lo hi w v xs := by
 obtain ⟨hs, L, H, h0, h1, h2⟩ := h
 exact ⟨hs, h1.len, InRow.ri h0, fun i hi => hm.go (hq (h1.row i hi)) (h1.bd i hi).1 (h1.bd i hi).2⟩
abbrev InI := InL layI 3
abbrev InT := InRows InI [] 47
abbrev InR := InRows InT [] 51
theorem InI.stp : Stps InI := ⟨fun h s hd => InRow.step h s hd⟩
theorem InT.stp : Stps InT := InRows.step InI.stp
theorem InR.stp : Stps InR := InRows.step InT.stp
theorem InT.ri {lo hi : Nat} {w : World} {v : Value} {ll : List (List Int)} (h : InT lo hi w v ll) : RiT lo hi w v ll := InRows.ri RiI.mon (fun q => InRow.ri q) h
theorem InR.ri {lo hi : Nat} {w : World} {v : Value} {ll : List (List (List Int))} (h : InR lo hi w v ll) : RiR lo hi w v ll := InRows.ri RiT.mon (fun q => InT.ri q) h

end Go.Proofs.YtmmhgkkcpjhiiaaGreat

