/- Several texts in one: Ints, LInts, SMoved, SSame, ShI, ShH. -/
import Derived.Test.YtoeoiljddcjphaaIntsA
import Derived.Deep.RegionHeld3
import Derived.Test.YtoeoiljddcjphaaFr
import Derived.Test.YtoeoiljddcjphaaSHunt2
/- Slices of ints and slices of these: how they read; the laws' own helpers over them: szIntS, szIntSS, toIntS, toIntSS, eqIntS, eqIntSS. -/
namespace Go.Proofs.Ytoeoiljddcjphaa
open Go.ChangeShapes Go.WideShapes Go.ChangeAt Go.RowKit Go.Joins
set_option linter.unusedVariables false
set_option linter.unusedSimpArgs false

/-- A slice's head: where it begins, its length, its capacity. -/
abbrev Hd := Option Addr × Nat × Nat
def layH : Lay Hd := ⟨1, fun a => [.slice a.1 a.2.1 a.2.2], (none, 0, 0), fun _ => rfl⟩

theorem RdL.head {w : World} {b off : Nat} {l : List Hd} (h : ∀ i, i < l.length → ∀ j, j < layH.k → w.cell? ⟨b, off + i * layH.k + j, none⟩ = (layH.cs (l.getD i layH.d))[j]?) (i : Nat) (hi : i < l.length) :
    w.cell? ⟨b, off + i, none⟩ = some (.slice (l.getD i (none, 0, 0)).1 (l.getD i (none, 0, 0)).2.1 (l.getD i (none, 0, 0)).2.2) := by
  have := h i hi 0 (by decide)
  rw [show layH.k = 1 from rfl, Nat.mul_one, Nat.add_zero] at this
  exact this

/-- As RdL, in a block from lo on. -/
def RdLo {α : Type} (L : Lay α) (lo C : Nat) (w : World) (o : Option Addr) (l : List α) : Prop :=
  l = [] ∨ ∃ b off, o = some ⟨b, off, none⟩ ∧ lo ≤ b ∧ b < C ∧ ∀ i, i < l.length → ∀ j, j < L.k → w.cell? ⟨b, off + i * L.k + j, none⟩ = (L.cs (l.getD i L.d))[j]?
theorem RdLo.rd {α : Type} {L : Lay α} {lo C : Nat} {w : World} {o : Option Addr} {l : List α} (h : RdLo L lo C w o l) : RdL L C w o l := by
  rcases h with h | ⟨b, off, ho, _, hb, r⟩
  · exact .inl h
  · exact .inr ⟨b, off, ho, hb, r⟩
theorem RdLo.kept {α : Type} {L : Lay α} {lo C D : Nat} {w w' : World} {o : Option Addr} {l : List α} (h : RdLo L lo C w o l) (hb : Below D w w') (hc : C ≤ D) : RdLo L lo C w' o l := by
  rcases h with h | ⟨b, off, ho, h0, hlt, r⟩
  · exact .inl h
  · exact .inr ⟨b, off, ho, h0, hlt, fun i hi j hj => (hb.cell (p := ⟨b, off + i * L.k + j, none⟩) (Nat.lt_of_lt_of_le hlt hc)).trans (r i hi j hj)⟩
theorem RdLo.le {α : Type} {L : Lay α} {lo C D : Nat} {w : World} {o : Option Addr} {l : List α} (h : RdLo L lo C w o l) (hc : C ≤ D) : RdLo L lo D w o l := by
  rcases h with h | ⟨b, off, ho, h0, hlt, r⟩
  · exact .inl h
  · exact .inr ⟨b, off, ho, h0, Nat.lt_of_lt_of_le hlt hc, r⟩
theorem RdLo.put {α : Type} {L : Lay α} {lo C g j : Nat} {w : World} {o : Option Addr} {l : List α} {u : Value} (h : RdLo L lo C w o l) (hg : g < lo) : RdLo L lo C (w.setCell ⟨g, j, none⟩ u) o l := by
  rcases h with h | ⟨b, off, ho, h0, hlt, r⟩
  · exact .inl h
  · exact .inr ⟨b, off, ho, h0, hlt, fun i hi j' hj => (World.cell?_setCell_other w _ _ _ (by simp <;> omega)).trans (r i hi j' hj)⟩
theorem ownL.rdLo {α : Type} {L : Lay α} {e : TypeId} {w : World} {base g n cap : Nat} {l : List α} (h : ownL L e w base (.slice (some ⟨g, 0, none⟩) n cap) l) : RdLo L base w.heap.size w (some ⟨g, 0, none⟩) l := by
  have hg := (h.lt g rfl).1
  rcases h.rd with h | ⟨b, off, ho, hb, r⟩
  · exact .inl h
  · cases ho
    exact .inr ⟨g, 0, rfl, hg, hb, r⟩

/-- The slice of slices that begins at o reads as ll. -/
def RdLL (C : Nat) (w : World) (o : Option Addr) (ll : List (List Int)) : Prop :=
  ∃ hs : List Hd, hs.length = ll.length ∧ RdL layH C w o hs ∧ ∀ i, i < ll.length → (hs.getD i (none, 0, 0)).2.1 = (ll.getD i []).length ∧ RdI C w (hs.getD i (none, 0, 0)).1 (ll.getD i [])
theorem RdLL.kept {C D : Nat} {w w' : World} {o : Option Addr} {ll : List (List Int)} (h : RdLL C w o ll) (hb : Below D w w') (hc : C ≤ D) : RdLL C w' o ll := by
  obtain ⟨hs, hl, hr, hx⟩ := h
  exact ⟨hs, hl, hr.kept hb hc, fun i hi => ⟨(hx i hi).1, (hx i hi).2.kept hb hc⟩⟩
theorem RdLL.le {C D : Nat} {w : World} {o : Option Addr} {ll : List (List Int)} (h : RdLL C w o ll) (hc : C ≤ D) : RdLL D w o ll := by
  obtain ⟨hs, hl, hr, hx⟩ := h
  exact ⟨hs, hl, hr.le hc, fun i hi => ⟨(hx i hi).1, (hx i hi).2.le hc⟩⟩
/-- The head of row i, and how the row reads. -/
theorem RdLL.at {C : Nat} {w : World} {o : Option Addr} {ll : List (List Int)} (h : RdLL C w o ll) (hC : C ≤ w.heap.size) (i : Nat) (hi : i < ll.length) :
    ∃ b off o' c', o = some ⟨b, off, none⟩ ∧ b < w.heap.size ∧ w.cell? ⟨b, off + i, none⟩ = some (.slice o' (ll.getD i []).length c') ∧ RdI w.heap.size w o' (ll.getD i []) := by
  obtain ⟨hs, hl, hr, hx⟩ := h
  rcases hr with hr | ⟨b, off, ho, hb, r⟩
  · subst hr; simp at hl; omega
  · have := RdL.head r i (by omega)
    rw [(hx i hi).1] at this
    exact ⟨b, off, _, _, ho, Nat.lt_of_lt_of_le hb hC, this, (hx i hi).2.le hC⟩

theorem infoIntS : (Try.prog.info? 38).map (fun i => (i.zero, i.size, i.bytes)) = some (some (.slice none 0 0), 1, 24) := by kernel_rfl
theorem cellsInt2 : Try.prog.cellsOf 3 = 1 := by kernel_rfl
theorem cellsIntS : Try.prog.cellsOf 38 = 1 := by kernel_rfl

/-- Ints that came in. -/
theorem open_ints_cells {H : Type} {enc : TypeId × Value → H} {W : World} {fuel : Nat} {cs : List Value} {x : DataW H × List MemPlace} (h : DataW.trod enc Try.prog W 0 (fun _ => true) true fuel 38 cs = some x) :
    ∃ (o : Option Addr) (cap : Nat) (l : List Int), cs = [.slice o l.length cap] ∧ l.length ≤ maxLen ∧ RdI W.heap.size W o l := by
  refine open_list layI (by decide) Try.underlying38 cellsInt2 ?_ h
  intro n cs y hl hy
  obtain ⟨a, e0, _, _⟩ := DataW.trod_int Try.underlying3 hy
  exact ⟨a, e0⟩
end Go.Proofs.Ytoeoiljddcjphaa

/- The laws' own helpers over ints and rows of ints: szIntS, szIntSS, toIntS, toIntSS, eqIntS, eqIntSS. -/
namespace Go.Proofs.Ytoeoiljddcjphaa
open Go.ChangeShapes Go.WideShapes Go.ChangeAt Go.RowKit Go.Joins
set_option linter.unusedVariables false
set_option linter.unusedSimpArgs false

/-- What is left behind the first k rows; below 0: -1. -/
def leftTo (ll : List (List Int)) (n : Int) : Nat → Int
  | 0 => n - ll.length
  | k + 1 => leftTo ll n k - (ll.getD k []).length
theorem leftTo_le (ll : List (List Int)) (n : Int) : ∀ k, leftTo ll n k ≤ n - ll.length
  | 0 => Int.le_refl _
  | k + 1 => by have := leftTo_le ll n k; unfold leftTo; omega
/-- All rows fit. -/
def fits (ll : List (List Int)) (n : Int) : Prop := ∀ k, k ≤ ll.length → 0 ≤ leftTo ll n k
def leftLL (ll : List (List Int)) (n : Int) : Int := leftTo ll n ll.length

/-- The row of ints that is filled, at its (k+1)st store. -/
theorem fillI_step {w wr : World} {base g c : Nat} {l : List Int} {k : Nat} (hk : k < l.length) (hg : base ≤ g) (hown : wr.ownsRow w.heap.size 3 1 (.slice (some ⟨g, 0, none⟩) l.length c) l.length ((fillL layI l k).flatMap layI.cs))
    (hB : Below base w wr) : (wr.setCell ⟨g, k, none⟩ (.int .i64 (l.getD k 0))).ownsRow w.heap.size 3 1 (.slice (some ⟨g, 0, none⟩) l.length c) l.length ((fillL layI l (k + 1)).flatMap layI.cs) ∧
      Below base w (wr.setCell ⟨g, k, none⟩ (.int .i64 (l.getD k 0))) := by
  have h := (hown.stored k (.int .i64 (l.getD k 0))).1
  rw [flat_set1 layI rfl (a := l.getD k 0) rfl, show l.getD k 0 = l.getD k layI.d from rfl, fillL_set layI l k hk] at h
  exact ⟨h, hB.setCell (p := ⟨g, k, none⟩) hg _⟩

/-- The rows that have been copied so far: the outer row's heads, and how each reads. -/
structure Rows2 (ll : List (List Int)) (k g lo : Nat) (wr : World) (base : Nat) (hs : List Hd) : Prop where
  len : hs.length = k
  own : wr.ownsRow base 38 1 (.slice (some ⟨g, 0, none⟩) ll.length ll.length) ll.length ((hs ++ List.replicate (ll.length - k) layH.d).flatMap layH.cs)
  row : ∀ i, i < k → (hs.getD i (none, 0, 0)).2.1 = (ll.getD i []).length ∧ RdLo layI lo wr.heap.size wr (hs.getD i (none, 0, 0)).1 (ll.getD i [])

theorem Rows2.kept {ll : List (List Int)} {k g lo : Nat} {wr w' : World} {base : Nat} {hs : List Hd} (h : Rows2 ll k g lo wr base hs) (hb : Below wr.heap.size wr w') : Rows2 ll k g lo w' base hs :=
  ⟨h.len, own_kept h.own hb, fun i hi => ⟨(h.row i hi).1, ((h.row i hi).2.kept hb (Nat.le_refl _)).le hb.size⟩⟩
theorem Rows2.step {ll : List (List Int)} {k g lo : Nat} {wr : World} {base : Nat} {hs : List Hd} {o : Option Addr} {c : Nat} (h : Rows2 ll k g lo wr base hs) (hk : k < ll.length) (hg : g < lo) (hr : RdLo layI lo wr.heap.size wr o (ll.getD k [])) :
    Rows2 ll (k + 1) g lo (wr.setCell ⟨g, k, none⟩ (.slice o (ll.getD k []).length c)) base (hs ++ [(o, (ll.getD k []).length, c)]) := by
  have hsz : (wr.setCell ⟨g, k, none⟩ (.slice o (ll.getD k []).length c)).heap.size = wr.heap.size := by simp
  have hlen := h.len
  refine ⟨by simp [hlen], ?_, fun i hi => ?_⟩
  · have h1 := (h.own.stored k (.slice o (ll.getD k []).length c)).1
    rw [flat_set1 layH rfl (a := (o, (ll.getD k []).length, c)) rfl] at h1
    have e1 : ll.length - k = (ll.length - (k + 1)) + 1 := by omega
    rw [e1, List.replicate_succ, List.set_append_right _ _ (by omega), hlen, Nat.sub_self, List.set_cons_zero] at h1
    rw [List.append_assoc]
    exact h1
  · rcases Nat.lt_succ_iff_lt_or_eq.1 hi with h' | h'
    · have e : (hs ++ [(o, (ll.getD k []).length, c)]).getD i (none, 0, 0) = hs.getD i (none, 0, 0) := by
        rw [List.getD_eq_getElem?_getD, List.getElem?_append_left (by omega), ← List.getD_eq_getElem?_getD]
      rw [e, hsz]
      exact ⟨(h.row i h').1, (h.row i h').2.put hg⟩
    · subst h'
      have e : (hs ++ [(o, (ll.getD i []).length, c)]).getD i (none, 0, 0) = (o, (ll.getD i []).length, c) := by
        rw [List.getD_eq_getElem?_getD, List.getElem?_append_right (by omega), hlen, Nat.sub_self]; rfl
      rw [e, hsz]
      exact ⟨rfl, hr.put hg⟩
theorem Rows2.all {ll : List (List Int)} {g lo : Nat} {wr : World} {base : Nat} {hs : List Hd} (h : Rows2 ll ll.length g lo wr base hs) : RdLL wr.heap.size wr (some ⟨g, 0, none⟩) ll := by
  have ho := h.own
  rw [Nat.sub_self, List.replicate_zero, List.append_nil] at ho
  have hl := h.len
  have ho' : ownL layH 38 wr base (.slice (some ⟨g, 0, none⟩) hs.length ll.length) hs := by
    rw [hl]; exact (by unfold ownL; rw [hl]; exact ho)
  exact ⟨hs, hl, ho'.rd, fun i hi => ⟨(h.row i hi).1, (h.row i hi).2.rd⟩⟩

end Go.Proofs.Ytoeoiljddcjphaa

/- Moved on both sides. -/
namespace Go.Proofs.Ytoeoiljddcjphaa
open Go.ChangeShapes Go.WideShapes Go.ChangeAt Go.RowKit Go.Joins
set_option linter.unusedVariables false
set_option linter.unusedSimpArgs false

/-- How many of the first k rows are unlike. -/
def movedTo (aa bb : List (List Int)) : Nat → Int
  | 0 => 0
  | k + 1 => movedTo aa bb k + (if aa.getD k [] = bb.getD k [] then 0 else 1)
theorem movedTo_bd (aa bb : List (List Int)) : ∀ k, 0 ≤ movedTo aa bb k ∧ movedTo aa bb k ≤ k
  | 0 => ⟨Int.le_refl _, Int.le_refl _⟩
  | k + 1 => by have := movedTo_bd aa bb k; unfold movedTo; split <;> omega
def movedI (aa bb : List (List Int)) : Int := if aa.length = 8 ∧ bb.length = 8 then movedTo aa bb 8 else -1

theorem movedI_no {aa bb : List (List Int)} (h : ¬ (aa.length = 8 ∧ bb.length = 8)) : -1 = movedI aa bb := by rw [movedI, if_neg h]
theorem movedTo_same {aa bb : List (List Int)} {k : Nat} {ra rb : List Int} (h1 : aa.getD k [] = ra) (h2 : bb.getD k [] = rb) (h : ra = rb) : movedTo aa bb k = movedTo aa bb (k + 1) := by
  unfold movedTo; rw [h1, h2, if_pos h]; cases k <;> simp [movedTo]
theorem movedTo_diff {aa bb : List (List Int)} {k : Nat} {ra rb : List Int} (h1 : aa.getD k [] = ra) (h2 : bb.getD k [] = rb) (h : ra ≠ rb) : movedTo aa bb k + 1 = movedTo aa bb (k + 1) := by
  rw [show movedTo aa bb (k + 1) = movedTo aa bb k + (if aa.getD k [] = bb.getD k [] then 0 else 1) from rfl, h1, h2, if_neg h]

end Go.Proofs.Ytoeoiljddcjphaa

/- The laws' sameInts; how many buckets have another pair. -/
namespace Go.Proofs.Ytoeoiljddcjphaa
open Go.ChangeShapes Go.WideShapes Go.ChangeAt Go.RowKit Go.Joins
set_option linter.unusedVariables false
set_option linter.unusedSimpArgs false

set_option maxHeartbeats 1000000 in
theorem sameInts_any (o1 o2 : Option Addr) (c1 c2 : Nat) (l : List Int) (w : World) (h1 : RdI w.heap.size w o1 l) (h2 : RdI w.heap.size w o2 l) (hl : l.length ≤ 1048576) :
    Calls Try.prog 12 #[.slice o1 l.length c1, .slice o2 l.length c2] w fun e w' => e = .returned (.bool true) ∧ Below w.heap.size w w' := by
  go_enter Try.func12, Try.ntmps12
  go_wp2
  go_loopw [5] (fun i wr => ∃ k : Nat, k ≤ l.length ∧ i = .int .i64 k ∧ Below w.heap.size w wr)
    (fun i _ => l.length - (intOf i).toNat)
  case atStart => exact ⟨0, Nat.zero_le _, rfl, Below.refl _ _⟩
  case round =>
    obtain ⟨k, hk, rfl, hBr⟩ := hrel
    by_cases hlt : k < l.length
    · rcases h1 with h1 | ⟨b1, off1, rfl, hb1, hcell1⟩
      · subst h1; simp at hlt
      rcases h2 with h2 | ⟨b2, off2, rfl, hb2, hcell2⟩
      · subst h2; simp at hlt
      have hc1 : wr.cell? ⟨b1, off1 + k, none⟩ = some (.int .i64 (l.getD k 0)) := (hBr.cell (p := ⟨b1, off1 + k, none⟩) hb1).trans (RdL.int hcell1 k hlt)
      have hc2 : wr.cell? ⟨b2, off2 + k, none⟩ = some (.int .i64 (l.getD k 0)) := (hBr.cell (p := ⟨b2, off2 + k, none⟩) hb2).trans (RdL.int hcell2 k hlt)
      have HB := hide hBr
      clear hcell1 hcell2 hBr
      have i1 : (k : Int) < (l.length : Int) := by omega
      generalize l.getD k 0 = x at *
      go_wp2
      go_quiet (fail)
      go_wp2
      go_roundw
      case rel => exact ⟨k + 1, by omega, by go_num, below_drewN HB.out _⟩
      case measure => simp [intOf]; omega
    · have e : k = l.length := by omega
      subst e
      go_wp2
      go_ret
      exact ⟨rfl, hBr⟩

/-- How many of the first k buckets someone was in. -/
def wasTo (t : List (List Int)) (i : Int) : Nat → Int
  | 0 => 0
  | k + 1 => wasTo t i k + (if i ∈ t.getD k [] then 1 else 0)
theorem wasTo_bd (t : List (List Int)) (i : Int) : ∀ k, 0 ≤ wasTo t i k ∧ wasTo t i k ≤ k
  | 0 => ⟨Int.le_refl _, Int.le_refl _⟩
  | k + 1 => by have := wasTo_bd t i k; unfold wasTo; split <;> omega
theorem moved_was {t u : List (List Int)} {i : Int} (n : Nat) (h : ∀ k, k < n → i ∉ t.getD k [] → t.getD k [] = u.getD k []) : ∀ k, k ≤ n → movedTo t u k ≤ wasTo t i k
  | 0, _ => Int.le_refl _
  | k + 1, hk => by
    have ih := moved_was n h k (by omega)
    unfold movedTo wasTo
    by_cases hm : i ∈ t.getD k []
    · rw [if_pos hm]; split <;> omega
    · rw [if_neg hm, if_pos (h k (by omega) hm)]; omega
theorem moved_self (t : List (List Int)) : ∀ k, movedTo t t k = 0
  | 0 => rfl
  | k + 1 => by unfold movedTo; rw [if_pos rfl, moved_self t k]; rfl

end Go.Proofs.Ytoeoiljddcjphaa

/- Whole numbers in rows, and the laws' own helpers over them, in the words of Fr. -/
namespace Go.Proofs.Ytoeoiljddcjphaa
open Go.ChangeShapes Go.WideShapes Go.ChangeAt Go.RowKit Go.Joins
set_option linter.unusedVariables false
set_option linter.unusedSimpArgs false

abbrev InI := InL layI 3
end Go.Proofs.Ytoeoiljddcjphaa

/- HuntPair, in the words of shapes. -/
namespace Go.Proofs.Ytoeoiljddcjphaa
open Go.ChangeShapes Go.WideShapes Go.ChangeAt Go.RowKit Go.Joins
set_option linter.unusedVariables false
set_option linter.unusedSimpArgs false

set_option maxRecDepth 100000 in
set_option maxHeartbeats 1000000 in
theorem implHunt_no (a b f s : Int) (o og : Option Addr) (len cap cg : Nat) (g : List (Int × Int)) (pl st : Int) (w : World) (hl : len ≤ maxLen) (hgl : g.length ≤ 1048576) (hG : RdG w og g) (hok : carrierOkB a b f s len g pl st = false) :
    Calls Try.prog 10 #[crr a b f s (.slice o len cap) (.slice og g.length cg) pl st] w fun e w' => e = .returned (.slice none 0 0) ∧ Below w.heap.size w w' := by
  have hb0 : Below w.heap.size w (w.alloc (.cells #[.int .i64 a, .int .i64 b, .int .i64 f, .int .i64 s, .slice o len cap, .slice og g.length cg, .int .i64 pl, .int .i64 st] 29)) := (Below.refl _ _).alloc (Nat.le_refl _) _
  have hc := implCarrierOk_any a b f s o og len cap cg g pl st (w.alloc (.cells #[.int .i64 a, .int .i64 b, .int .i64 f, .int .i64 s, .slice o len cap, .slice og g.length cg, .int .i64 pl, .int .i64 st] 29)) hl (by unfold maxLen; omega) (hG.kept hb0)
  rw [hok] at hc
  have Hb := hide hb0
  clear hb0
  go_enter Try.func10, Try.ntmps10
  go_wp2_with fail
  generalize (w.alloc (.cells #[.int .i64 a, .int .i64 b, .int .i64 f, .int .i64 s, .slice o len cap, .slice og g.length cg, .int .i64 pl, .int .i64 st] 29)) = w0 at *
  refine hc.mono ?_
  rintro e w1 ⟨rfl, hb1⟩
  have HB := hide (Hb.out.trans (hb1.mono Hb.out.size))
  clear hb1 hc Hb
  go_wp2
  go_ret
  exact ⟨rfl, HB.out⟩
theorem huntM_fit {m : Cm} (hf : fitCm m) : (huntM m).length ≤ 1048576 := by
  have h := hf.1
  unfold huntM
  split
  · exact Nat.le_trans (huntTo_len _ _) (by omega)
  · decide
theorem implHunt_sh (v : Value) (m : Cm) (w : World) (hR : RdCm w.heap.size w v m) (hc : capCm v) (hf : fitCm m) :
    Calls Try.prog 10 #[v] w fun e w' => ∃ v', e = .returned v' ∧ InI w.heap.size w'.heap.size w' v' (huntM m) ∧ Below w.heap.size w w' := by
  obtain ⟨vl, vg, rfl, ⟨o, c, rfl, r⟩, ⟨og, cg, rfl, rg⟩⟩ := hR
  have h1 := hf.1
  have hG := RdG_rd.1 rg
  cases hok : m.ok with
  | false =>
    refine (implHunt_no m.a m.b m.f m.s o og m.l.length c cg m.g m.pl m.st w (by unfold maxLen; omega) (by omega) hG hok).mono ?_
    rintro e w' ⟨rfl, hb⟩
    refine ⟨_, rfl, ?_, hb⟩
    unfold huntM
    rw [hok]
    exact ⟨World.ownsRow_nil _ _ _ _, fun b e => by cases e⟩
  | true =>
    rcases hG with hG | ⟨bb, off, rfl, hbb, hcell⟩
    · have := carrierOkB_head hok
      rw [hG] at this
      simp at this
    · refine (implHunt_any m.a m.b m.f m.s o m.l.length c bb off cg m.g m.pl m.st w (by unfold maxLen; omega) (by omega) hbb hcell hok).mono ?_
      rintro e w' ⟨v, rfl, ho, hb⟩
      refine ⟨v, rfl, ?_, hb⟩
      unfold huntM
      rw [hok]
      exact InRow.of ho

end Go.Proofs.Ytoeoiljddcjphaa

