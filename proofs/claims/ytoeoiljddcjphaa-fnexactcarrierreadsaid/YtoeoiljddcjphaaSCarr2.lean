/- The program's CarrierOk. -/
import Derived.Test.YtoeoiljddcjphaaSRoute
namespace Go.Proofs.Ytoeoiljddcjphaa
open Go.ChangeShapes Go.WideShapes Go.ChangeAt Go.RowKit Go.Joins
set_option linter.unusedVariables false
set_option linter.unusedSimpArgs false

def stepS (o : Option Bool) (p : Int × Int) : Option Bool := stepG o (p, false)
def finish (op : Bool) : Option Bool → Bool
  | none => false
  | some h => !h || op
theorem runG_map : ∀ (l : List Stop) (o : Option Bool), l.foldl stepG o = (l.map (·.1)).foldl stepS o
  | [], o => rfl
  | x :: l, o => by simp only [List.foldl_cons, List.map_cons]; rw [runG_map l]; cases o <;> rfl
theorem upto_fst (g : List (Int × Int)) (pl : Int) : (upto (stopAt g pl) g.length).map (·.1) = g := by
  apply List.ext_getElem
  · simp [upto]
  · intro i h1 h2
    simp [upto, stopAt, h2]
theorem foldS_none (l : List (Int × Int)) : l.foldl stepS none = none := by induction l with
  | nil => rfl
  | cons x l ih => exact ih
theorem segOk_two {x y : Int} (h : segOkB x y = true) : y = 0 ∨ y = 1 := by have := segOkB_iff.1 h; omega
theorem foldS_hunts : ∀ l : List (Int × Int), finish false (l.foldl stepS (some true)) = false
  | [] => rfl
  | (x, y) :: l => by
    rw [List.foldl_cons]
    cases hs : segOkB x y with
    | false => simp [stepS, stepG, hs, foldS_none, finish]
    | true =>
      rcases segOk_two hs with h | h
      · subst h; simp [stepS, stepG, foldS_none, finish]
      · subst h
        have : stepS (some true) (x, 1) = some true := by simp [stepS, stepG, hs]
        rw [this]
        exact foldS_hunts l
theorem route_fold (op : Bool) : ∀ (l : List (Int × Int)) (h : Bool), (h = true → op = true) → routeR op (if h then 1 else 0) l = finish op (l.foldl stepS (some h))
  | [], h, hh => by cases h <;> cases op <;> simp_all [routeR, finish]
  | (x, y) :: l, h, hh => by
    rw [List.foldl_cons]
    cases hs : segOkB x y with
    | false => simp [routeR, stepS, stepG, hs, foldS_none, finish]
    | true =>
      rcases segOk_two hs with hy | hy
      · subst hy
        cases h with
        | true => simp [routeR, stepS, stepG, foldS_none, finish]
        | false =>
          have e : stepS (some false) (x, 0) = some false := by simp [stepS, stepG, hs]
          rw [e, ← route_fold op l false (fun h => by cases h)]
          simp [routeR, hs]
      · subst hy
        have e : stepS (some h) (x, 1) = some true := by simp [stepS, stepG, hs]
        rw [e]
        cases op with
        | false => rw [foldS_hunts]; simp [routeR]
        | true =>
          rw [← route_fold true l true (fun _ => rfl)]
          cases h <;> simp [routeR, hs]
theorem routeW_eq (op : Bool) (g : List (Int × Int)) (pl : Int) : routeW op g pl = routeR op 0 g := by
  have h := route_fold op g false (fun h => by cases h)
  rw [show (if false = true then (1 : Int) else 0) = 0 from rfl] at h
  rw [h]
  unfold routeW runG
  rw [runG_map, upto_fst]
  cases g.foldl stepS (some false) <;> rfl
theorem opensB_op {a b f s : Int} {n : Nat} (h : packetOkB a b f s n = true) : opensB a b f s n = opens3 f := (opensB_yes h).symm

set_option maxHeartbeats 400000 in
theorem isStamp_any (n : Int) (w : World) : Calls Try.prog 63 #[.int .i64 n] w fun e w' => e = .returned (.bool (decide (0 ≤ n) && decide (n ≤ 100000))) ∧ w = w' := by
  go_enter Try.func63, Try.ntmps63
  go_wp2
  all_goals go_ret
  all_goals refine ⟨?_, rfl⟩
  all_goals first | (simp [*]; done) | (simp; omega)

set_option maxRecDepth 100000 in
set_option maxHeartbeats 1000000 in
theorem implCarrierOk_any (a b f s : Int) (o og : Option Addr) (len cap cg : Nat) (g : List (Int × Int)) (pl st : Int) (w : World) (hl : len ≤ maxLen) (hgl : g.length ≤ maxLen) (hG : RdG w og g) :
    Calls Try.prog 33 #[crr a b f s (.slice o len cap) (.slice og g.length cg) pl st] w fun e w' => e = .returned (.bool (carrierOkB a b f s len g pl st)) ∧ Below w.heap.size w w' := by
  have hgl' := hgl
  unfold maxLen at hgl'
  have hp := fun w => implPacketOk_any a b f s o len cap w hl
  have bx := boxC_new w a b f s (.slice o len cap) (.slice og g.length cg) pl st 29
  have hz : w.heap.size < (w.alloc (.cells #[.int .i64 a, .int .i64 b, .int .i64 f, .int .i64 s, .slice o len cap, .slice og g.length cg, .int .i64 pl, .int .i64 st] 29)).heap.size := by simp
  have hb0 : Below w.heap.size w (w.alloc (.cells #[.int .i64 a, .int .i64 b, .int .i64 f, .int .i64 s, .slice o len cap, .slice og g.length cg, .int .i64 pl, .int .i64 st] 29)) := (Below.refl _ _).alloc (Nat.le_refl _) _
  by_cases h1 : packetOkB a b f s len = true
  · rw [h1] at hp
    by_cases hst : 0 ≤ st ∧ st ≤ 100000
    · have hst' : (decide (0 ≤ st) && decide (st ≤ 100000)) = true := by simp [hst]
      have hs := fun w => hst' ▸ isStamp_any st w
      by_cases h3 : (g.length : Int) ≤ 24
      · by_cases h4 : 0 ≤ pl
        · by_cases h5 : pl < (g.length : Int)
          · have HY := hide (carrierOkB_yes (headB_iff.2 ⟨h1, show 1 ≤ (g.length : Int) by omega, h3, h4, h5, hst.1, hst.2, trivial⟩))
            rcases hG with hG | ⟨bb, off, rfl, hbb, hcell⟩
            · subst hG; simp at h5; omega
            have hn3 : ¬ (24 < (g.length : Int)) := by omega
            have hn5 : ¬ ((g.length : Int) ≤ pl) := by omega
            go_enter Try.func33, Try.ntmps33
            go_wp2_with fail
            generalize (w.alloc (.cells #[.int .i64 a, .int .i64 b, .int .i64 f, .int .i64 s, .slice o len cap, .slice (some ⟨bb, off, none⟩) g.length cg, .int .i64 pl, .int .i64 st] 29)) = w0 at *
            refine (hp _).mono ?_
            rintro e w1 ⟨rfl, hb1⟩
            have bx1 := bx.kept hb1 hz
            have HB1 := hide (hb0.trans (hb1.mono (Nat.le_of_lt hz)))
            clear hb0 hb1 hp hz bx
            obtain ⟨x0, x1, x2, x3, x4, x5, x6, x7⟩ := bx1
            go_wp2_with (go_at_call 63; refine (hs _).mono ?_; rintro e w2 ⟨rfl, rfl⟩)
            refine (routeOk_any a b f s o len cap bb off cg g pl st w1 hl (by omega) (Nat.lt_of_lt_of_le hbb HB1.out.size) (fun i hi => ⟨(HB1.out.cell (p := ⟨bb, off + i * 2, none⟩) hbb).trans (hcell i hi).1, (HB1.out.cell (p := ⟨bb, off + i * 2 + 1, none⟩) hbb).trans (hcell i hi).2⟩)).mono ?_
            rw [opensB_op h1, routeW_eq]
            rintro e w3 ⟨rfl, hb3⟩
            clear hcell x0 x1 x2 x3 x4 x5 x6 x7
            go_wp2
            go_ret
            exact ⟨ret_bool HY.out, HB1.out.trans (hb3.mono HB1.out.size)⟩
          · have HN := hide (carrierOkB_no (a := a) (b := b) (f := f) (s := s) (n := len) (g := g) (pl := pl) (st := st) (fun q => h5 q.2.2.2.2.1))
            have hn3 : ¬ (24 < (g.length : Int)) := by omega
            go_enter Try.func33, Try.ntmps33
            go_wp2_with fail
            generalize (w.alloc (.cells #[.int .i64 a, .int .i64 b, .int .i64 f, .int .i64 s, .slice o len cap, .slice og g.length cg, .int .i64 pl, .int .i64 st] 29)) = w0 at *
            refine (hp _).mono ?_
            rintro e w1 ⟨rfl, hb1⟩
            have bx1 := bx.kept hb1 hz
            have HB1 := hide (hb0.trans (hb1.mono (Nat.le_of_lt hz)))
            clear hb0 hb1 hp hz bx hG
            obtain ⟨x0, x1, x2, x3, x4, x5, x6, x7⟩ := bx1
            go_wp2_with (go_at_call 63; refine (hs _).mono ?_; rintro e w2 ⟨rfl, rfl⟩)
            go_ret
            exact ⟨ret_bool HN.out, HB1.out⟩
        · have HN := hide (carrierOkB_no (a := a) (b := b) (f := f) (s := s) (n := len) (g := g) (pl := pl) (st := st) (fun q => h4 q.2.2.2.1))
          have hn3 : ¬ (24 < (g.length : Int)) := by omega
          go_enter Try.func33, Try.ntmps33
          go_wp2_with fail
          generalize (w.alloc (.cells #[.int .i64 a, .int .i64 b, .int .i64 f, .int .i64 s, .slice o len cap, .slice og g.length cg, .int .i64 pl, .int .i64 st] 29)) = w0 at *
          refine (hp _).mono ?_
          rintro e w1 ⟨rfl, hb1⟩
          have bx1 := bx.kept hb1 hz
          have HB1 := hide (hb0.trans (hb1.mono (Nat.le_of_lt hz)))
          clear hb0 hb1 hp hz bx hG
          obtain ⟨x0, x1, x2, x3, x4, x5, x6, x7⟩ := bx1
          go_wp2_with (go_at_call 63; refine (hs _).mono ?_; rintro e w2 ⟨rfl, rfl⟩)
          go_ret
          exact ⟨ret_bool HN.out, HB1.out⟩
      · have HN := hide (carrierOkB_no (a := a) (b := b) (f := f) (s := s) (n := len) (g := g) (pl := pl) (st := st) (fun q => h3 q.2.2.1))
        have hn3 : (24 < (g.length : Int)) := by omega
        go_enter Try.func33, Try.ntmps33
        go_wp2_with fail
        generalize (w.alloc (.cells #[.int .i64 a, .int .i64 b, .int .i64 f, .int .i64 s, .slice o len cap, .slice og g.length cg, .int .i64 pl, .int .i64 st] 29)) = w0 at *
        refine (hp _).mono ?_
        rintro e w1 ⟨rfl, hb1⟩
        have bx1 := bx.kept hb1 hz
        have HB1 := hide (hb0.trans (hb1.mono (Nat.le_of_lt hz)))
        clear hb0 hb1 hp hz bx hG
        obtain ⟨x0, x1, x2, x3, x4, x5, x6, x7⟩ := bx1
        go_wp2_with (go_at_call 63; refine (hs _).mono ?_; rintro e w2 ⟨rfl, rfl⟩)
        go_ret
        exact ⟨ret_bool HN.out, HB1.out⟩
    · have hst' : (decide (0 ≤ st) && decide (st ≤ 100000)) = false := by simpa using hst
      have hs := fun w => hst' ▸ isStamp_any st w
      have HN := hide (carrierOkB_no (a := a) (b := b) (f := f) (s := s) (n := len) (g := g) (pl := pl) (st := st) (fun q => hst ⟨q.2.2.2.2.2.1, q.2.2.2.2.2.2.1⟩))
      go_enter Try.func33, Try.ntmps33
      go_wp2_with fail
      generalize (w.alloc (.cells #[.int .i64 a, .int .i64 b, .int .i64 f, .int .i64 s, .slice o len cap, .slice og g.length cg, .int .i64 pl, .int .i64 st] 29)) = w0 at *
      refine (hp _).mono ?_
      rintro e w1 ⟨rfl, hb1⟩
      have bx1 := bx.kept hb1 hz
      have HB1 := hide (hb0.trans (hb1.mono (Nat.le_of_lt hz)))
      clear hb0 hb1 hp hz bx hG
      obtain ⟨x0, x1, x2, x3, x4, x5, x6, x7⟩ := bx1
      go_wp2_with (go_at_call 63; refine (hs _).mono ?_; rintro e w2 ⟨rfl, rfl⟩)
      go_ret
      exact ⟨ret_bool HN.out, HB1.out⟩
  · rw [Bool.eq_false_iff.2 h1] at hp
    have HN := hide (carrierOkB_no (a := a) (b := b) (f := f) (s := s) (n := len) (g := g) (pl := pl) (st := st) (fun q => h1 q.1))
    go_enter Try.func33, Try.ntmps33
    go_wp2_with fail
    generalize (w.alloc (.cells #[.int .i64 a, .int .i64 b, .int .i64 f, .int .i64 s, .slice o len cap, .slice og g.length cg, .int .i64 pl, .int .i64 st] 29)) = w0 at *
    refine (hp _).mono ?_
    rintro e w1 ⟨rfl, hb1⟩
    have HB1 := hide (hb0.trans (hb1.mono (Nat.le_of_lt hz)))
    clear hb0 hb1 hp hz bx hG
    go_wp2
    go_ret
    exact ⟨ret_bool HN.out, HB1.out⟩

end Go.Proofs.Ytoeoiljddcjphaa
