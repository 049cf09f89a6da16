/- Several texts in one: App, SNext, SNext2, SNext3, LMarkP, LMarkG, ShC, ShN, SAg, SAg2, SPut, SAg3, SPut2, DropMath. -/
import Derived.Test.YtmkgbmmibjgeaaaGreatGrBytes
import Derived.Laws.AppendOwnNone
import Derived.Maps.AppendAt
import Derived.Test.YtmkgbmmibjgeaaaGreatGrSHere
import Derived.Test.YtmkgbmmibjgeaaaGreatGrSegL
import Derived.Test.YtmkgbmmibjgeaaaGreatGrLCarr
import Derived.Test.YtmkgbmmibjgeaaaGreatGrBits
import Derived.Test.YtmkgbmmibjgeaaaGreatGrLSeg
import Derived.Test.YtmkgbmmibjgeaaaGreatGrShT
import Derived.Test.YtmkgbmmibjgeaaaGreatGrShA
import Derived.Test.YtmkgbmmibjgeaaaGreatGrSTabS3
/- 'append' of bytes onto a row of the call's own, whatever is appended: nil, empty, or read from memory. -/
namespace Go.Proofs.YtmkgbmmibjgeaaaGreat
open Go.ChangeShapes Go.WideShapes Go.ChangeAt Go.RowKit Go.Joins
set_option linter.unusedVariables false
set_option linter.unusedSimpArgs false

theorem wpList_append_bytes {w : World} {ops : Array Oper} {rest : List Oper} {o : Oper} {a : Act} {Q : Exit → Act → World → Prop} (hgd : o.guard = none) (s x : Operand)
    (ho : o.op = .call { callee := .builtin .append, args := #[s, x], argTypes := #[29, 29] }) (base : Nat) (v : Value) (l0 : List Int) (hs : a.eval s = v) (hown : ownB w base v l0)
    (ob : Option Addr) (c : Nat) (l : List Int) (hx : a.eval x = .slice ob l.length c) (hnil : ob = none → c = 0) (hR : Rd w ob l) (hlen : l0.length + l.length ≤ 1099511627776) (hbase : base ≤ w.heap.size)
    (h : ∀ v' w', ownB w' base v' (l0 ++ l) → w.grownBy w' v.ownBlock → Below base w w' → wpList Tryz.prog ops Q rest (a.put o.dst v') w') : wpList Tryz.prog ops Q (o :: rest) a w := by
  obtain ⟨i0, hi, hz0, hz1, hz2⟩ := info_parts infoU8
  have hb : ∀ w', w.grownBy w' v.ownBlock → Below base w w' := fun w' hg => (Below.refl _ _).grown hg hbase (fun k e => (hown.lt k e).1)
  cases ob with
  | none =>
    have e := hR.nil
    subst e
    have hc := hnil rfl
    subst hc
    refine wpList_append_own_none hgd s x 29 ho base 5 i0 1 Tryz.underlying29 hi v _ _ hs hown hx ?_
    exact h v w (by simpa using hown) (World.grownBy.refl _ _) (Below.refl _ _)
  | some ad =>
    refine wpList_append_own _ hgd s x 29 ho base 5 i0 (.int .u8 0) 1 1 Tryz.underlying29 hi hz0 hz1 hz2 rfl (by decide) v _ _ hs hown ad l.length c (l.map (Value.int .u8)) hx (by simp) hR.news (ints_oneCell .u8 l) (by unfold maxLen; omega) (by omega) hbase ?_
    intro v' w' h1 h2 _
    exact h v' w' (by unfold ownB; simpa using h1) h2 (hb _ h2)

theorem wpList_append_bytes_m {w : World} {ops : Array Oper} {rest : List Oper} {o : Oper} {a : Act} {Q : Exit → Act → World → Prop} (hgd : o.guard = none) (s x : Operand)
    (ho : o.op = .call { callee := .builtin .append, args := #[s, x], argTypes := #[29, 29] }) (base : Nat) (v : Value) (l0 : List Int) (hs : a.eval s = v) (hown : ownB w base v l0)
    (ob : Option Addr) (c : Nat) (l : List Int) (m : Nat) (hm : m = l.length) (hx : a.eval x = .slice ob m c) (hnil : ob = none → c = 0) (hR : Rd w ob l) (hlen : l0.length + l.length ≤ 1099511627776) (hbase : base ≤ w.heap.size)
    (h : ∀ v' w', ownB w' base v' (l0 ++ l) → w.grownBy w' v.ownBlock → Below base w w' → wpList Tryz.prog ops Q rest (a.put o.dst v') w') : wpList Tryz.prog ops Q (o :: rest) a w := by
  subst hm
  exact wpList_append_bytes hgd s x ho base v l0 hs hown ob c l hx hnil hR hlen hbase h

/-- The same, as one step of a region that draws its order. -/
theorem step_append_bytes {ops : Array Oper} {o : Oper} {a : Act} {w : World} {K : Act → World → Prop} {Q : Exit → Act → World → Prop} {E : Prop} (hgd : o.guard = none) (s x : Operand)
    (ho : o.op = .call { callee := .builtin .append, args := #[s, x], argTypes := #[29, 29] }) (base : Nat) (v : Value) (l0 : List Int) (hs : a.eval s = v) (hown : ownB w base v l0)
    (ob : Option Addr) (c : Nat) (l : List Int) (m : Nat) (hm : m = l.length) (hx : a.eval x = .slice ob m c) (hnil : ob = none → c = 0) (hR : Rd w ob l) (hlen : l0.length + l.length ≤ 1099511627776) (hbase : base ≤ w.heap.size)
    (h : ∀ v' w', ownB w' base v' (l0 ++ l) → Below base w w' → K (a.put o.dst v') w') : if Region.wanted o (yielded ops a.tmps) = true then Oper.wp Tryz.prog o a w K Q else E := by
  subst hm
  have hw : Region.wanted o (yielded ops a.tmps) = true := by simp [Region.wanted, hgd]
  rw [if_pos hw]
  obtain ⟨i0, hi, hz0, hz1, hz2⟩ := info_parts infoU8
  have hb : ∀ w', w.grownBy w' v.ownBlock → Below base w w' := fun w' hg => (Below.refl _ _).grown hg hbase (fun k e => (hown.lt k e).1)
  cases ob with
  | none =>
    have e := hR.nil
    subst e
    have hc := hnil rfl
    subst hc
    have hrun := run_append_owned_none (P := Tryz.prog) (w := w) base 29 o.type 5 i0 1 Tryz.underlying29 hi v _ _ hown
    unfold Oper.wp
    simp [execOp, ho, resolve, invoke, builtin, hs, hx, hrun, Result.andThen]
    exact h v w (by simpa using hown) (Below.refl _ _)
  | some ad =>
    refine wp_append_own _ s x 29 ho base 5 i0 (.int .u8 0) 1 1 Tryz.underlying29 hi hz0 hz1 hz2 rfl (by decide) v _ _ hs hown ad l.length c (l.map (Value.int .u8)) hx (by simp) hR.news (ints_oneCell .u8 l) (by unfold maxLen; omega) (by omega) hbase ?_
    intro v' w' h1 h2 _
    exact h v' w' (by unfold ownB; simpa using h1) (hb _ h2)

end Go.Proofs.YtmkgbmmibjgeaaaGreat

/- Next on both sides: a packet's and a carrier's copy that owns its memory. -/
namespace Go.Proofs.YtmkgbmmibjgeaaaGreat
open Go.ChangeShapes Go.WideShapes Go.ChangeAt Go.RowKit Go.Joins
set_option linter.unusedVariables false
set_option linter.unusedSimpArgs false

end Go.Proofs.YtmkgbmmibjgeaaaGreat

/- A carrier's copy that owns its memory, on both sides. -/
namespace Go.Proofs.YtmkgbmmibjgeaaaGreat
open Go.ChangeShapes Go.WideShapes Go.ChangeAt Go.RowKit Go.Joins
set_option linter.unusedVariables false
set_option linter.unusedSimpArgs false

/-- A box behind a store of one of its cells; another box. -/
theorem box_set (w : World) (k j : Nat) (cs : Array Value) (t : TypeId) (v : Value) (h : w.heap[k]? = some (.cells cs t (0, 0))) : (w.setCell ⟨k, j, none⟩ v).heap[k]? = some (.cells (cs.setIfInBounds j v) t (0, 0)) := by
  simp [World.setCell, Array.getElem?_modify, h]
theorem box_far (w : World) (k q j : Nat) (v : Value) (h : k ≠ q) : (w.setCell ⟨q, j, none⟩ v).heap[k]? = w.heap[k]? := Below.heap_setCell w ⟨q, j, none⟩ v k h

end Go.Proofs.YtmkgbmmibjgeaaaGreat

/- Next on both sides. -/
namespace Go.Proofs.YtmkgbmmibjgeaaaGreat
open Go.ChangeShapes Go.WideShapes Go.ChangeAt Go.RowKit Go.Joins
set_option linter.unusedVariables false
set_option linter.unusedSimpArgs false

/-- What is carried, as the model has it. -/
structure Cm where
  a : Int
  b : Int
  f : Int
  s : Int
  l : List Int
  g : List (Int × Int)
  pl : Int
  st : Int
def Cm.zero : Cm := ⟨0, 0, 0, 0, [], [], 0, 0⟩
def Cm.ok (c : Cm) : Bool := carrierOkB c.a c.b c.f c.s c.l.length c.g c.pl c.st
/-- The next one, and whether there is one. -/
def nextM (c : Cm) : Cm × Bool := if c.ok then (if c.pl = (c.g.length : Int) - 1 then (c, false) else ({ c with pl := c.pl + 1 }, true)) else (Cm.zero, false)
/-- A carrier that a call hands out, of its own memory. -/
def ownCm (w : World) (base : Nat) (v : Value) (m : Cm) : Prop := ∃ vl vg, v = crr m.a m.b m.f m.s vl vg m.pl m.st ∧ ownB w base vl m.l ∧ ownG w base vg m.g
/-- A row of the call's own behind a store into another block. -/
theorem own_set {w : World} {base : Nat} {e : TypeId} {size : Nat} {v : Value} {n : Nat} {xs : List Value} (h : w.ownsRow base e size v n xs) (q j : Nat) (u : Value) (hq : ∀ b, v.ownBlock = some b → b ≠ q) : (w.setCell ⟨q, j, none⟩ u).ownsRow base e size v n xs := by
  refine World.ownsRow.kept h (w' := w.setCell ⟨q, j, none⟩ u) (row := some q) ⟨rfl, rfl, rfl, by simp [World.setCell], fun k hk hne => Below.heap_setCell w ⟨q, j, none⟩ u k (fun e => hne (by rw [e]))⟩ ?_
  cases hob : v.ownBlock with
  | none => exact .inl rfl
  | some b => right; intro e'; injection e' with e'; exact hq b hob e'

end Go.Proofs.YtmkgbmmibjgeaaaGreat

/- The laws' marks in a packet. -/
namespace Go.Proofs.YtmkgbmmibjgeaaaGreat
open Go.ChangeShapes Go.WideShapes Go.ChangeAt Go.RowKit Go.Joins
set_option linter.unusedVariables false
set_option linter.unusedSimpArgs false

set_option maxHeartbeats 1000000 in
theorem markPacket_any (base : Nat) (a b f s : Int) (v : Value) (l : List Int) (k : Int) (w : World) (hv : ownB w base v l) (h0 : 0 ≤ k) (h1 : k ≤ 1073741824) (hlen : l.length ≤ 1048576) :
    Calls Tryz.prog 35 #[pkt a b f s v, .int .i64 k] w fun e w' => e = .returned (.int .i64 (k + l.length)) ∧ ownB w' base v (markL k l.length) ∧ w.grownBy w' v.ownBlock := by
  have hv1 := fun o => World.ownsRow.alloc hv o
  have HA := hide (fun o => World.grownBy_alloc w o v.ownBlock)
  have HV := hide hv1
  clear hv1 hv
  go_enter Tryz.func35, Tryz.ntmps35
  go_wp2_with fail
  refine (markByteS_any base v l k _ (HV.out _) h0 h1 hlen).mono ?_
  rintro e w1 ⟨rfl, hown, hgr⟩
  have HO := hide hown
  have HG := hide ((HA.out _).trans hgr)
  clear hown hgr HV HA
  go_wp2
  go_ret
  exact ⟨rfl, HO.out, HG.out⟩

end Go.Proofs.YtmkgbmmibjgeaaaGreat

/- The laws' marks in a row of impl.Seg. -/
namespace Go.Proofs.YtmkgbmmibjgeaaaGreat
open Go.ChangeShapes Go.WideShapes Go.ChangeAt Go.RowKit Go.Joins
set_option linter.unusedVariables false
set_option linter.unusedSimpArgs false

def mkSeg (k : Int) := ((k, k + 1) : _)

set_option maxHeartbeats 2000000 in
theorem markSegS_any (base : Nat) (v : Value) (l : List _) (k : Int) (w : World) (hv : ownL layG 93 w base v l) (h0 : 0 ≤ k) (h1 : k ≤ 1073741824) (hlen : l.length ≤ 1048576) :
    Calls Tryz.prog 36 #[v, .int .i64 k] w fun e w' => e = .returned (.int .i64 (k + 2 * l.length)) ∧ ownL layG 93 w' base v (mkL mkSeg 2 k l.length) ∧ w.grownBy w' v.ownBlock := by
  rcases hv.2 with ⟨rfl, h2⟩ | ⟨g, cap, cur, rfl, hg, _⟩
  · have e : l = [] := List.eq_nil_of_length_eq_zero h2
    subst e
    go_enter Tryz.func36, Tryz.ntmps36
    go_wp2
    refine wp_loop_rounds 1 ?_
    rw [rounds_succ]
    go_wp2
    go_ret
    exact ⟨by simp, by simpa [mkL] using hv, World.grownBy.refl _ _⟩
  · have hv0 : w.ownsRow base 93 2 (.slice (some ⟨g, 0, none⟩) l.length cap) l.length ((mkTo mkSeg 2 l k 0).flatMap layG.cs) := by rw [mkTo_zero]; exact hv
    go_enter Tryz.func36, Tryz.ntmps36
    go_wp2
    go_loopw [1, 5] (fun q j wr => ∃ i : Nat, i ≤ l.length ∧ j = .int .i64 i ∧ q = .int .i64 (k + 2 * (i : Int)) ∧ wr.ownsRow base 93 2 (.slice (some ⟨g, 0, none⟩) l.length cap) l.length ((mkTo mkSeg 2 l k i).flatMap layG.cs) ∧ w.grownBy wr (some g))
      (fun _ j _ => l.length - (intOf j).toNat)
    case atStart => exact ⟨0, Nat.zero_le _, rfl, by simp, hv0, World.grownBy.refl _ _⟩
    case round =>
      obtain ⟨i, hi, rfl, rfl, hown, hgr⟩ := hrel
      by_cases hlt : i < l.length
      · have hxl : ((mkTo mkSeg 2 l k i).flatMap layG.cs).length = l.length * 2 := by rw [flat_length, mkTo_length _ _ _ _ _ hi]; rfl
        have E := flat_set2 layG rfl (a := mkSeg (k + 2 * (i : Int))) rfl (mkTo mkSeg 2 l k i) i
        have E2 := mkTo_set mkSeg 2 l k i hlt
        generalize hxs : (mkTo mkSeg 2 l k i).flatMap layG.cs = xs at *
        have s1 := grown_set1 (j := i * 2) (u := .int .i64 (k + 2 * (i : Int))) hown hgr
        have s2 := grown_set1 (j := i * 2 + 1) (u := .int .i64 (k + 2 * (i : Int) + 1)) s1.1 s1.2
        have f0 := hown.frozenAt (i * 2)
        obtain ⟨q0, hq0⟩ : ∃ z, wr.cell? ⟨g, i * 2, none⟩ = some z := ⟨_, (hown.cellAt (i * 2) (by omega)).trans (List.getElem?_eq_getElem (by (try simp) <;> omega))⟩
        have f1 := s1.1.frozenAt (i * 2 + 1)
        obtain ⟨q1, hq1⟩ : ∃ z, (wr.setCell ⟨g, i * 2, none⟩ (.int .i64 (k + 2 * (i : Int)))).cell? ⟨g, i * 2 + 1, none⟩ = some z := ⟨_, (s1.1.cellAt (i * 2 + 1) (by omega)).trans (List.getElem?_eq_getElem (by (try simp) <;> omega))⟩
        have S := hide s2
        have HE := hide (E.trans (congrArg (fun z => List.flatMap layG.cs z) E2))
        have z1 : (i : Int) < (l.length : Int) := by omega
        clear s1 s2 hown hgr hv hv0 E E2 hxl
        go_wp2
        go_roundw
        case rel =>
          refine ⟨i + 1, by omega, by go_num, by go_num, ?_, S.out.2⟩
          have h := S.out.1
          rw [← HE.out]
          exact h
        case measure => simp [intOf]; omega
      · have e : i = l.length := by omega
        subst e
        rw [mkTo_all] at hown
        have HO := hide hown
        clear hown
        go_wp2
        go_ret
        exact ⟨rfl, (by have := HO.out; unfold ownL; rw [mkL_length]; exact this), hgr⟩

end Go.Proofs.YtmkgbmmibjgeaaaGreat

/- What is carried, as a shape: how it reads, what owns its memory, and the laws' own helpers over it. -/
namespace Go.Proofs.YtmkgbmmibjgeaaaGreat
open Go.ChangeShapes Go.WideShapes Go.ChangeAt Go.RowKit Go.Joins
set_option linter.unusedVariables false
set_option linter.unusedSimpArgs false

abbrev InG := InL layG 93
theorem InG.of {w : World} {base : Nat} {v : Value} {l : List (Int × Int)} (h : ownG w base v l) : InG base w.heap.size w v l := InRow.of (ownG_lay.1 h)
theorem RdG_rd {w : World} {o : Option Addr} {l : List (Int × Int)} : RdL layG w.heap.size w o l ↔ RdG w o l := by
  constructor
  · rintro (h | ⟨b, off, ho, hb, r⟩)
    · exact .inl h
    · exact .inr ⟨b, off, ho, hb, fun i hi => ⟨r i hi 0 (by decide), r i hi 1 (by decide)⟩⟩
  · exact RdG.lay
def RdCm (C : Nat) (w : World) (v : Value) (m : Cm) : Prop := ∃ vl vg, v = crr m.a m.b m.f m.s vl vg m.pl m.st ∧ RdV layB C w vl m.l ∧ RdV layG C w vg m.g
def InCm (lo hi : Nat) (w : World) (v : Value) (m : Cm) : Prop := ∃ vl vg, v = crr m.a m.b m.f m.s vl vg m.pl m.st ∧ InB lo hi w vl m.l ∧ InG lo hi w vg m.g
theorem RdCm.kept {C D : Nat} {w w' : World} {v : Value} {m : Cm} (h : RdCm C w v m) (hb : Below D w w') (hc : C ≤ D) : RdCm C w' v m := by
  obtain ⟨vl, vg, e, h1, h2⟩ := h
  exact ⟨vl, vg, e, h1.kept hb hc, h2.kept hb hc⟩
theorem RdCm.le {C D : Nat} {w : World} {v : Value} {m : Cm} (h : RdCm C w v m) (hc : C ≤ D) : RdCm D w v m := by
  obtain ⟨vl, vg, e, h1, h2⟩ := h
  exact ⟨vl, vg, e, h1.le hc, h2.le hc⟩
theorem InCm.rd {lo hi : Nat} {w : World} {v : Value} {m : Cm} (h : InCm lo hi w v m) : RdCm hi w v m := by
  obtain ⟨vl, vg, e, h1, h2⟩ := h
  exact ⟨vl, vg, e, h1.rd, h2.rd⟩
theorem InCm.step {a b lo hi : Nat} {w w' : World} {v : Value} {m : Cm} (h : InCm a b w v m) (s : Stp lo hi w w') (hd : hi ≤ a ∨ b ≤ lo) : InCm a b w' v m := by
  obtain ⟨vl, vg, e, h1, h2⟩ := h
  exact ⟨vl, vg, e, h1.step s hd, h2.step s hd⟩
theorem InCm.mono {lo hi lo' hi' : Nat} {w : World} {v : Value} {m : Cm} (h : InCm lo hi w v m) (h1 : lo' ≤ lo) (h2 : hi ≤ hi') : InCm lo' hi' w v m := by
  obtain ⟨vl, vg, e, q1, q2⟩ := h
  exact ⟨vl, vg, e, q1.mono h1 h2, q2.mono h1 h2⟩
theorem InCm.of {w : World} {base : Nat} {v : Value} {m : Cm} (h : ownCm w base v m) : InCm base w.heap.size w v m := by
  obtain ⟨vl, vg, e, h1, h2⟩ := h
  exact ⟨vl, vg, e, InB.of h1, InG.of h2⟩
/-- Its lists of nothing have no room. -/
def capCm (v : Value) : Prop := ∃ a b f s vl vg pl st, v = crr a b f s vl vg pl st ∧ capV vl ∧ capV vg
theorem InCm.cap {lo hi : Nat} {w : World} {v : Value} {m : Cm} (h : InCm lo hi w v m) : capCm v := by
  obtain ⟨vl, vg, e, h1, h2⟩ := h
  exact ⟨_, _, _, _, vl, vg, _, _, e, InRow.cap h1, InRow.cap h2⟩
theorem capCm.two {a b f s : Int} {o og : Option Addr} {n c ng cg : Nat} {pl st : Int} (h : capCm (crr a b f s (.slice o n c) (.slice og ng cg) pl st)) : (o = none → c = 0) ∧ (og = none → cg = 0) := by
  obtain ⟨a', b', f', s', vl, vg, pl', st', e, h1, h2⟩ := h
  injection e with e
  simp at e
  obtain ⟨_, _, _, _, e5, e6, _, _⟩ := e
  exact ⟨fun h => h1 n c (by rw [← e5, h]), fun h => h2 ng cg (by rw [← e6, h])⟩
/-- It is not too great, and its bytes are bytes. -/
def fitCm (m : Cm) : Prop := m.l.length + m.g.length ≤ 1048576 ∧ isB m.l

theorem szCarrier_sh (v : Value) (m : Cm) (C : Nat) (w : World) (hR : RdCm C w v m) (hl : m.l.length ≤ maxLen) (hg : m.g.length ≤ maxLen) :
    Calls Tryz.prog 5 #[v, .int .i64 1048576] w fun e w' => (∃ n : Int, e = .returned (.int .i64 n) ∧ (m.l.length + m.g.length ≤ 1048576 → 0 ≤ n) ∧ (¬ m.l.length + m.g.length ≤ 1048576 → n < 0) ∧ -1 ≤ n ∧ n ≤ 1048576) ∧ Below w.heap.size w w' := by
  obtain ⟨vl, vg, rfl, ⟨o, c, rfl, _⟩, ⟨og, cg, rfl, _⟩⟩ := hR
  refine (szCarrier_any m.a m.b m.f m.s o og m.l.length c m.g.length cg m.pl m.st 1048576 w hl hg (by decide) (by decide)).mono ?_
  rintro e w' ⟨rfl, hb⟩
  refine ⟨⟨_, rfl, ?_, ?_, ?_, ?_⟩, hb⟩
  · intro h; split <;> omega
  · intro h; split <;> omega
  · split <;> omega
  · split <;> omega
theorem toCarrier_sh (v : Value) (m : Cm) (w : World) (hR : RdCm w.heap.size w v m) (hf : fitCm m) :
    Calls Tryz.prog 8 #[v] w fun e w' => ∃ v', e = .returned v' ∧ InCm w.heap.size w'.heap.size w' v' m ∧ Below w.heap.size w w' := by
  obtain ⟨vl, vg, rfl, ⟨o, c, rfl, r⟩, ⟨og, cg, rfl, rg⟩⟩ := hR
  have h1 := hf.1
  refine (toCarrier_any m.a m.b m.f m.s o og c cg m.l m.g m.pl m.st w (RdB_rd.1 r) hf.2 (by omega) (RdG_rd.1 rg) (by omega)).mono ?_
  rintro e w' ⟨k, kg, rfl, h1, h2, _, hb⟩
  exact ⟨_, rfl, ⟨_, _, rfl, InB.of h1, InG.of h2⟩, hb⟩
theorem eqCarrier_sh (v1 v2 : Value) (m : Cm) (w : World) (h1 : RdCm w.heap.size w v1 m) (h2 : RdCm w.heap.size w v2 m) (hl : m.l.length ≤ 1048576) (hg : m.g.length ≤ 1048576) :
    Calls Tryz.prog 11 #[v1, v2] w fun e w' => e = .returned (.bool true) ∧ Below w.heap.size w w' := by
  obtain ⟨vl, vg, rfl, ⟨o, c, rfl, r⟩, ⟨og, cg, rfl, rg⟩⟩ := h1
  obtain ⟨vl2, vg2, rfl, ⟨o2, c2, rfl, r2⟩, ⟨og2, cg2, rfl, rg2⟩⟩ := h2
  exact eqCarrier_same m.a m.b m.f m.s o o2 og og2 c c2 cg cg2 m.l m.g m.pl m.st w (RdB_rd.1 r) (RdB_rd.1 r2) hl (RdG_rd.1 rg) (RdG_rd.1 rg2) hg

/-- The marks of a carrier. -/
def mkCm (k : Int) (m : Cm) : Cm := { m with l := markL k m.l.length, g := mkL mkSeg 2 (k + m.l.length) m.g.length }
theorem u8Seg : (5 : TypeId) ≠ 93 := by decide

set_option maxHeartbeats 1000000 in
theorem markCarrier_sh (lo hi : Nat) (v : Value) (m : Cm) (k : Int) (w : World) (hv : InCm lo hi w v m) (h0 : 0 ≤ k) (h1 : k ≤ 10000000) (hl : m.l.length ≤ 1048576) (hg : m.g.length ≤ 1048576) :
    Calls Tryz.prog 13 #[v, .int .i64 k] w fun e w' => e = .returned (.int .i64 (k + m.l.length + 2 * m.g.length)) ∧ InCm lo hi w' v (mkCm k m) ∧ Stp lo hi w w' := by
  obtain ⟨vl, vg, rfl, iv, ig⟩ := hv
  have sA : ∀ o : Obj, Stp lo hi w (w.alloc o) := fun o => Stp.of ((Below.refl _ _).alloc (Nat.le_refl _) o)
  have iv1 := fun o : Obj => (⟨World.ownsRow.alloc iv.1 o, iv.2⟩ : InB lo hi (w.alloc o) vl m.l)
  have ig1 := fun o : Obj => (⟨World.ownsRow.alloc ig.1 o, ig.2⟩ : InG lo hi (w.alloc o) vg m.g)
  obtain ⟨og, cg, hge, _⟩ := ig.rd
  obtain ⟨ol, cl, hle, _⟩ := iv.rd
  have HS := hide sA
  have HV := hide iv1
  have HG := hide ig1
  clear sA iv1 ig1
  have HIV := hide iv
  have HIG := hide ig
  clear iv ig
  subst hge hle
  go_enter Tryz.func13, Tryz.ntmps13
  go_wp2_with fail
  have s1 := HS.out (.cells #[.int .i64 m.a, .int .i64 m.b, .int .i64 m.f, .int .i64 m.s, .slice ol m.l.length cl, .slice og m.g.length cg, .int .i64 m.pl, .int .i64 m.st] 50)
  have i1 := HV.out (.cells #[.int .i64 m.a, .int .i64 m.b, .int .i64 m.f, .int .i64 m.s, .slice ol m.l.length cl, .slice og m.g.length cg, .int .i64 m.pl, .int .i64 m.st] 50)
  have g1 := HG.out (.cells #[.int .i64 m.a, .int .i64 m.b, .int .i64 m.f, .int .i64 m.s, .slice ol m.l.length cl, .slice og m.g.length cg, .int .i64 m.pl, .int .i64 m.st] 50)
  have bx := World.alloc_heap_new w (.cells #[.int .i64 m.a, .int .i64 m.b, .int .i64 m.f, .int .i64 m.s, .slice ol m.l.length cl, .slice og m.g.length cg, .int .i64 m.pl, .int .i64 m.st] 50)
  have hz : w.heap.size < (w.alloc (.cells #[.int .i64 m.a, .int .i64 m.b, .int .i64 m.f, .int .i64 m.s, .slice ol m.l.length cl, .slice og m.g.length cg, .int .i64 m.pl, .int .i64 m.st] 50)).heap.size := by simp
  generalize w.alloc (.cells #[.int .i64 m.a, .int .i64 m.b, .int .i64 m.f, .int .i64 m.s, .slice ol m.l.length cl, .slice og m.g.length cg, .int .i64 m.pl, .int .i64 m.st] 50) = w1 at *
  refine (markPacket_any lo m.a m.b m.f m.s _ m.l k w1 (ownB_lay.2 i1.1) h0 (by omega) hl).mono ?_
  rintro e w2 ⟨rfl, hown, hgr⟩
  have s2 : Stp lo hi w1 w2 := Stp.grown hgr (fun b e => ⟨(i1.1.lt b e).1, i1.2 b e⟩)
  have nb : ∀ b, (Value.slice ol m.l.length cl).ownBlock = some b → b < w.heap.size := fun b e => (HIV.out.1.lt b e).2
  replace bx := (hgr.block w.heap.size hz (fun e => by have := nb _ e.symm; omega)).trans bx
  have g2 : InG lo hi w2 (.slice og m.g.length cg) m.g := InRow.kept g1 hgr (own_apart0 g1.1 i1.1 (Ne.symm u8Seg))
  have i2 : InB lo hi w2 (.slice ol m.l.length cl) (markL k m.l.length) := ⟨ownB_lay.1 hown, i1.2⟩
  have c5 : w2.cell? ⟨w.heap.size, 5, none⟩ = some (.slice og m.g.length cg) := block_cell bx 5 _ rfl
  have H := hide (And.intro i2 (And.intro g2 (s1.trans s2)))
  clear i1 g1 s1 s2 hown hgr HS HV HG HIV HIG nb bx i2 g2
  go_wp2_with fail
  refine (markSegS_any lo _ m.g (k + m.l.length) w2 H.out.2.1.1 (by omega) (by omega) hg).mono ?_
  rintro e w3 ⟨rfl, ho3, hg3⟩
  have H3 : Hid (InCm lo hi w3 (crr m.a m.b m.f m.s (.slice ol m.l.length cl) (.slice og m.g.length cg) m.pl m.st) (mkCm k m)) := ⟨_, _, rfl, InRow.kept H.out.1 hg3 (own_apart0 H.out.1.1 H.out.2.1.1 u8Seg), ⟨ho3, H.out.2.1.2⟩⟩
  have S3 : Hid (Stp lo hi w w3) := H.out.2.2.trans (Stp.grown hg3 (fun b e => ⟨(H.out.2.1.1.lt b e).1, H.out.2.1.2 b e⟩))
  clear ho3 hg3 H c5
  go_wp2
  go_ret
  exact ⟨rfl, H3.out, S3.out⟩

end Go.Proofs.YtmkgbmmibjgeaaaGreat

/- Next, in the words of shapes. -/
namespace Go.Proofs.YtmkgbmmibjgeaaaGreat
open Go.ChangeShapes Go.WideShapes Go.ChangeAt Go.RowKit Go.Joins
set_option linter.unusedVariables false
set_option linter.unusedSimpArgs false

theorem nextM_fit {m : Cm} (hf : fitCm m) : (nextM m).1.l.length ≤ 1048576 ∧ (nextM m).1.g.length ≤ 1048576 := by
  have h := hf.1
  unfold nextM
  split
  · split
    · exact ⟨by show m.l.length ≤ _; omega, by show m.g.length ≤ _; omega⟩
    · exact ⟨by show m.l.length ≤ _; omega, by show m.g.length ≤ _; omega⟩
  · exact ⟨by decide, by decide⟩
theorem rdCm_in {a b f s : Int} {o : Option Addr} {cap : Nat} {l : List Int} {og : Option Addr} {cg : Nat} {g : List (Int × Int)} {pl st : Int} {w : World} (hR : Rd w o l) (hG : RdG w og g) : RdCm w.heap.size w (crr a b f s (.slice o l.length cap) (.slice og g.length cg) pl st) ⟨a, b, f, s, l, g, pl, st⟩ :=
  ⟨_, _, rfl, ⟨o, cap, rfl, RdB_rd.2 hR⟩, ⟨og, cg, rfl, RdG_rd.2 hG⟩⟩

end Go.Proofs.YtmkgbmmibjgeaaaGreat

/- Agents that may be, on both sides; the program's agent, from one and back. -/
namespace Go.Proofs.YtmkgbmmibjgeaaaGreat
open Go.ChangeShapes Go.WideShapes Go.ChangeAt Go.RowKit Go.Joins
set_option linter.unusedVariables false
set_option linter.unusedSimpArgs false

/-- An agent that may be. -/
def agentOkB (m : Am) : Bool := decide (0 ≤ m.id) && decide (m.id < 6) && decide (0 ≤ m.lim) && decide (m.lim ≤ 16) && tableOkB m.c && tableOkB m.t
theorem agentOkB_parts {m : Am} : agentOkB m = true ↔ (0 ≤ m.id ∧ m.id < 6 ∧ 0 ≤ m.lim ∧ m.lim ≤ 16 ∧ tableOkB m.c = true ∧ tableOkB m.t = true ∧ True) := by simp [agentOkB, and_assoc]
theorem agentOkB_tabs {m : Am} (h1 : 0 ≤ m.id) (h2 : m.id < 6) (h3 : 0 ≤ m.lim) (h4 : m.lim ≤ 16) : agentOkB m = (tableOkB m.c && tableOkB m.t) := by simp [agentOkB, h1, h2, h3, h4]
theorem agentOkB_four (m : Am) : agentOkB m = ((decide (0 ≤ m.id) && decide (m.id < 6)) && (decide (0 ≤ m.lim) && decide (m.lim ≤ 16)) && (tableOkB m.c && tableOkB m.t)) := by simp [agentOkB, Bool.and_assoc]

set_option maxHeartbeats 2000000 in
theorem specAgentOk_sh (v : Value) (m : Am) (w : World) (hR : RdA w.heap.size w v m) (hf : m.c.length + m.t.length ≤ 1048576) :
    Calls Tryz.prog 18 #[v] w fun e w' => e = .returned (.bool (agentOkB m)) ∧ Below w.heap.size w w' := by
  obtain ⟨vc, vt, rfl, ⟨oc, cc, rfl, rc⟩, ⟨ot, ct, rfl, rt⟩⟩ := hR
  obtain ⟨W0, hW0⟩ : ∃ W, (w.alloc (.cells #[.int .i64 m.id, .int .i64 m.lim, .bool m.dr, .slice oc m.c.length cc, .slice ot m.t.length ct] 41)) = W := ⟨_, rfl⟩
  have hb_W0 : Below w.heap.size w W0 := by rw [← hW0]; exact ((Below.refl _ _).alloc (Nat.le_refl _) _)
  have HB := hide hb_W0
  clear hb_W0
  have zz : w.heap.size < W0.heap.size := by rw [← hW0]; simp
  have z0 : W0.cell? ⟨w.heap.size, 0, none⟩ = some (.int .i64 m.id) := by rw [← hW0]; simp [go_sem]
  have z1 : W0.cell? ⟨w.heap.size, 1, none⟩ = some (.int .i64 m.lim) := by rw [← hW0]; simp [go_sem]
  have z2 : W0.cell? ⟨w.heap.size, 2, none⟩ = some (.bool m.dr) := by rw [← hW0]; simp [go_sem]
  have z3 : W0.cell? ⟨w.heap.size, 3, none⟩ = some (.slice oc m.c.length cc) := by rw [← hW0]; simp [go_sem]
  have z4 : W0.cell? ⟨w.heap.size, 4, none⟩ = some (.slice ot m.t.length ct) := by rw [← hW0]; simp [go_sem]
  have hcc := specTableOk_any oc cc m.c W0 ((rc.kept HB.out (Nat.le_refl _)).le HB.out.size) (by omega)
  have hct := fun W (h : Below w.heap.size w W) => specTableOk_any ot ct m.t W ((rt.kept h (Nat.le_refl _)).le h.size) (by omega)
  have HCT := hide hct
  clear hct rc rt
  by_cases h1 : 0 ≤ m.id
  · by_cases h2 : m.id < 6
    · by_cases h3 : 0 ≤ m.lim
      · by_cases h4 : m.lim ≤ 16
        · have HE := hide (agentOkB_tabs h1 h2 h3 h4)
          generalize tableOkB m.c = t1 at *
          cases t1 with
          | false =>
            go_enter Tryz.func18, Tryz.ntmps18
            go_wp2_with fail
            refine (hcc).mono ?_
            rintro e v1 ⟨rfl, hb⟩
            replace z0 : v1.cell? ⟨w.heap.size, 0, none⟩ = some (.int .i64 m.id) := (hb.cell (p := ⟨w.heap.size, 0, none⟩) zz).trans z0
            replace z1 : v1.cell? ⟨w.heap.size, 1, none⟩ = some (.int .i64 m.lim) := (hb.cell (p := ⟨w.heap.size, 1, none⟩) zz).trans z1
            replace z2 : v1.cell? ⟨w.heap.size, 2, none⟩ = some (.bool m.dr) := (hb.cell (p := ⟨w.heap.size, 2, none⟩) zz).trans z2
            replace z3 : v1.cell? ⟨w.heap.size, 3, none⟩ = some (.slice oc m.c.length cc) := (hb.cell (p := ⟨w.heap.size, 3, none⟩) zz).trans z3
            replace z4 : v1.cell? ⟨w.heap.size, 4, none⟩ = some (.slice ot m.t.length ct) := (hb.cell (p := ⟨w.heap.size, 4, none⟩) zz).trans z4
            replace zz : w.heap.size < v1.heap.size := Nat.lt_of_lt_of_le zz hb.size
            replace HB := hide (HB.out.trans (hb.mono HB.out.size))
            clear hb
            go_wp2
            go_ret
            exact ⟨by rw [HE.out]; rfl, HB.out⟩
          | true =>
            go_enter Tryz.func18, Tryz.ntmps18
            go_wp2_with fail
            refine (hcc).mono ?_
            rintro e v1 ⟨rfl, hb⟩
            replace z0 : v1.cell? ⟨w.heap.size, 0, none⟩ = some (.int .i64 m.id) := (hb.cell (p := ⟨w.heap.size, 0, none⟩) zz).trans z0
            replace z1 : v1.cell? ⟨w.heap.size, 1, none⟩ = some (.int .i64 m.lim) := (hb.cell (p := ⟨w.heap.size, 1, none⟩) zz).trans z1
            replace z2 : v1.cell? ⟨w.heap.size, 2, none⟩ = some (.bool m.dr) := (hb.cell (p := ⟨w.heap.size, 2, none⟩) zz).trans z2
            replace z3 : v1.cell? ⟨w.heap.size, 3, none⟩ = some (.slice oc m.c.length cc) := (hb.cell (p := ⟨w.heap.size, 3, none⟩) zz).trans z3
            replace z4 : v1.cell? ⟨w.heap.size, 4, none⟩ = some (.slice ot m.t.length ct) := (hb.cell (p := ⟨w.heap.size, 4, none⟩) zz).trans z4
            replace zz : w.heap.size < v1.heap.size := Nat.lt_of_lt_of_le zz hb.size
            replace HB := hide (HB.out.trans (hb.mono HB.out.size))
            clear hb
            go_wp2_with fail
            refine (HCT.out v1 HB.out).mono ?_
            rintro e v2 ⟨rfl, hb⟩
            replace z0 : v2.cell? ⟨w.heap.size, 0, none⟩ = some (.int .i64 m.id) := (hb.cell (p := ⟨w.heap.size, 0, none⟩) zz).trans z0
            replace z1 : v2.cell? ⟨w.heap.size, 1, none⟩ = some (.int .i64 m.lim) := (hb.cell (p := ⟨w.heap.size, 1, none⟩) zz).trans z1
            replace z2 : v2.cell? ⟨w.heap.size, 2, none⟩ = some (.bool m.dr) := (hb.cell (p := ⟨w.heap.size, 2, none⟩) zz).trans z2
            replace z3 : v2.cell? ⟨w.heap.size, 3, none⟩ = some (.slice oc m.c.length cc) := (hb.cell (p := ⟨w.heap.size, 3, none⟩) zz).trans z3
            replace z4 : v2.cell? ⟨w.heap.size, 4, none⟩ = some (.slice ot m.t.length ct) := (hb.cell (p := ⟨w.heap.size, 4, none⟩) zz).trans z4
            replace zz : w.heap.size < v2.heap.size := Nat.lt_of_lt_of_le zz hb.size
            replace HB := hide (HB.out.trans (hb.mono HB.out.size))
            clear hb
            go_wp2
            all_goals go_ret
            all_goals exact ⟨by rw [HE.out]; first | rfl | simp, HB.out⟩
        · have HN := hide (bool_no (agentOkB_parts (m := m)) (fun q => h4 q.2.2.2.1))
          clear hcc HCT
          go_enter Tryz.func18, Tryz.ntmps18
          go_wp2
          all_goals go_ret
          all_goals exact ⟨ret_bool HN.out, HB.out⟩
      · have HN := hide (bool_no (agentOkB_parts (m := m)) (fun q => h3 q.2.2.1))
        clear hcc HCT
        go_enter Tryz.func18, Tryz.ntmps18
        go_wp2
        all_goals go_ret
        all_goals exact ⟨ret_bool HN.out, HB.out⟩
    · have HN := hide (bool_no (agentOkB_parts (m := m)) (fun q => h2 q.2.1))
      clear hcc HCT
      go_enter Tryz.func18, Tryz.ntmps18
      go_wp2
      all_goals go_ret
      all_goals exact ⟨ret_bool HN.out, HB.out⟩
  · have HN := hide (bool_no (agentOkB_parts (m := m)) (fun q => h1 q.1))
    clear hcc HCT
    go_enter Tryz.func18, Tryz.ntmps18
    go_wp2
    all_goals go_ret
    all_goals exact ⟨ret_bool HN.out, HB.out⟩

theorem isBackA_any (n : Int) (w : World) : Calls Tryz.prog 53 #[.int .i64 n] w fun e w' => e = .returned (.bool (decide (0 ≤ n) && decide (n < 6))) ∧ w = w' := by
  go_enter Tryz.func53, Tryz.ntmps53
  go_wp2
  all_goals go_ret
  all_goals refine ⟨ret_bool ?_, rfl⟩
  all_goals first | (simp [*]; done) | (simp; omega)
theorem isLimit_any (n : Int) (w : World) : Calls Tryz.prog 54 #[.int .i64 n] w fun e w' => e = .returned (.bool (decide (0 ≤ n) && decide (n ≤ 16))) ∧ w = w' := by
  go_enter Tryz.func54, Tryz.ntmps54
  go_wp2
  all_goals go_ret
  all_goals refine ⟨ret_bool ?_, rfl⟩
  all_goals first | (simp [*]; done) | (simp; omega)

/-- The program's agent: its two rows of cells, and what else it is. -/
abbrev agi (vc vt : Value) (i l : Int) (d : Bool) : Value := .agg #[vc, vt, .int .i64 i, .int .i64 l, .bool d]
def OwnG (lo hi : Nat) (w : World) (v : Value) (m : Am) : Prop := ∃ g h mid, v = agi (.slice (some ⟨g, 0, none⟩) m.c.length m.c.length) (.slice (some ⟨h, 0, none⟩) m.t.length m.t.length) m.id m.lim m.dr ∧ InC5 lo mid w (.slice (some ⟨g, 0, none⟩) m.c.length m.c.length) m.c ∧ InC5 mid hi w (.slice (some ⟨h, 0, none⟩) m.t.length m.t.length) m.t ∧ lo ≤ mid ∧ mid ≤ hi
theorem OwnG.step {a b lo hi : Nat} {w w' : World} {v : Value} {m : Am} (h : OwnG a b w v m) (s : Stp lo hi w w') (hd : hi ≤ a ∨ b ≤ lo) : OwnG a b w' v m := by
  obtain ⟨g, h', mid, e, h1, h2, h3, h4⟩ := h
  exact ⟨g, h', mid, e, InRow.step h1 s (by omega), InRow.step h2 s (by omega), h3, h4⟩
theorem OwnG.mono {a b a' b' : Nat} {w : World} {v : Value} {m : Am} (h : OwnG a b w v m) (h1 : a' ≤ a) (h2 : b ≤ b') : OwnG a' b' w v m := by
  obtain ⟨g, h', mid, e, i1, i2, h3, h4⟩ := h
  exact ⟨g, h', mid, e, InRow.mono i1 h1 (Nat.le_refl _), InRow.mono i2 (Nat.le_refl _) h2, Nat.le_trans h1 h3, Nat.le_trans h4 h2⟩

set_option maxHeartbeats 8000000 in
theorem agentFrom_any (v : Value) (m : Am) (w : World) (hR : RdA w.heap.size w v m) (hf : m.c.length + m.t.length ≤ 1048576) :
    Calls Tryz.prog 26 #[v] w fun e w' => ∃ o1 n1 c1 o2 n2 c2 i l d, e = .returned (.tuple #[agi (.slice o1 n1 c1) (.slice o2 n2 c2) i l d, .bool (agentOkB m)]) ∧ (agentOkB m = true → OwnG w.heap.size w'.heap.size w' (agi (.slice o1 n1 c1) (.slice o2 n2 c2) i l d) m) ∧ Below w.heap.size w w' := by
  obtain ⟨vc, vt, rfl, ⟨oc, cc, rfl, rc⟩, ⟨ot, ct, rfl, rt⟩⟩ := hR
  obtain ⟨W0, hW0⟩ : ∃ W, ((w.alloc (.cells #[.int .i64 m.id, .int .i64 m.lim, .bool m.dr, .slice oc m.c.length cc, .slice ot m.t.length ct] 41)).alloc (.cells #[.slice none 0 0, .slice none 0 0, .int .i64 0, .int .i64 0, .bool false] 74)) = W := ⟨_, rfl⟩
  have hb_W0 : Below w.heap.size w W0 := by rw [← hW0]; exact (((Below.refl _ _).alloc (Nat.le_refl _) _).alloc (by simp <;> omega) _)
  have HB := hide hb_W0
  clear hb_W0
  have zz : w.heap.size < W0.heap.size := by rw [← hW0]; simp <;> omega
  have z0 : W0.cell? ⟨w.heap.size, 0, none⟩ = some (.int .i64 m.id) := by rw [← hW0]; simp [go_sem]
  have z1 : W0.cell? ⟨w.heap.size, 1, none⟩ = some (.int .i64 m.lim) := by rw [← hW0]; simp [go_sem]
  have z2 : W0.cell? ⟨w.heap.size, 2, none⟩ = some (.bool m.dr) := by rw [← hW0]; simp [go_sem]
  have z3 : W0.cell? ⟨w.heap.size, 3, none⟩ = some (.slice oc m.c.length cc) := by rw [← hW0]; simp [go_sem]
  have z4 : W0.cell? ⟨w.heap.size, 4, none⟩ = some (.slice ot m.t.length ct) := by rw [← hW0]; simp [go_sem]
  have zr : w.heap.size + 1 < W0.heap.size := by rw [← hW0]; simp
  have r0 : W0.cell? ⟨w.heap.size + 1, 0, none⟩ = some (.slice none 0 0) := by rw [← hW0]; simp [go_sem]
  have r1 : W0.cell? ⟨w.heap.size + 1, 1, none⟩ = some (.slice none 0 0) := by rw [← hW0]; simp [go_sem]
  have r2 : W0.cell? ⟨w.heap.size + 1, 2, none⟩ = some (.int .i64 0) := by rw [← hW0]; simp [go_sem]
  have r3 : W0.cell? ⟨w.heap.size + 1, 3, none⟩ = some (.int .i64 0) := by rw [← hW0]; simp [go_sem]
  have r4 : W0.cell? ⟨w.heap.size + 1, 4, none⟩ = some (.bool false) := by rw [← hW0]; simp [go_sem]
  have fr0 : W0.frozen? ⟨w.heap.size + 1, 0, none⟩ = false := by rw [← hW0]; simp [go_sem]
  have fr1 : W0.frozen? ⟨w.heap.size + 1, 1, none⟩ = false := by rw [← hW0]; simp [go_sem]
  have fr2 : W0.frozen? ⟨w.heap.size + 1, 2, none⟩ = false := by rw [← hW0]; simp [go_sem]
  have fr3 : W0.frozen? ⟨w.heap.size + 1, 3, none⟩ = false := by rw [← hW0]; simp [go_sem]
  have fr4 : W0.frozen? ⟨w.heap.size + 1, 4, none⟩ = false := by rw [← hW0]; simp [go_sem]
  have hz00 : w.heap.size + 1 < W0.heap.size := zr
  have h1 := tableFrom_any oc cc m.c W0 ((rc.kept HB.out (Nat.le_refl _)).le HB.out.size) (by omega)
  have h2 := fun W (h : Below w.heap.size w W) => tableFrom_any ot ct m.t W ((rt.kept h (Nat.le_refl _)).le h.size) (by omega)
  have H2 := hide h2
  have hbk := fun W => isBackA_any m.id W
  have hli := fun W => isLimit_any m.lim W
  have HE := hide (agentOkB_four m)
  clear h2 rc rt
  generalize (decide (0 ≤ m.id) && decide (m.id < 6)) = bk at *
  generalize (decide (0 ≤ m.lim) && decide (m.lim ≤ 16)) = bl at *
  generalize tableOkB m.c = t1 at *
  generalize tableOkB m.t = t2 at *
  by_cases hall : (bk && bl && (t1 && t2)) = true
  · obtain ⟨rfl, rfl, rfl, rfl⟩ : bk = true ∧ bl = true ∧ t1 = true ∧ t2 = true := by cases bk <;> cases bl <;> cases t1 <;> cases t2 <;> simp_all
    go_enter Tryz.func26, Tryz.ntmps26
    go_wp2_with fail
    refine (h1).mono ?_
    rintro e v1 ⟨o1, n1, c1, rfl, hv1, hb⟩
    obtain ⟨g, rfl, rfl, rfl, hown⟩ := hv1 (by simp)
    have HO := hide hown
    have hg0 := (hown.lt g rfl).1
    have hg1 := (hown.lt g rfl).2
    clear hown hv1
    replace z0 : v1.cell? ⟨w.heap.size, 0, none⟩ = some (.int .i64 m.id) := (hb.cell (p := ⟨w.heap.size, 0, none⟩) zz).trans z0
    replace z1 : v1.cell? ⟨w.heap.size, 1, none⟩ = some (.int .i64 m.lim) := (hb.cell (p := ⟨w.heap.size, 1, none⟩) zz).trans z1
    replace z2 : v1.cell? ⟨w.heap.size, 2, none⟩ = some (.bool m.dr) := (hb.cell (p := ⟨w.heap.size, 2, none⟩) zz).trans z2
    replace z3 : v1.cell? ⟨w.heap.size, 3, none⟩ = some (.slice oc m.c.length cc) := (hb.cell (p := ⟨w.heap.size, 3, none⟩) zz).trans z3
    replace z4 : v1.cell? ⟨w.heap.size, 4, none⟩ = some (.slice ot m.t.length ct) := (hb.cell (p := ⟨w.heap.size, 4, none⟩) zz).trans z4
    replace zz : w.heap.size < v1.heap.size := Nat.lt_of_lt_of_le zz hb.size
    replace r0 : v1.cell? ⟨w.heap.size + 1, 0, none⟩ = some (.slice none 0 0) := (hb.cell (p := ⟨w.heap.size + 1, 0, none⟩) zr).trans r0
    replace r1 : v1.cell? ⟨w.heap.size + 1, 1, none⟩ = some (.slice none 0 0) := (hb.cell (p := ⟨w.heap.size + 1, 1, none⟩) zr).trans r1
    replace r2 : v1.cell? ⟨w.heap.size + 1, 2, none⟩ = some (.int .i64 0) := (hb.cell (p := ⟨w.heap.size + 1, 2, none⟩) zr).trans r2
    replace r3 : v1.cell? ⟨w.heap.size + 1, 3, none⟩ = some (.int .i64 0) := (hb.cell (p := ⟨w.heap.size + 1, 3, none⟩) zr).trans r3
    replace r4 : v1.cell? ⟨w.heap.size + 1, 4, none⟩ = some (.bool false) := (hb.cell (p := ⟨w.heap.size + 1, 4, none⟩) zr).trans r4
    replace fr0 : v1.frozen? ⟨w.heap.size + 1, 0, none⟩ = false := (hb.frozen (p := ⟨w.heap.size + 1, 0, none⟩) zr).trans fr0
    replace fr1 : v1.frozen? ⟨w.heap.size + 1, 1, none⟩ = false := (hb.frozen (p := ⟨w.heap.size + 1, 1, none⟩) zr).trans fr1
    replace fr2 : v1.frozen? ⟨w.heap.size + 1, 2, none⟩ = false := (hb.frozen (p := ⟨w.heap.size + 1, 2, none⟩) zr).trans fr2
    replace fr3 : v1.frozen? ⟨w.heap.size + 1, 3, none⟩ = false := (hb.frozen (p := ⟨w.heap.size + 1, 3, none⟩) zr).trans fr3
    replace fr4 : v1.frozen? ⟨w.heap.size + 1, 4, none⟩ = false := (hb.frozen (p := ⟨w.heap.size + 1, 4, none⟩) zr).trans fr4
    replace zr : w.heap.size + 1 < v1.heap.size := Nat.lt_of_lt_of_le zr hb.size
    replace HB := hide (HB.out.trans (hb.mono HB.out.size))
    clear hb
    obtain ⟨W2, hW2⟩ : ∃ W, (v1.alloc (.cells #[.slice (some ⟨g, 0, none⟩) m.c.length m.c.length] 69)) = W := ⟨_, rfl⟩
    have hb_W2 : Below v1.heap.size v1 W2 := by rw [← hW2]; exact ((Below.refl _ _).alloc (Nat.le_refl _) _)
    replace z0 : W2.cell? ⟨w.heap.size, 0, none⟩ = some (.int .i64 m.id) := (hb_W2.cell (p := ⟨w.heap.size, 0, none⟩) zz).trans z0
    replace z1 : W2.cell? ⟨w.heap.size, 1, none⟩ = some (.int .i64 m.lim) := (hb_W2.cell (p := ⟨w.heap.size, 1, none⟩) zz).trans z1
    replace z2 : W2.cell? ⟨w.heap.size, 2, none⟩ = some (.bool m.dr) := (hb_W2.cell (p := ⟨w.heap.size, 2, none⟩) zz).trans z2
    replace z3 : W2.cell? ⟨w.heap.size, 3, none⟩ = some (.slice oc m.c.length cc) := (hb_W2.cell (p := ⟨w.heap.size, 3, none⟩) zz).trans z3
    replace z4 : W2.cell? ⟨w.heap.size, 4, none⟩ = some (.slice ot m.t.length ct) := (hb_W2.cell (p := ⟨w.heap.size, 4, none⟩) zz).trans z4
    replace zz : w.heap.size < W2.heap.size := Nat.lt_of_lt_of_le zz hb_W2.size
    replace r0 : W2.cell? ⟨w.heap.size + 1, 0, none⟩ = some (.slice none 0 0) := (hb_W2.cell (p := ⟨w.heap.size + 1, 0, none⟩) zr).trans r0
    replace r1 : W2.cell? ⟨w.heap.size + 1, 1, none⟩ = some (.slice none 0 0) := (hb_W2.cell (p := ⟨w.heap.size + 1, 1, none⟩) zr).trans r1
    replace r2 : W2.cell? ⟨w.heap.size + 1, 2, none⟩ = some (.int .i64 0) := (hb_W2.cell (p := ⟨w.heap.size + 1, 2, none⟩) zr).trans r2
    replace r3 : W2.cell? ⟨w.heap.size + 1, 3, none⟩ = some (.int .i64 0) := (hb_W2.cell (p := ⟨w.heap.size + 1, 3, none⟩) zr).trans r3
    replace r4 : W2.cell? ⟨w.heap.size + 1, 4, none⟩ = some (.bool false) := (hb_W2.cell (p := ⟨w.heap.size + 1, 4, none⟩) zr).trans r4
    replace fr0 : W2.frozen? ⟨w.heap.size + 1, 0, none⟩ = false := (hb_W2.frozen (p := ⟨w.heap.size + 1, 0, none⟩) zr).trans fr0
    replace fr1 : W2.frozen? ⟨w.heap.size + 1, 1, none⟩ = false := (hb_W2.frozen (p := ⟨w.heap.size + 1, 1, none⟩) zr).trans fr1
    replace fr2 : W2.frozen? ⟨w.heap.size + 1, 2, none⟩ = false := (hb_W2.frozen (p := ⟨w.heap.size + 1, 2, none⟩) zr).trans fr2
    replace fr3 : W2.frozen? ⟨w.heap.size + 1, 3, none⟩ = false := (hb_W2.frozen (p := ⟨w.heap.size + 1, 3, none⟩) zr).trans fr3
    replace fr4 : W2.frozen? ⟨w.heap.size + 1, 4, none⟩ = false := (hb_W2.frozen (p := ⟨w.heap.size + 1, 4, none⟩) zr).trans fr4
    replace zr : w.heap.size + 1 < W2.heap.size := Nat.lt_of_lt_of_le zr hb_W2.size
    replace HO := hide (own_kept HO.out hb_W2)
    replace HB := hide (HB.out.trans (hb_W2.mono HB.out.size))
    clear hb_W2
    have zx : v1.heap.size < W2.heap.size := by rw [← hW2]; simp
    have x0 : W2.cell? ⟨v1.heap.size, 0, none⟩ = some (.slice (some ⟨g, 0, none⟩) m.c.length m.c.length) := by rw [← hW2]; simp [go_sem]
    go_wp2_with fail
    refine (H2.out W2 HB.out).mono ?_
    rintro e v2 ⟨o2, n2, c2, rfl, hv2, hb⟩
    obtain ⟨h, rfl, rfl, rfl, hown⟩ := hv2 (by simp)
    have HP := hide hown
    have hh0 := (hown.lt h rfl).1
    clear hown hv2
    have hgm : g < W2.heap.size := by have h := hg1; rw [← hW2]; simp; omega
    replace z0 : v2.cell? ⟨w.heap.size, 0, none⟩ = some (.int .i64 m.id) := (hb.cell (p := ⟨w.heap.size, 0, none⟩) zz).trans z0
    replace z1 : v2.cell? ⟨w.heap.size, 1, none⟩ = some (.int .i64 m.lim) := (hb.cell (p := ⟨w.heap.size, 1, none⟩) zz).trans z1
    replace z2 : v2.cell? ⟨w.heap.size, 2, none⟩ = some (.bool m.dr) := (hb.cell (p := ⟨w.heap.size, 2, none⟩) zz).trans z2
    replace z3 : v2.cell? ⟨w.heap.size, 3, none⟩ = some (.slice oc m.c.length cc) := (hb.cell (p := ⟨w.heap.size, 3, none⟩) zz).trans z3
    replace z4 : v2.cell? ⟨w.heap.size, 4, none⟩ = some (.slice ot m.t.length ct) := (hb.cell (p := ⟨w.heap.size, 4, none⟩) zz).trans z4
    replace zz : w.heap.size < v2.heap.size := Nat.lt_of_lt_of_le zz hb.size
    replace r0 : v2.cell? ⟨w.heap.size + 1, 0, none⟩ = some (.slice none 0 0) := (hb.cell (p := ⟨w.heap.size + 1, 0, none⟩) zr).trans r0
    replace r1 : v2.cell? ⟨w.heap.size + 1, 1, none⟩ = some (.slice none 0 0) := (hb.cell (p := ⟨w.heap.size + 1, 1, none⟩) zr).trans r1
    replace r2 : v2.cell? ⟨w.heap.size + 1, 2, none⟩ = some (.int .i64 0) := (hb.cell (p := ⟨w.heap.size + 1, 2, none⟩) zr).trans r2
    replace r3 : v2.cell? ⟨w.heap.size + 1, 3, none⟩ = some (.int .i64 0) := (hb.cell (p := ⟨w.heap.size + 1, 3, none⟩) zr).trans r3
    replace r4 : v2.cell? ⟨w.heap.size + 1, 4, none⟩ = some (.bool false) := (hb.cell (p := ⟨w.heap.size + 1, 4, none⟩) zr).trans r4
    replace fr0 : v2.frozen? ⟨w.heap.size + 1, 0, none⟩ = false := (hb.frozen (p := ⟨w.heap.size + 1, 0, none⟩) zr).trans fr0
    replace fr1 : v2.frozen? ⟨w.heap.size + 1, 1, none⟩ = false := (hb.frozen (p := ⟨w.heap.size + 1, 1, none⟩) zr).trans fr1
    replace fr2 : v2.frozen? ⟨w.heap.size + 1, 2, none⟩ = false := (hb.frozen (p := ⟨w.heap.size + 1, 2, none⟩) zr).trans fr2
    replace fr3 : v2.frozen? ⟨w.heap.size + 1, 3, none⟩ = false := (hb.frozen (p := ⟨w.heap.size + 1, 3, none⟩) zr).trans fr3
    replace fr4 : v2.frozen? ⟨w.heap.size + 1, 4, none⟩ = false := (hb.frozen (p := ⟨w.heap.size + 1, 4, none⟩) zr).trans fr4
    replace zr : w.heap.size + 1 < v2.heap.size := Nat.lt_of_lt_of_le zr hb.size
    replace x0 : v2.cell? ⟨v1.heap.size, 0, none⟩ = some (.slice (some ⟨g, 0, none⟩) m.c.length m.c.length) := (hb.cell (p := ⟨v1.heap.size, 0, none⟩) zx).trans x0
    replace zx : v1.heap.size < v2.heap.size := Nat.lt_of_lt_of_le zx hb.size
    replace HO := hide (own_kept HO.out hb)
    replace HB := hide (HB.out.trans (hb.mono HB.out.size))
    clear hb
    obtain ⟨W4, hW4⟩ : ∃ W, (v2.alloc (.cells #[.slice (some ⟨h, 0, none⟩) m.t.length m.t.length] 69)) = W := ⟨_, rfl⟩
    have hb_W4 : Below v2.heap.size v2 W4 := by rw [← hW4]; exact ((Below.refl _ _).alloc (Nat.le_refl _) _)
    replace z0 : W4.cell? ⟨w.heap.size, 0, none⟩ = some (.int .i64 m.id) := (hb_W4.cell (p := ⟨w.heap.size, 0, none⟩) zz).trans z0
    replace z1 : W4.cell? ⟨w.heap.size, 1, none⟩ = some (.int .i64 m.lim) := (hb_W4.cell (p := ⟨w.heap.size, 1, none⟩) zz).trans z1
    replace z2 : W4.cell? ⟨w.heap.size, 2, none⟩ = some (.bool m.dr) := (hb_W4.cell (p := ⟨w.heap.size, 2, none⟩) zz).trans z2
    replace z3 : W4.cell? ⟨w.heap.size, 3, none⟩ = some (.slice oc m.c.length cc) := (hb_W4.cell (p := ⟨w.heap.size, 3, none⟩) zz).trans z3
    replace z4 : W4.cell? ⟨w.heap.size, 4, none⟩ = some (.slice ot m.t.length ct) := (hb_W4.cell (p := ⟨w.heap.size, 4, none⟩) zz).trans z4
    replace zz : w.heap.size < W4.heap.size := Nat.lt_of_lt_of_le zz hb_W4.size
    replace r0 : W4.cell? ⟨w.heap.size + 1, 0, none⟩ = some (.slice none 0 0) := (hb_W4.cell (p := ⟨w.heap.size + 1, 0, none⟩) zr).trans r0
    replace r1 : W4.cell? ⟨w.heap.size + 1, 1, none⟩ = some (.slice none 0 0) := (hb_W4.cell (p := ⟨w.heap.size + 1, 1, none⟩) zr).trans r1
    replace r2 : W4.cell? ⟨w.heap.size + 1, 2, none⟩ = some (.int .i64 0) := (hb_W4.cell (p := ⟨w.heap.size + 1, 2, none⟩) zr).trans r2
    replace r3 : W4.cell? ⟨w.heap.size + 1, 3, none⟩ = some (.int .i64 0) := (hb_W4.cell (p := ⟨w.heap.size + 1, 3, none⟩) zr).trans r3
    replace r4 : W4.cell? ⟨w.heap.size + 1, 4, none⟩ = some (.bool false) := (hb_W4.cell (p := ⟨w.heap.size + 1, 4, none⟩) zr).trans r4
    replace fr0 : W4.frozen? ⟨w.heap.size + 1, 0, none⟩ = false := (hb_W4.frozen (p := ⟨w.heap.size + 1, 0, none⟩) zr).trans fr0
    replace fr1 : W4.frozen? ⟨w.heap.size + 1, 1, none⟩ = false := (hb_W4.frozen (p := ⟨w.heap.size + 1, 1, none⟩) zr).trans fr1
    replace fr2 : W4.frozen? ⟨w.heap.size + 1, 2, none⟩ = false := (hb_W4.frozen (p := ⟨w.heap.size + 1, 2, none⟩) zr).trans fr2
    replace fr3 : W4.frozen? ⟨w.heap.size + 1, 3, none⟩ = false := (hb_W4.frozen (p := ⟨w.heap.size + 1, 3, none⟩) zr).trans fr3
    replace fr4 : W4.frozen? ⟨w.heap.size + 1, 4, none⟩ = false := (hb_W4.frozen (p := ⟨w.heap.size + 1, 4, none⟩) zr).trans fr4
    replace zr : w.heap.size + 1 < W4.heap.size := Nat.lt_of_lt_of_le zr hb_W4.size
    replace x0 : W4.cell? ⟨v1.heap.size, 0, none⟩ = some (.slice (some ⟨g, 0, none⟩) m.c.length m.c.length) := (hb_W4.cell (p := ⟨v1.heap.size, 0, none⟩) zx).trans x0
    replace zx : v1.heap.size < W4.heap.size := Nat.lt_of_lt_of_le zx hb_W4.size
    replace HO := hide (own_kept HO.out hb_W4)
    replace HP := hide (own_kept HP.out hb_W4)
    replace HB := hide (HB.out.trans (hb_W4.mono HB.out.size))
    clear hb_W4
    have zy : v2.heap.size < W4.heap.size := by rw [← hW4]; simp
    have y0 : W4.cell? ⟨v2.heap.size, 0, none⟩ = some (.slice (some ⟨h, 0, none⟩) m.t.length m.t.length) := by rw [← hW4]; simp [go_sem]
    have hW2s : W0.heap.size ≤ W2.heap.size := by omega
    have hW4s := (HP.out.lt h rfl).2
    go_wp2_with (first | (go_at_call 53; refine (hbk _).mono ?_; rintro e w9 ⟨rfl, rfl⟩) | (go_at_call 54; refine (hli _).mono ?_; rintro e w9 ⟨rfl, rfl⟩))
    refine bodyPost_ret (v := .tuple #[agi (.slice (some ⟨g, 0, none⟩) m.c.length m.c.length) (.slice (some ⟨h, 0, none⟩) m.t.length m.t.length) m.id m.lim m.dr, .bool true]) (by simp [results, Tryz.results26, go_sem, r0, r1, r2, r3, r4]) rfl ⟨_, _, _, _, _, _, _, _, _, by rw [HE.out]; rfl, fun _ => ?_, ?_⟩
    · refine ⟨g, h, W2.heap.size, rfl, InRow.mono (InRow.step (a := W0.heap.size) (b := W2.heap.size) ⟨HO.out, fun b e => by simp [Value.ownBlock] at e; omega⟩ (stp_set5v W4 (w.heap.size + 1) _ _ _ _ _) (.inl (by omega))) (by omega) (Nat.le_refl _), InRow.mono (InRow.step (a := W2.heap.size) (b := W4.heap.size) ⟨HP.out, fun b e => by simp [Value.ownBlock] at e; omega⟩ (stp_set5v W4 (w.heap.size + 1) _ _ _ _ _) (.inl (by omega))) (Nat.le_refl _) (by rw [set5v_size]; exact Nat.le_refl _), by omega, by rw [set5v_size]; omega⟩
    · exact below_set5v HB.out (by omega) _ _ _ _ _
  · have HN : Hid (agentOkB m = false) := by unfold Hid; rw [HE.out]; simpa using hall
    go_enter Tryz.func26, Tryz.ntmps26
    go_wp2_with fail
    refine (h1).mono ?_
    rintro e v1 ⟨o1, n1, c1, rfl, hv1, hb⟩
    clear hv1
    replace z0 : v1.cell? ⟨w.heap.size, 0, none⟩ = some (.int .i64 m.id) := (hb.cell (p := ⟨w.heap.size, 0, none⟩) zz).trans z0
    replace z1 : v1.cell? ⟨w.heap.size, 1, none⟩ = some (.int .i64 m.lim) := (hb.cell (p := ⟨w.heap.size, 1, none⟩) zz).trans z1
    replace z2 : v1.cell? ⟨w.heap.size, 2, none⟩ = some (.bool m.dr) := (hb.cell (p := ⟨w.heap.size, 2, none⟩) zz).trans z2
    replace z3 : v1.cell? ⟨w.heap.size, 3, none⟩ = some (.slice oc m.c.length cc) := (hb.cell (p := ⟨w.heap.size, 3, none⟩) zz).trans z3
    replace z4 : v1.cell? ⟨w.heap.size, 4, none⟩ = some (.slice ot m.t.length ct) := (hb.cell (p := ⟨w.heap.size, 4, none⟩) zz).trans z4
    replace zz : w.heap.size < v1.heap.size := Nat.lt_of_lt_of_le zz hb.size
    replace r0 : v1.cell? ⟨w.heap.size + 1, 0, none⟩ = some (.slice none 0 0) := (hb.cell (p := ⟨w.heap.size + 1, 0, none⟩) zr).trans r0
    replace r1 : v1.cell? ⟨w.heap.size + 1, 1, none⟩ = some (.slice none 0 0) := (hb.cell (p := ⟨w.heap.size + 1, 1, none⟩) zr).trans r1
    replace r2 : v1.cell? ⟨w.heap.size + 1, 2, none⟩ = some (.int .i64 0) := (hb.cell (p := ⟨w.heap.size + 1, 2, none⟩) zr).trans r2
    replace r3 : v1.cell? ⟨w.heap.size + 1, 3, none⟩ = some (.int .i64 0) := (hb.cell (p := ⟨w.heap.size + 1, 3, none⟩) zr).trans r3
    replace r4 : v1.cell? ⟨w.heap.size + 1, 4, none⟩ = some (.bool false) := (hb.cell (p := ⟨w.heap.size + 1, 4, none⟩) zr).trans r4
    replace fr0 : v1.frozen? ⟨w.heap.size + 1, 0, none⟩ = false := (hb.frozen (p := ⟨w.heap.size + 1, 0, none⟩) zr).trans fr0
    replace fr1 : v1.frozen? ⟨w.heap.size + 1, 1, none⟩ = false := (hb.frozen (p := ⟨w.heap.size + 1, 1, none⟩) zr).trans fr1
    replace fr2 : v1.frozen? ⟨w.heap.size + 1, 2, none⟩ = false := (hb.frozen (p := ⟨w.heap.size + 1, 2, none⟩) zr).trans fr2
    replace fr3 : v1.frozen? ⟨w.heap.size + 1, 3, none⟩ = false := (hb.frozen (p := ⟨w.heap.size + 1, 3, none⟩) zr).trans fr3
    replace fr4 : v1.frozen? ⟨w.heap.size + 1, 4, none⟩ = false := (hb.frozen (p := ⟨w.heap.size + 1, 4, none⟩) zr).trans fr4
    replace zr : w.heap.size + 1 < v1.heap.size := Nat.lt_of_lt_of_le zr hb.size
    replace HB := hide (HB.out.trans (hb.mono HB.out.size))
    clear hb
    obtain ⟨W2, hW2⟩ : ∃ W, (v1.alloc (.cells #[.slice o1 n1 c1] 69)) = W := ⟨_, rfl⟩
    have hb_W2 : Below v1.heap.size v1 W2 := by rw [← hW2]; exact ((Below.refl _ _).alloc (Nat.le_refl _) _)
    replace z0 : W2.cell? ⟨w.heap.size, 0, none⟩ = some (.int .i64 m.id) := (hb_W2.cell (p := ⟨w.heap.size, 0, none⟩) zz).trans z0
    replace z1 : W2.cell? ⟨w.heap.size, 1, none⟩ = some (.int .i64 m.lim) := (hb_W2.cell (p := ⟨w.heap.size, 1, none⟩) zz).trans z1
    replace z2 : W2.cell? ⟨w.heap.size, 2, none⟩ = some (.bool m.dr) := (hb_W2.cell (p := ⟨w.heap.size, 2, none⟩) zz).trans z2
    replace z3 : W2.cell? ⟨w.heap.size, 3, none⟩ = some (.slice oc m.c.length cc) := (hb_W2.cell (p := ⟨w.heap.size, 3, none⟩) zz).trans z3
    replace z4 : W2.cell? ⟨w.heap.size, 4, none⟩ = some (.slice ot m.t.length ct) := (hb_W2.cell (p := ⟨w.heap.size, 4, none⟩) zz).trans z4
    replace zz : w.heap.size < W2.heap.size := Nat.lt_of_lt_of_le zz hb_W2.size
    replace r0 : W2.cell? ⟨w.heap.size + 1, 0, none⟩ = some (.slice none 0 0) := (hb_W2.cell (p := ⟨w.heap.size + 1, 0, none⟩) zr).trans r0
    replace r1 : W2.cell? ⟨w.heap.size + 1, 1, none⟩ = some (.slice none 0 0) := (hb_W2.cell (p := ⟨w.heap.size + 1, 1, none⟩) zr).trans r1
    replace r2 : W2.cell? ⟨w.heap.size + 1, 2, none⟩ = some (.int .i64 0) := (hb_W2.cell (p := ⟨w.heap.size + 1, 2, none⟩) zr).trans r2
    replace r3 : W2.cell? ⟨w.heap.size + 1, 3, none⟩ = some (.int .i64 0) := (hb_W2.cell (p := ⟨w.heap.size + 1, 3, none⟩) zr).trans r3
    replace r4 : W2.cell? ⟨w.heap.size + 1, 4, none⟩ = some (.bool false) := (hb_W2.cell (p := ⟨w.heap.size + 1, 4, none⟩) zr).trans r4
    replace fr0 : W2.frozen? ⟨w.heap.size + 1, 0, none⟩ = false := (hb_W2.frozen (p := ⟨w.heap.size + 1, 0, none⟩) zr).trans fr0
    replace fr1 : W2.frozen? ⟨w.heap.size + 1, 1, none⟩ = false := (hb_W2.frozen (p := ⟨w.heap.size + 1, 1, none⟩) zr).trans fr1
    replace fr2 : W2.frozen? ⟨w.heap.size + 1, 2, none⟩ = false := (hb_W2.frozen (p := ⟨w.heap.size + 1, 2, none⟩) zr).trans fr2
    replace fr3 : W2.frozen? ⟨w.heap.size + 1, 3, none⟩ = false := (hb_W2.frozen (p := ⟨w.heap.size + 1, 3, none⟩) zr).trans fr3
    replace fr4 : W2.frozen? ⟨w.heap.size + 1, 4, none⟩ = false := (hb_W2.frozen (p := ⟨w.heap.size + 1, 4, none⟩) zr).trans fr4
    replace zr : w.heap.size + 1 < W2.heap.size := Nat.lt_of_lt_of_le zr hb_W2.size
    replace HB := hide (HB.out.trans (hb_W2.mono HB.out.size))
    clear hb_W2
    have zx : v1.heap.size < W2.heap.size := by rw [← hW2]; simp
    have x0 : W2.cell? ⟨v1.heap.size, 0, none⟩ = some (.slice o1 n1 c1) := by rw [← hW2]; simp [go_sem]
    go_wp2_with fail
    refine (H2.out W2 HB.out).mono ?_
    rintro e v2 ⟨o2, n2, c2, rfl, hv2, hb⟩
    clear hv2
    replace z0 : v2.cell? ⟨w.heap.size, 0, none⟩ = some (.int .i64 m.id) := (hb.cell (p := ⟨w.heap.size, 0, none⟩) zz).trans z0
    replace z1 : v2.cell? ⟨w.heap.size, 1, none⟩ = some (.int .i64 m.lim) := (hb.cell (p := ⟨w.heap.size, 1, none⟩) zz).trans z1
    replace z2 : v2.cell? ⟨w.heap.size, 2, none⟩ = some (.bool m.dr) := (hb.cell (p := ⟨w.heap.size, 2, none⟩) zz).trans z2
    replace z3 : v2.cell? ⟨w.heap.size, 3, none⟩ = some (.slice oc m.c.length cc) := (hb.cell (p := ⟨w.heap.size, 3, none⟩) zz).trans z3
    replace z4 : v2.cell? ⟨w.heap.size, 4, none⟩ = some (.slice ot m.t.length ct) := (hb.cell (p := ⟨w.heap.size, 4, none⟩) zz).trans z4
    replace zz : w.heap.size < v2.heap.size := Nat.lt_of_lt_of_le zz hb.size
    replace r0 : v2.cell? ⟨w.heap.size + 1, 0, none⟩ = some (.slice none 0 0) := (hb.cell (p := ⟨w.heap.size + 1, 0, none⟩) zr).trans r0
    replace r1 : v2.cell? ⟨w.heap.size + 1, 1, none⟩ = some (.slice none 0 0) := (hb.cell (p := ⟨w.heap.size + 1, 1, none⟩) zr).trans r1
    replace r2 : v2.cell? ⟨w.heap.size + 1, 2, none⟩ = some (.int .i64 0) := (hb.cell (p := ⟨w.heap.size + 1, 2, none⟩) zr).trans r2
    replace r3 : v2.cell? ⟨w.heap.size + 1, 3, none⟩ = some (.int .i64 0) := (hb.cell (p := ⟨w.heap.size + 1, 3, none⟩) zr).trans r3
    replace r4 : v2.cell? ⟨w.heap.size + 1, 4, none⟩ = some (.bool false) := (hb.cell (p := ⟨w.heap.size + 1, 4, none⟩) zr).trans r4
    replace fr0 : v2.frozen? ⟨w.heap.size + 1, 0, none⟩ = false := (hb.frozen (p := ⟨w.heap.size + 1, 0, none⟩) zr).trans fr0
    replace fr1 : v2.frozen? ⟨w.heap.size + 1, 1, none⟩ = false := (hb.frozen (p := ⟨w.heap.size + 1, 1, none⟩) zr).trans fr1
    replace fr2 : v2.frozen? ⟨w.heap.size + 1, 2, none⟩ = false := (hb.frozen (p := ⟨w.heap.size + 1, 2, none⟩) zr).trans fr2
    replace fr3 : v2.frozen? ⟨w.heap.size + 1, 3, none⟩ = false := (hb.frozen (p := ⟨w.heap.size + 1, 3, none⟩) zr).trans fr3
    replace fr4 : v2.frozen? ⟨w.heap.size + 1, 4, none⟩ = false := (hb.frozen (p := ⟨w.heap.size + 1, 4, none⟩) zr).trans fr4
    replace zr : w.heap.size + 1 < v2.heap.size := Nat.lt_of_lt_of_le zr hb.size
    replace x0 : v2.cell? ⟨v1.heap.size, 0, none⟩ = some (.slice o1 n1 c1) := (hb.cell (p := ⟨v1.heap.size, 0, none⟩) zx).trans x0
    replace zx : v1.heap.size < v2.heap.size := Nat.lt_of_lt_of_le zx hb.size
    replace HB := hide (HB.out.trans (hb.mono HB.out.size))
    clear hb
    obtain ⟨W4, hW4⟩ : ∃ W, (v2.alloc (.cells #[.slice o2 n2 c2] 69)) = W := ⟨_, rfl⟩
    have hb_W4 : Below v2.heap.size v2 W4 := by rw [← hW4]; exact ((Below.refl _ _).alloc (Nat.le_refl _) _)
    replace z0 : W4.cell? ⟨w.heap.size, 0, none⟩ = some (.int .i64 m.id) := (hb_W4.cell (p := ⟨w.heap.size, 0, none⟩) zz).trans z0
    replace z1 : W4.cell? ⟨w.heap.size, 1, none⟩ = some (.int .i64 m.lim) := (hb_W4.cell (p := ⟨w.heap.size, 1, none⟩) zz).trans z1
    replace z2 : W4.cell? ⟨w.heap.size, 2, none⟩ = some (.bool m.dr) := (hb_W4.cell (p := ⟨w.heap.size, 2, none⟩) zz).trans z2
    replace z3 : W4.cell? ⟨w.heap.size, 3, none⟩ = some (.slice oc m.c.length cc) := (hb_W4.cell (p := ⟨w.heap.size, 3, none⟩) zz).trans z3
    replace z4 : W4.cell? ⟨w.heap.size, 4, none⟩ = some (.slice ot m.t.length ct) := (hb_W4.cell (p := ⟨w.heap.size, 4, none⟩) zz).trans z4
    replace zz : w.heap.size < W4.heap.size := Nat.lt_of_lt_of_le zz hb_W4.size
    replace r0 : W4.cell? ⟨w.heap.size + 1, 0, none⟩ = some (.slice none 0 0) := (hb_W4.cell (p := ⟨w.heap.size + 1, 0, none⟩) zr).trans r0
    replace r1 : W4.cell? ⟨w.heap.size + 1, 1, none⟩ = some (.slice none 0 0) := (hb_W4.cell (p := ⟨w.heap.size + 1, 1, none⟩) zr).trans r1
    replace r2 : W4.cell? ⟨w.heap.size + 1, 2, none⟩ = some (.int .i64 0) := (hb_W4.cell (p := ⟨w.heap.size + 1, 2, none⟩) zr).trans r2
    replace r3 : W4.cell? ⟨w.heap.size + 1, 3, none⟩ = some (.int .i64 0) := (hb_W4.cell (p := ⟨w.heap.size + 1, 3, none⟩) zr).trans r3
    replace r4 : W4.cell? ⟨w.heap.size + 1, 4, none⟩ = some (.bool false) := (hb_W4.cell (p := ⟨w.heap.size + 1, 4, none⟩) zr).trans r4
    replace fr0 : W4.frozen? ⟨w.heap.size + 1, 0, none⟩ = false := (hb_W4.frozen (p := ⟨w.heap.size + 1, 0, none⟩) zr).trans fr0
    replace fr1 : W4.frozen? ⟨w.heap.size + 1, 1, none⟩ = false := (hb_W4.frozen (p := ⟨w.heap.size + 1, 1, none⟩) zr).trans fr1
    replace fr2 : W4.frozen? ⟨w.heap.size + 1, 2, none⟩ = false := (hb_W4.frozen (p := ⟨w.heap.size + 1, 2, none⟩) zr).trans fr2
    replace fr3 : W4.frozen? ⟨w.heap.size + 1, 3, none⟩ = false := (hb_W4.frozen (p := ⟨w.heap.size + 1, 3, none⟩) zr).trans fr3
    replace fr4 : W4.frozen? ⟨w.heap.size + 1, 4, none⟩ = false := (hb_W4.frozen (p := ⟨w.heap.size + 1, 4, none⟩) zr).trans fr4
    replace zr : w.heap.size + 1 < W4.heap.size := Nat.lt_of_lt_of_le zr hb_W4.size
    replace x0 : W4.cell? ⟨v1.heap.size, 0, none⟩ = some (.slice o1 n1 c1) := (hb_W4.cell (p := ⟨v1.heap.size, 0, none⟩) zx).trans x0
    replace zx : v1.heap.size < W4.heap.size := Nat.lt_of_lt_of_le zx hb_W4.size
    replace HB := hide (HB.out.trans (hb_W4.mono HB.out.size))
    clear hb_W4
    have zy : v2.heap.size < W4.heap.size := by rw [← hW4]; simp
    have y0 : W4.cell? ⟨v2.heap.size, 0, none⟩ = some (.slice o2 n2 c2) := by rw [← hW4]; simp [go_sem]
    clear HE
    cases t1 <;> cases t2 <;> cases bk <;> cases bl <;> first | (exfalso; simp at hall; done) | skip
    all_goals (
      clear hall
      go_wp2_with (first | (go_at_call 53; refine (hbk _).mono ?_; rintro e w9 ⟨rfl, rfl⟩) | (go_at_call 54; refine (hli _).mono ?_; rintro e w9 ⟨rfl, rfl⟩))
      refine bodyPost_ret (v := .tuple #[agi (.slice none 0 0) (.slice none 0 0) 0 0 false, .bool false]) (by simp [results, Tryz.results26, go_sem, r0, r1, r2, r3, r4]) rfl ⟨_, _, _, _, _, _, _, _, _, by rw [HN.out], fun h => absurd (h.symm.trans HN.out) (by decide), below_set5v HB.out (by omega) _ _ _ _ _⟩)

end Go.Proofs.YtmkgbmmibjgeaaaGreat

/- The program's agent, laid out plainly; its AgentOk. -/
namespace Go.Proofs.YtmkgbmmibjgeaaaGreat
open Go.ChangeShapes Go.WideShapes Go.ChangeAt Go.RowKit Go.Joins
set_option linter.unusedVariables false
set_option linter.unusedSimpArgs false

set_option maxHeartbeats 4000000 in
theorem plain_any (v : Value) (m : Am) (lo hi : Nat) (w : World) (hO : OwnG lo hi w v m) (hf : m.c.length + m.t.length ≤ 1048576) :
    Calls Tryz.prog 30 #[v] w fun e w' => ∃ v', e = .returned v' ∧ InA w.heap.size w'.heap.size w' v' m ∧ Below w.heap.size w w' := by
  obtain ⟨g, h, mid, rfl, i1, i2, hm1, hm2⟩ := hO
  have zg := (i1.1.lt g rfl).2
  have zh := (i2.1.lt h rfl).2
  have HC1 := hide (rd_of_own i1.1 rfl)
  have HC2 := hide (rd_of_own i2.1 rfl)
  clear i1 i2 hm1 hm2
  obtain ⟨W0, hW0⟩ : ∃ W, ((w.alloc (.cells #[.slice (some ⟨g, 0, none⟩) m.c.length m.c.length, .slice (some ⟨h, 0, none⟩) m.t.length m.t.length, .int .i64 m.id, .int .i64 m.lim, .bool m.dr] 74)).alloc (.cells #[.int .i64 0, .int .i64 0, .bool false, .slice none 0 0, .slice none 0 0] 41)) = W := ⟨_, rfl⟩
  have hb_W0 : Below w.heap.size w W0 := by rw [← hW0]; exact (((Below.refl _ _).alloc (Nat.le_refl _) _).alloc (by simp <;> omega) _)
  have HB := hide hb_W0
  clear hb_W0
  have zz : w.heap.size < W0.heap.size := by rw [← hW0]; simp <;> omega
  have z0 : W0.cell? ⟨w.heap.size, 0, none⟩ = some (.slice (some ⟨g, 0, none⟩) m.c.length m.c.length) := by rw [← hW0]; simp [go_sem]
  have z1 : W0.cell? ⟨w.heap.size, 1, none⟩ = some (.slice (some ⟨h, 0, none⟩) m.t.length m.t.length) := by rw [← hW0]; simp [go_sem]
  have z2 : W0.cell? ⟨w.heap.size, 2, none⟩ = some (.int .i64 m.id) := by rw [← hW0]; simp [go_sem]
  have z3 : W0.cell? ⟨w.heap.size, 3, none⟩ = some (.int .i64 m.lim) := by rw [← hW0]; simp [go_sem]
  have z4 : W0.cell? ⟨w.heap.size, 4, none⟩ = some (.bool m.dr) := by rw [← hW0]; simp [go_sem]
  have zr : w.heap.size + 1 < W0.heap.size := by rw [← hW0]; simp
  have r0 : W0.cell? ⟨w.heap.size + 1, 0, none⟩ = some (.int .i64 0) := by rw [← hW0]; simp [go_sem]
  have r1 : W0.cell? ⟨w.heap.size + 1, 1, none⟩ = some (.int .i64 0) := by rw [← hW0]; simp [go_sem]
  have r2 : W0.cell? ⟨w.heap.size + 1, 2, none⟩ = some (.bool false) := by rw [← hW0]; simp [go_sem]
  have r3 : W0.cell? ⟨w.heap.size + 1, 3, none⟩ = some (.slice none 0 0) := by rw [← hW0]; simp [go_sem]
  have r4 : W0.cell? ⟨w.heap.size + 1, 4, none⟩ = some (.slice none 0 0) := by rw [← hW0]; simp [go_sem]
  have fr0 : W0.frozen? ⟨w.heap.size + 1, 0, none⟩ = false := by rw [← hW0]; simp [go_sem]
  have fr1 : W0.frozen? ⟨w.heap.size + 1, 1, none⟩ = false := by rw [← hW0]; simp [go_sem]
  have fr2 : W0.frozen? ⟨w.heap.size + 1, 2, none⟩ = false := by rw [← hW0]; simp [go_sem]
  have fr3 : W0.frozen? ⟨w.heap.size + 1, 3, none⟩ = false := by rw [← hW0]; simp [go_sem]
  have fr4 : W0.frozen? ⟨w.heap.size + 1, 4, none⟩ = false := by rw [← hW0]; simp [go_sem]
  have hz1 : w.heap.size + 1 < W0.heap.size := zr
  have HBd := hide (Below.drew HB.out)
  have h1 := plainTable_any g 0 m.c.length m.c W0.drew (Nat.lt_of_lt_of_le zg HBd.out.size) (fun i hi j hj => (HBd.out.cell (p := ⟨g, 0 + i * layS.k + j, none⟩) zg).trans (HC1.out i hi j hj)) (by omega)
  have h2 := fun W (hb : Below w.heap.size w W) => plainTable_any h 0 m.t.length m.t W (Nat.lt_of_lt_of_le zh hb.size) (fun i hi j hj => (hb.cell (p := ⟨h, 0 + i * layS.k + j, none⟩) zh).trans (HC2.out i hi j hj)) (by omega)
  have H1 := hide h1
  have H2 := hide h2
  clear h1 h2
  go_enter Tryz.func30, Tryz.ntmps30
  go_wp2
  go_region_held3 (fun w' => w'.cell? ⟨w.heap.size, 0, none⟩ = some (.slice (some ⟨g, 0, none⟩) m.c.length m.c.length) ∧ w'.cell? ⟨w.heap.size, 1, none⟩ = some (.slice (some ⟨h, 0, none⟩) m.t.length m.t.length) ∧ w'.cell? ⟨w.heap.size, 2, none⟩ = some (.int .i64 m.id) ∧ w'.cell? ⟨w.heap.size, 3, none⟩ = some (.int .i64 m.lim) ∧ w'.cell? ⟨w.heap.size, 4, none⟩ = some (.bool m.dr)) (first | with_reducible exact ⟨qz0, qz1, qz2, qz3, qz4⟩ | with_reducible exact ⟨pz0, pz1, pz2, pz3, pz4⟩ | with_reducible exact ⟨set5v_cell qz0 (Nat.lt_succ_self _), set5v_cell qz1 (Nat.lt_succ_self _), set5v_cell qz2 (Nat.lt_succ_self _), set5v_cell qz3 (Nat.lt_succ_self _), set5v_cell qz4 (Nat.lt_succ_self _)⟩ | exact ⟨z0, z1, z2, z3, z4⟩ | go_keep) (first | (go_at_call 64; (with_reducible refine H1.out.mono ?_); rintro e v1 ⟨g1, rfl, hw1, hb⟩; have hp1 : Below W0.heap.size W0 v1 := (Below.drew (Below.refl _ _)).trans hb; have HB1 := hide (HB.out.trans (hp1.mono HB.out.size)); have HO1 := hide hw1; clear hb hw1; have pz0 := (hp1.cell (p := ⟨w.heap.size, 0, none⟩) zz).trans z0; have pz1 := (hp1.cell (p := ⟨w.heap.size, 1, none⟩) zz).trans z1; have pz2 := (hp1.cell (p := ⟨w.heap.size, 2, none⟩) zz).trans z2; have pz3 := (hp1.cell (p := ⟨w.heap.size, 3, none⟩) zz).trans z3; have pz4 := (hp1.cell (p := ⟨w.heap.size, 4, none⟩) zz).trans z4; have pr0 := (hp1.cell (p := ⟨w.heap.size + 1, 0, none⟩) zr).trans r0; have pr1 := (hp1.cell (p := ⟨w.heap.size + 1, 1, none⟩) zr).trans r1; have pr2 := (hp1.cell (p := ⟨w.heap.size + 1, 2, none⟩) zr).trans r2; have pr3 := (hp1.cell (p := ⟨w.heap.size + 1, 3, none⟩) zr).trans r3; have pr4 := (hp1.cell (p := ⟨w.heap.size + 1, 4, none⟩) zr).trans r4; have pf0 := (hp1.frozen (p := ⟨w.heap.size + 1, 0, none⟩) zr).trans fr0; have pf1 := (hp1.frozen (p := ⟨w.heap.size + 1, 1, none⟩) zr).trans fr1; have pf2 := (hp1.frozen (p := ⟨w.heap.size + 1, 2, none⟩) zr).trans fr2; have pf3 := (hp1.frozen (p := ⟨w.heap.size + 1, 3, none⟩) zr).trans fr3; have pf4 := (hp1.frozen (p := ⟨w.heap.size + 1, 4, none⟩) zr).trans fr4) | (go_at_call 64; (with_reducible refine (H2.out v1 HB1.out).mono ?_); rintro e v2 ⟨g2, rfl, hw2, hb⟩; have hp2 : Below W0.heap.size W0 v2 := hp1.trans (hb.mono hp1.size); have HK1 := hide (own_kept HO1.out hb); have HO2 := hide hw2; have HB2 := hide (HB1.out.trans (hb.mono HB1.out.size)); have hs21 := hb.size; clear hb hw2; have qz0 := (hp2.cell (p := ⟨w.heap.size, 0, none⟩) zz).trans z0; have qz1 := (hp2.cell (p := ⟨w.heap.size, 1, none⟩) zz).trans z1; have qz2 := (hp2.cell (p := ⟨w.heap.size, 2, none⟩) zz).trans z2; have qz3 := (hp2.cell (p := ⟨w.heap.size, 3, none⟩) zz).trans z3; have qz4 := (hp2.cell (p := ⟨w.heap.size, 4, none⟩) zz).trans z4; have qr0 := (hp2.cell (p := ⟨w.heap.size + 1, 0, none⟩) zr).trans r0; have qr1 := (hp2.cell (p := ⟨w.heap.size + 1, 1, none⟩) zr).trans r1; have qr2 := (hp2.cell (p := ⟨w.heap.size + 1, 2, none⟩) zr).trans r2; have qr3 := (hp2.cell (p := ⟨w.heap.size + 1, 3, none⟩) zr).trans r3; have qr4 := (hp2.cell (p := ⟨w.heap.size + 1, 4, none⟩) zr).trans r4; have qf0 := (hp2.frozen (p := ⟨w.heap.size + 1, 0, none⟩) zr).trans fr0; have qf1 := (hp2.frozen (p := ⟨w.heap.size + 1, 1, none⟩) zr).trans fr1; have qf2 := (hp2.frozen (p := ⟨w.heap.size + 1, 2, none⟩) zr).trans fr2; have qf3 := (hp2.frozen (p := ⟨w.heap.size + 1, 3, none⟩) zr).trans fr3; have qf4 := (hp2.frozen (p := ⟨w.heap.size + 1, 4, none⟩) zr).trans fr4) | fail)
  have hs10 := hp1.size
  go_wp2
  refine bodyPost_ret (v := agt m.id m.lim m.dr (.slice (some ⟨g1, 0, none⟩) m.c.length m.c.length) (.slice (some ⟨g2, 0, none⟩) m.t.length m.t.length)) (by simp [results, Tryz.results30, go_sem, qr0, qr1, qr2, qr3, qr4]) rfl ⟨_, rfl, ?_, ?_⟩
  · refine InA.mono (a := W0.heap.size) (InA.step (lo := w.heap.size + 1) (hi := w.heap.size + 1 + 1) (w := v2) ⟨_, _, v1.heap.size, rfl, ⟨HK1.out, fun b e => ?_⟩, InRow.of HO2.out, hs10, hs21⟩ (stp_set5v v2 (w.heap.size + 1) _ _ _ _ _) (.inl (by omega))) (by omega) (by rw [set5v_size]; exact Nat.le_refl _)
    exact (HO1.out.lt b e).2
  · exact below_set5v HB2.out (by omega) _ _ _ _ _

end Go.Proofs.YtmkgbmmibjgeaaaGreat

/- Put, on both sides. -/
namespace Go.Proofs.YtmkgbmmibjgeaaaGreat
open Go.ChangeShapes Go.WideShapes Go.ChangeAt Go.RowKit Go.Joins
set_option linter.unusedVariables false
set_option linter.unusedSimpArgs false

theorem appS : AppOk layS 37 95 := ⟨Tryz.underlying37, ⟨_, _, infoSlot, rfl, by decide⟩, by decide, fun a u hu => by
  simp [layS] at hu; rcases hu with rfl | rfl | rfl | rfl | rfl <;> rfl⟩
theorem Stp.cell {lo hi b j : Nat} {w w' : World} {u : Value} (s : Stp lo hi w w') (h : w.cell? ⟨b, j, none⟩ = some u) (hb : b < w.heap.size) (hd : b < lo ∨ hi ≤ b) : w'.cell? ⟨b, j, none⟩ = some u := by
  have := s.block b hb hd
  simp only [World.cell?, this] at h ⊢; exact h
theorem Stp.frozen {lo hi b j : Nat} {w w' : World} (s : Stp lo hi w w') (h : w.frozen? ⟨b, j, none⟩ = false) (hb : b < w.heap.size) (hd : b < lo ∨ hi ≤ b) : w'.frozen? ⟨b, j, none⟩ = false := by
  have := s.block b hb hd
  simp only [World.frozen?, this] at h ⊢; exact h
theorem stp_set5 (W : World) (B k : Nat) (s : Sl) : Stp B (B + 1) W (((((W.setCell ⟨B, k * 5, none⟩ (.bool s.u)).setCell ⟨B, k * 5 + 1, none⟩ (.int .i64 s.a)).setCell ⟨B, k * 5 + 2, none⟩ (.int .i64 s.p)).setCell ⟨B, k * 5 + 3, none⟩ (.int .i64 s.v)).setCell ⟨B, k * 5 + 4, none⟩ (.int .i64 s.t)) :=
  ((((stp_set W B _ _).trans (stp_set _ B _ _)).trans (stp_set _ B _ _)).trans (stp_set _ B _ _)).trans (stp_set _ B _ _)

set_option maxHeartbeats 2000000 in
theorem l5own_any (b off c : Nat) (l : List Sl) (w : World) (hbl : b < w.heap.size) (hc : ∀ i, i < l.length → ∀ j, j < layS.k → w.cell? ⟨b, off + i * layS.k + j, none⟩ = (layS.cs (l.getD i layS.d))[j]?) (hl : l.length ≤ 1048576) :
    Calls Tryz.prog 47 #[tab (.slice (some ⟨b, off, none⟩) l.length c)] w fun e w' => ∃ o' c', e = .returned (tab (.slice o' l.length c')) ∧ ownS w' w.heap.size (.slice o' l.length c') l ∧ Below w.heap.size w w' := by
  have HC := hide hc
  clear hc
  obtain ⟨W0, hW0⟩ : ∃ W, ((w.alloc (.cells #[.slice (some ⟨b, off, none⟩) l.length c] 39)).alloc (.cells #[.slice none 0 0] 39)) = W := ⟨_, rfl⟩
  have hb_W0 : Below w.heap.size w W0 := by rw [← hW0]; exact (((Below.refl _ _).alloc (Nat.le_refl _) _).alloc (by simp <;> omega) _)
  have HB := hide hb_W0
  clear hb_W0
  have zct : w.heap.size < W0.heap.size := by rw [← hW0]; simp <;> omega
  have ct0 : W0.cell? ⟨w.heap.size, 0, none⟩ = some (.slice (some ⟨b, off, none⟩) l.length c) := by rw [← hW0]; simp [go_sem]
  have zcr : w.heap.size + 1 < W0.heap.size := by rw [← hW0]; simp
  have cr0 : W0.cell? ⟨w.heap.size + 1, 0, none⟩ = some (.slice none 0 0) := by rw [← hW0]; simp [go_sem]
  have fcr0 : W0.frozen? ⟨w.heap.size + 1, 0, none⟩ = false := by rw [← hW0]; simp [go_sem]
  have HZ := hide zcr
  have hw00 := HB.out.size
  obtain ⟨W1, hW1⟩ : ∃ W, W0.alloc (.cells #[] 95) = W := ⟨_, rfl⟩
  have F1 : Hid (ownL layS 95 W1 W0.heap.size (.slice (some ⟨W0.heap.size, 0, none⟩) 0 0) []) := by rw [← hW1]; exact own_none0 (L := layS) W0 _
  have hb_W1 : Below W0.heap.size W0 W1 := by rw [← hW1]; exact (Below.refl _ _).alloc (Nat.le_refl _) _
  replace ct0 : W1.cell? ⟨w.heap.size, 0, none⟩ = some (.slice (some ⟨b, off, none⟩) l.length c) := (hb_W1.cell (p := ⟨w.heap.size, 0, none⟩) zct).trans ct0
  replace zct : w.heap.size < W1.heap.size := Nat.lt_of_lt_of_le zct hb_W1.size
  replace cr0 : W1.cell? ⟨w.heap.size + 1, 0, none⟩ = some (.slice none 0 0) := (hb_W1.cell (p := ⟨w.heap.size + 1, 0, none⟩) zcr).trans cr0
  replace fcr0 : W1.frozen? ⟨w.heap.size + 1, 0, none⟩ = false := (hb_W1.frozen (p := ⟨w.heap.size + 1, 0, none⟩) zcr).trans fcr0
  replace zcr : w.heap.size + 1 < W1.heap.size := Nat.lt_of_lt_of_le zcr hb_W1.size
  replace HB := hide (HB.out.trans (hb_W1.mono HB.out.size))
  clear hb_W1
  have hsz1 : W0.heap.size ≤ W1.heap.size := by rw [← hW1]; simp
  have rdl : Hid (RdL layS w.heap.size W1 (some ⟨b, off, none⟩) l) := .inr ⟨b, off, rfl, hbl, fun i hi j hj => (HB.out.cell (p := ⟨b, off + i * layS.k + j, none⟩) hbl).trans (HC.out i hi j hj)⟩
  go_enter Tryz.func47, Tryz.ntmps47
  go_wp2_with (at_builtin; refine wpList_append_lay appS rfl _ _ rfl W0.heap.size _ [] rfl F1.out (some ⟨b, off, none⟩) c w.heap.size l l.length rfl rfl (fun h => by cases h) rdl.out ?c1 ?c2 ?_)
  case c1 => simp; omega
  case c2 => exact hsz1
  intro v2 w2 hv2 hg2 _
  (try rw [List.nil_append] at hv2)
  have hb : Below W0.heap.size W1 w2 := (Below.refl _ _).grown hg2 hsz1 (fun q h => (F1.out.lt q h).1)
  have HO := hide hv2
  obtain ⟨o2, c2, hve, _⟩ := ownL.open (L := layS) hv2
  subst hve
  have cr02 : w2.cell? ⟨w.heap.size + 1, 0, none⟩ = some (.slice none 0 0) := (hb.cell (p := ⟨w.heap.size + 1, 0, none⟩) HZ.out).trans cr0
  have fcr02 : w2.frozen? ⟨w.heap.size + 1, 0, none⟩ = false := (hb.frozen (p := ⟨w.heap.size + 1, 0, none⟩) HZ.out).trans fcr0
  have HB2 := hide (HB.out.trans (hb.mono hw00))
  clear hv2 hg2 hb F1 cr0 fcr0
  go_wp2
  refine bodyPost_ret (v := tab (.slice o2 l.length c2)) (by simp [results, Tryz.results47, go_sem, cr02]) rfl ⟨_, _, rfl, ?_, ?_⟩
  · exact own_mono (ownsRow_setCell_below HO.out (show w.heap.size + 1 < W0.heap.size from HZ.out) _) hw00
  · exact HB2.out.setCell (p := ⟨w.heap.size + 1, 0, none⟩) (by simp) _

theorem putL_no {l : List Sl} {a p v t : Int} (h : (endL l a p).1 < 0) : putL l a p v t = l := by unfold putL; rw [if_neg (by omega)]
theorem putL_yes {l : List Sl} {a p v t : Int} {k : Nat} (h : (endL l a p).1 = (k : Int)) : putL l a p v t = l.set k ⟨true, a, p, v, t⟩ := by unfold putL; rw [if_pos (by omega), h]; simp
/-- Where a way ends: nowhere, or at a slot. -/
theorem endL_place (l : List Sl) (hn : 0 < l.length) (a p : Int) : (endL l a p).1 = -1 ∨ ∃ k, k < l.length ∧ (endL l a p).1 = (k : Int) := by
  rcases endL_cases l hn a p with e | ⟨k, hk, ⟨e, _⟩ | ⟨e, _⟩⟩
  · exact .inl (by rw [e])
  · exact .inr ⟨k, hk, by rw [e]⟩
  · exact .inr ⟨k, hk, by rw [e]⟩
set_option maxHeartbeats 2000000 in
theorem l5putW_any (b off c : Nat) (l : List Sl) (a p v t : Int) (w : World) (hn : 0 < l.length) (hl : l.length ≤ 1048576) (hf : flowOkB a p = true) (hbl : b < w.heap.size) (hc : ∀ i, i < l.length → ∀ j, j < layS.k → w.cell? ⟨b, off + i * layS.k + j, none⟩ = (layS.cs (l.getD i layS.d))[j]?) :
    Calls Tryz.prog 74 #[tab (.slice (some ⟨b, off, none⟩) l.length c), flow a p, .int .i64 v, .int .i64 t] w fun e w' => ∃ b' off' c', e = .returned (.tuple #[tab (.slice (some ⟨b', off', none⟩) l.length c'), .bool (decide (0 ≤ (endL l a p).1))]) ∧ b' < w'.heap.size ∧ (∀ i, i < (putL l a p v t).length → ∀ j, j < layS.k → w'.cell? ⟨b', off' + i * layS.k + j, none⟩ = (layS.cs ((putL l a p v t).getD i layS.d))[j]?) ∧ Below w.heap.size w w' ∧ (b' = b ∨ w.heap.size ≤ b') := by
  have HC := hide hc
  clear hc
  obtain ⟨W0, hW0⟩ : ∃ W, (((w.alloc (.cells #[.slice (some ⟨b, off, none⟩) l.length c] 39)).alloc (.cells #[.int .i64 a, .int .i64 p] 45)).alloc (.cells #[.slice none 0 0] 39)) = W := ⟨_, rfl⟩
  have hb_W0 : Below w.heap.size w W0 := by rw [← hW0]; exact ((((Below.refl _ _).alloc (Nat.le_refl _) _).alloc (by simp <;> omega) _).alloc (by simp <;> omega) _)
  have HB := hide hb_W0
  clear hb_W0
  have zct : w.heap.size < W0.heap.size := by rw [← hW0]; simp <;> omega
  have ct0 : W0.cell? ⟨w.heap.size, 0, none⟩ = some (.slice (some ⟨b, off, none⟩) l.length c) := by rw [← hW0]; simp [go_sem]
  have zcf : w.heap.size + 1 < W0.heap.size := by rw [← hW0]; simp <;> omega
  have cf0 : W0.cell? ⟨w.heap.size + 1, 0, none⟩ = some (.int .i64 a) := by rw [← hW0]; simp [go_sem]
  have cf1 : W0.cell? ⟨w.heap.size + 1, 1, none⟩ = some (.int .i64 p) := by rw [← hW0]; simp [go_sem]
  have zcr : w.heap.size + 1 + 1 < W0.heap.size := by rw [← hW0]; simp
  have cr0 : W0.cell? ⟨w.heap.size + 1 + 1, 0, none⟩ = some (.slice none 0 0) := by rw [← hW0]; simp [go_sem]
  have fcr0 : W0.frozen? ⟨w.heap.size + 1 + 1, 0, none⟩ = false := by rw [← hW0]; simp [go_sem]
  have hat := l5at_any (some ⟨b, off, none⟩) c l a p W0 (.inr ⟨b, off, rfl, Nat.lt_of_lt_of_le hbl HB.out.size, (fun i hi j hj => (HB.out.cell (p := ⟨b, off + i * layS.k + j, none⟩) hbl).trans (HC.out i hi j hj))⟩) hn hl hf
  obtain ⟨E, hE⟩ : ∃ E, endL l a p = E := ⟨_, rfl⟩
  have HZ := hide zcr
  have hw00 := HB.out.size
  rcases endL_place l hn a p with h1 | ⟨k, hk, h1⟩
  · skip
    have HP := hide (putL_no (l := l) (a := a) (p := p) (v := v) (t := t) (by rw [h1]; decide))
    have HD := hide (show decide (0 ≤ (endL l a p).1) = false by rw [h1]; rfl)
    rw [h1] at hat
    generalize (endL l a p).2 = E2 at hat
    clear hE
    go_enter Tryz.func74, Tryz.ntmps74
    go_wp2_with fail
    refine (hat).mono ?_
    rintro e v1 ⟨rfl, hb⟩
    replace ct0 : v1.cell? ⟨w.heap.size, 0, none⟩ = some (.slice (some ⟨b, off, none⟩) l.length c) := (hb.cell (p := ⟨w.heap.size, 0, none⟩) zct).trans ct0
    replace zct : w.heap.size < v1.heap.size := Nat.lt_of_lt_of_le zct hb.size
    replace cf0 : v1.cell? ⟨w.heap.size + 1, 0, none⟩ = some (.int .i64 a) := (hb.cell (p := ⟨w.heap.size + 1, 0, none⟩) zcf).trans cf0
    replace cf1 : v1.cell? ⟨w.heap.size + 1, 1, none⟩ = some (.int .i64 p) := (hb.cell (p := ⟨w.heap.size + 1, 1, none⟩) zcf).trans cf1
    replace zcf : w.heap.size + 1 < v1.heap.size := Nat.lt_of_lt_of_le zcf hb.size
    replace cr0 : v1.cell? ⟨w.heap.size + 1 + 1, 0, none⟩ = some (.slice none 0 0) := (hb.cell (p := ⟨w.heap.size + 1 + 1, 0, none⟩) zcr).trans cr0
    replace fcr0 : v1.frozen? ⟨w.heap.size + 1 + 1, 0, none⟩ = false := (hb.frozen (p := ⟨w.heap.size + 1 + 1, 0, none⟩) zcr).trans fcr0
    replace zcr : w.heap.size + 1 + 1 < v1.heap.size := Nat.lt_of_lt_of_le zcr hb.size
    replace HB := hide (HB.out.trans (hb.mono HB.out.size))
    clear hb
    clear hat
    go_wp2
    refine bodyPost_ret (v := .tuple #[tab (.slice (some ⟨b, off, none⟩) l.length c), .bool false]) (by simp [results, Tryz.results74, go_sem, cr0]) rfl ⟨b, off, c, by rw [HD.out], ?_, ?_, ?_, .inl rfl⟩
    · have := HB.out.size; simp; omega
    · rw [HP.out]
      intro i hi j hj
      have hB2 := HB.out.setCell (p := ⟨w.heap.size + 1 + 1, 0, none⟩) (by simp <;> omega) (.slice (some ⟨b, off, none⟩) l.length c)
      exact (hB2.cell (p := ⟨b, off + i * layS.k + j, none⟩) hbl).trans (HC.out i hi j hj)
    · exact HB.out.setCell (p := ⟨w.heap.size + 1 + 1, 0, none⟩) (by simp <;> omega) _
  · skip
    have HP := hide (putL_yes (l := l) (a := a) (p := p) (v := v) (t := t) h1)
    have HD := hide (show decide (0 ≤ (endL l a p).1) = true by rw [h1]; simp)
    rw [h1] at hat
    generalize (endL l a p).2 = E2 at hat
    clear hE h1
    have hk' : (k : Int) < (l.length : Int) := by omega
    go_enter Tryz.func74, Tryz.ntmps74
    go_wp2_with fail
    refine (hat).mono ?_
    rintro e v1 ⟨rfl, hb⟩
    replace ct0 : v1.cell? ⟨w.heap.size, 0, none⟩ = some (.slice (some ⟨b, off, none⟩) l.length c) := (hb.cell (p := ⟨w.heap.size, 0, none⟩) zct).trans ct0
    replace zct : w.heap.size < v1.heap.size := Nat.lt_of_lt_of_le zct hb.size
    replace cf0 : v1.cell? ⟨w.heap.size + 1, 0, none⟩ = some (.int .i64 a) := (hb.cell (p := ⟨w.heap.size + 1, 0, none⟩) zcf).trans cf0
    replace cf1 : v1.cell? ⟨w.heap.size + 1, 1, none⟩ = some (.int .i64 p) := (hb.cell (p := ⟨w.heap.size + 1, 1, none⟩) zcf).trans cf1
    replace zcf : w.heap.size + 1 < v1.heap.size := Nat.lt_of_lt_of_le zcf hb.size
    replace cr0 : v1.cell? ⟨w.heap.size + 1 + 1, 0, none⟩ = some (.slice none 0 0) := (hb.cell (p := ⟨w.heap.size + 1 + 1, 0, none⟩) zcr).trans cr0
    replace fcr0 : v1.frozen? ⟨w.heap.size + 1 + 1, 0, none⟩ = false := (hb.frozen (p := ⟨w.heap.size + 1 + 1, 0, none⟩) zcr).trans fcr0
    replace zcr : w.heap.size + 1 + 1 < v1.heap.size := Nat.lt_of_lt_of_le zcr hb.size
    replace HB := hide (HB.out.trans (hb.mono HB.out.size))
    clear hb
    go_wp2_with fail
    refine (l5own_any b off c l v1 (Nat.lt_of_lt_of_le hbl HB.out.size) (fun i hi j hj => (HB.out.cell (p := ⟨b, off + i * layS.k + j, none⟩) hbl).trans (HC.out i hi j hj)) hl).mono ?_
    rintro e v2 ⟨o2, c2, rfl, hown, hb⟩
    have HV1 := hide zcr
    obtain ⟨g, c3, hve⟩ : ∃ g c3, Value.slice o2 l.length c2 = .slice (some ⟨g, 0, none⟩) l.length c3 := by
      rcases hown.2 with ⟨_, h0⟩ | ⟨g, c3, _, h0, _⟩
      · exact absurd h0 (by omega)
      · exact ⟨g, c3, h0⟩
    injection hve with hv1 hv2 hv3
    subst hv1 hv3
    have HO := hide hown
    clear hown
    replace ct0 : v2.cell? ⟨w.heap.size, 0, none⟩ = some (.slice (some ⟨b, off, none⟩) l.length c) := (hb.cell (p := ⟨w.heap.size, 0, none⟩) zct).trans ct0
    replace zct : w.heap.size < v2.heap.size := Nat.lt_of_lt_of_le zct hb.size
    replace cf0 : v2.cell? ⟨w.heap.size + 1, 0, none⟩ = some (.int .i64 a) := (hb.cell (p := ⟨w.heap.size + 1, 0, none⟩) zcf).trans cf0
    replace cf1 : v2.cell? ⟨w.heap.size + 1, 1, none⟩ = some (.int .i64 p) := (hb.cell (p := ⟨w.heap.size + 1, 1, none⟩) zcf).trans cf1
    replace zcf : w.heap.size + 1 < v2.heap.size := Nat.lt_of_lt_of_le zcf hb.size
    replace cr0 : v2.cell? ⟨w.heap.size + 1 + 1, 0, none⟩ = some (.slice none 0 0) := (hb.cell (p := ⟨w.heap.size + 1 + 1, 0, none⟩) zcr).trans cr0
    replace fcr0 : v2.frozen? ⟨w.heap.size + 1 + 1, 0, none⟩ = false := (hb.frozen (p := ⟨w.heap.size + 1 + 1, 0, none⟩) zcr).trans fcr0
    replace zcr : w.heap.size + 1 + 1 < v2.heap.size := Nat.lt_of_lt_of_le zcr hb.size
    replace HB := hide (HB.out.trans (hb.mono HB.out.size))
    clear hb
    have HOv := HO
    obtain ⟨W2, hW2⟩ : ∃ W, (v2.alloc (.cells #[.slice (some ⟨g, 0, none⟩) l.length c2] 39)) = W := ⟨_, rfl⟩
    have hb_W2 : Below v2.heap.size v2 W2 := by rw [← hW2]; exact ((Below.refl _ _).alloc (Nat.le_refl _) _)
    replace ct0 : W2.cell? ⟨w.heap.size, 0, none⟩ = some (.slice (some ⟨b, off, none⟩) l.length c) := (hb_W2.cell (p := ⟨w.heap.size, 0, none⟩) zct).trans ct0
    replace zct : w.heap.size < W2.heap.size := Nat.lt_of_lt_of_le zct hb_W2.size
    replace cf0 : W2.cell? ⟨w.heap.size + 1, 0, none⟩ = some (.int .i64 a) := (hb_W2.cell (p := ⟨w.heap.size + 1, 0, none⟩) zcf).trans cf0
    replace cf1 : W2.cell? ⟨w.heap.size + 1, 1, none⟩ = some (.int .i64 p) := (hb_W2.cell (p := ⟨w.heap.size + 1, 1, none⟩) zcf).trans cf1
    replace zcf : w.heap.size + 1 < W2.heap.size := Nat.lt_of_lt_of_le zcf hb_W2.size
    replace cr0 : W2.cell? ⟨w.heap.size + 1 + 1, 0, none⟩ = some (.slice none 0 0) := (hb_W2.cell (p := ⟨w.heap.size + 1 + 1, 0, none⟩) zcr).trans cr0
    replace fcr0 : W2.frozen? ⟨w.heap.size + 1 + 1, 0, none⟩ = false := (hb_W2.frozen (p := ⟨w.heap.size + 1 + 1, 0, none⟩) zcr).trans fcr0
    replace zcr : w.heap.size + 1 + 1 < W2.heap.size := Nat.lt_of_lt_of_le zcr hb_W2.size
    replace HO := hide (own_kept HO.out hb_W2)
    replace HB := hide (HB.out.trans (hb_W2.mono HB.out.size))
    clear hb_W2
    have zco : v2.heap.size < W2.heap.size := by rw [← hW2]; simp
    have co0 : W2.cell? ⟨v2.heap.size, 0, none⟩ = some (.slice (some ⟨g, 0, none⟩) l.length c2) := by rw [← hW2]; simp [go_sem]
    have hgb := (HO.out.lt g rfl)
    have ho : W2.ownsRow v1.heap.size 95 5 (.slice (some ⟨g, 0, none⟩) l.length c2) l.length (l.flatMap layS.cs) := HO.out
    have hln : (l.flatMap layS.cs).length = l.length * 5 := by rw [flat_length]; rfl
    obtain ⟨u0, hu0⟩ : ∃ u, W2.cell? ⟨g, k * 5, none⟩ = some u := ⟨_, (ho.cellAt (k * 5) (by omega)).trans (List.getElem?_eq_getElem (by omega))⟩
    have hf0 := ho.frozenAt (k * 5)
    obtain ⟨u1, hu1⟩ : ∃ u, W2.cell? ⟨g, k * 5 + 1, none⟩ = some u := ⟨_, (ho.cellAt (k * 5 + 1) (by omega)).trans (List.getElem?_eq_getElem (by omega))⟩
    have hf1 := ho.frozenAt (k * 5 + 1)
    obtain ⟨u2, hu2⟩ : ∃ u, W2.cell? ⟨g, k * 5 + 2, none⟩ = some u := ⟨_, (ho.cellAt (k * 5 + 2) (by omega)).trans (List.getElem?_eq_getElem (by omega))⟩
    have hf2 := ho.frozenAt (k * 5 + 2)
    obtain ⟨u3, hu3⟩ : ∃ u, W2.cell? ⟨g, k * 5 + 3, none⟩ = some u := ⟨_, (ho.cellAt (k * 5 + 3) (by omega)).trans (List.getElem?_eq_getElem (by omega))⟩
    have hf3 := ho.frozenAt (k * 5 + 3)
    obtain ⟨u4, hu4⟩ : ∃ u, W2.cell? ⟨g, k * 5 + 4, none⟩ = some u := ⟨_, (ho.cellAt (k * 5 + 4) (by omega)).trans (List.getElem?_eq_getElem (by omega))⟩
    have hf4 := ho.frozenAt (k * 5 + 4)
    have HS := hide (stored5 (k := k) ⟨true, a, p, v, t⟩ (Nat.le_refl g) ho (Below.refl g W2))
    have HSt := hide (stp_set5 W2 g k ⟨true, a, p, v, t⟩)
    clear ho hln hat
    obtain ⟨W3, hW3⟩ : ∃ W, ((((W2.setCell ⟨g, k * 5, none⟩ (.bool true)).setCell ⟨g, k * 5 + 1, none⟩ (.int .i64 a)).setCell ⟨g, k * 5 + 2, none⟩ (.int .i64 p)).setCell ⟨g, k * 5 + 3, none⟩ (.int .i64 v)).setCell ⟨g, k * 5 + 4, none⟩ (.int .i64 t) = W := ⟨_, rfl⟩
    have HS3 : Hid (W3.ownsRow v1.heap.size 95 5 (.slice (some ⟨g, 0, none⟩) l.length c2) l.length ((l.set k ⟨true, a, p, v, t⟩).flatMap layS.cs)) := by rw [← hW3]; exact HS.out.1
    have HSt3 : Hid (Stp g (g + 1) W2 W3) := by rw [← hW3]; exact HSt.out
    have hgv : v1.heap.size ≤ g := hgb.1
    have hzo : g + 1 ≤ v2.heap.size := by have h := (HOv.out.lt g rfl).2; omega
    have co3 := HSt3.out.cell co0 zco (.inr hzo)
    have cr3 := HSt3.out.cell cr0 zcr (.inl (show w.heap.size + 1 + 1 < g from Nat.lt_of_lt_of_le HV1.out hgv))
    have fcr3 := HSt3.out.frozen fcr0 zcr (.inl (show w.heap.size + 1 + 1 < g from Nat.lt_of_lt_of_le HV1.out hgv))
    have hB3 : Hid (Below w.heap.size W2 W3) := HSt3.out.below (by have := HV1.out; omega) (by have := HV1.out; omega)
    have hwv : w.heap.size ≤ v1.heap.size := by have := HV1.out; omega
    clear cr0 fcr0 HS HSt
    go_wp2
    refine bodyPost_ret (v := .tuple #[tab (.slice (some ⟨g, 0, none⟩) l.length c2), .bool true]) (by simp [results, Tryz.results74, go_sem, cr3]) rfl ⟨g, 0, c2, by rw [HD.out], ?_, ?_, ?_, .inr (by have h1 := (HS3.out.lt g rfl).1; have h2 := HV1.out; omega)⟩
    · have h := (HS3.out.lt g rfl).2; simpa using h
    · rw [HP.out]
      have h := ownsRow_setCell_below HS3.out (a := ⟨w.heap.size + 1 + 1, 0, none⟩) (show w.heap.size + 1 + 1 < v1.heap.size from HV1.out) (.slice (some ⟨g, 0, none⟩) l.length c2)
      exact rd_of_own h (by simp)
    · exact (HB.out.trans hB3.out).setCell (p := ⟨w.heap.size + 1 + 1, 0, none⟩) (by simp <;> omega) _

theorem l5put_any (b off c : Nat) (l : List Sl) (a p v t : Int) (w : World) (hn : 0 < l.length) (hl : l.length ≤ 1048576) (hf : flowOkB a p = true) (hbl : b < w.heap.size) (hc : ∀ i, i < l.length → ∀ j, j < layS.k → w.cell? ⟨b, off + i * layS.k + j, none⟩ = (layS.cs (l.getD i layS.d))[j]?) :
    Calls Tryz.prog 74 #[tab (.slice (some ⟨b, off, none⟩) l.length c), flow a p, .int .i64 v, .int .i64 t] w fun e w' => ∃ b' off' c', e = .returned (.tuple #[tab (.slice (some ⟨b', off', none⟩) l.length c'), .bool (decide (0 ≤ (endL l a p).1))]) ∧ b' < w'.heap.size ∧ (∀ i, i < (putL l a p v t).length → ∀ j, j < layS.k → w'.cell? ⟨b', off' + i * layS.k + j, none⟩ = (layS.cs ((putL l a p v t).getD i layS.d))[j]?) ∧ Below w.heap.size w w' := by
  refine (l5putW_any b off c l a p v t w hn hl hf hbl hc).mono ?_
  rintro e w' ⟨b', off', c', h1, h2, h3, h4, _⟩
  exact ⟨b', off', c', h1, h2, h3, h4⟩

end Go.Proofs.YtmkgbmmibjgeaaaGreat

/- An agent's own copy in the model; DrainIt and Load, on both sides. -/
namespace Go.Proofs.YtmkgbmmibjgeaaaGreat
open Go.ChangeShapes Go.WideShapes Go.ChangeAt Go.RowKit Go.Joins
set_option linter.unusedVariables false
set_option linter.unusedSimpArgs false

set_option maxHeartbeats 4000000 in
theorem l6own_any (v : Value) (m : Am) (w : World) (hR : RdA w.heap.size w v m) (hc0 : 0 < m.c.length) (ht0 : 0 < m.t.length) (hf : m.c.length + m.t.length ≤ 1048576) :
    Calls Tryz.prog 22 #[v] w fun e w' => ∃ v', e = .returned v' ∧ InA w.heap.size w'.heap.size w' v' m ∧ Below w.heap.size w w' := by
  obtain ⟨vc, vt, rfl, ⟨oc, cc, rfl, rc⟩, ⟨ot, ct, rfl, rt⟩⟩ := hR
  rcases rc with hrc | ⟨bc, fc, rfl, hbc, hcc⟩
  · rw [hrc] at hc0; simp at hc0
  rcases rt with hrt | ⟨bt, ft, rfl, hbt, hct⟩
  · rw [hrt] at ht0; simp at ht0
  have HC := hide hcc
  have HT := hide hct
  clear hcc hct
  obtain ⟨W0, hW0⟩ : ∃ W, ((w.alloc (.cells #[.int .i64 m.id, .int .i64 m.lim, .bool m.dr, .slice (some ⟨bc, fc, none⟩) m.c.length cc, .slice (some ⟨bt, ft, none⟩) m.t.length ct] 41)).alloc (.cells #[.int .i64 0, .int .i64 0, .bool false, .slice none 0 0, .slice none 0 0] 41)) = W := ⟨_, rfl⟩
  have hb_W0 : Below w.heap.size w W0 := by rw [← hW0]; exact (((Below.refl _ _).alloc (Nat.le_refl _) _).alloc (by simp <;> omega) _)
  have HB := hide hb_W0
  clear hb_W0
  have zz : w.heap.size < W0.heap.size := by rw [← hW0]; simp <;> omega
  have z0 : W0.cell? ⟨w.heap.size, 0, none⟩ = some (.int .i64 m.id) := by rw [← hW0]; simp [go_sem]
  have z1 : W0.cell? ⟨w.heap.size, 1, none⟩ = some (.int .i64 m.lim) := by rw [← hW0]; simp [go_sem]
  have z2 : W0.cell? ⟨w.heap.size, 2, none⟩ = some (.bool m.dr) := by rw [← hW0]; simp [go_sem]
  have z3 : W0.cell? ⟨w.heap.size, 3, none⟩ = some (.slice (some ⟨bc, fc, none⟩) m.c.length cc) := by rw [← hW0]; simp [go_sem]
  have z4 : W0.cell? ⟨w.heap.size, 4, none⟩ = some (.slice (some ⟨bt, ft, none⟩) m.t.length ct) := by rw [← hW0]; simp [go_sem]
  have fz0 : W0.frozen? ⟨w.heap.size, 0, none⟩ = false := by rw [← hW0]; simp [go_sem]
  have fz1 : W0.frozen? ⟨w.heap.size, 1, none⟩ = false := by rw [← hW0]; simp [go_sem]
  have fz2 : W0.frozen? ⟨w.heap.size, 2, none⟩ = false := by rw [← hW0]; simp [go_sem]
  have fz3 : W0.frozen? ⟨w.heap.size, 3, none⟩ = false := by rw [← hW0]; simp [go_sem]
  have fz4 : W0.frozen? ⟨w.heap.size, 4, none⟩ = false := by rw [← hW0]; simp [go_sem]
  have zr : w.heap.size + 1 < W0.heap.size := by rw [← hW0]; simp
  have r0 : W0.cell? ⟨w.heap.size + 1, 0, none⟩ = some (.int .i64 0) := by rw [← hW0]; simp [go_sem]
  have r1 : W0.cell? ⟨w.heap.size + 1, 1, none⟩ = some (.int .i64 0) := by rw [← hW0]; simp [go_sem]
  have r2 : W0.cell? ⟨w.heap.size + 1, 2, none⟩ = some (.bool false) := by rw [← hW0]; simp [go_sem]
  have r3 : W0.cell? ⟨w.heap.size + 1, 3, none⟩ = some (.slice none 0 0) := by rw [← hW0]; simp [go_sem]
  have r4 : W0.cell? ⟨w.heap.size + 1, 4, none⟩ = some (.slice none 0 0) := by rw [← hW0]; simp [go_sem]
  have fr0 : W0.frozen? ⟨w.heap.size + 1, 0, none⟩ = false := by rw [← hW0]; simp [go_sem]
  have fr1 : W0.frozen? ⟨w.heap.size + 1, 1, none⟩ = false := by rw [← hW0]; simp [go_sem]
  have fr2 : W0.frozen? ⟨w.heap.size + 1, 2, none⟩ = false := by rw [← hW0]; simp [go_sem]
  have fr3 : W0.frozen? ⟨w.heap.size + 1, 3, none⟩ = false := by rw [← hW0]; simp [go_sem]
  have fr4 : W0.frozen? ⟨w.heap.size + 1, 4, none⟩ = false := by rw [← hW0]; simp [go_sem]
  have h1 := fun W (hb : Below w.heap.size w W) => l5own_any bc fc cc m.c W (Nat.lt_of_lt_of_le hbc hb.size) (fun i hi j hj => (hb.cell (p := ⟨bc, fc + i * layS.k + j, none⟩) hbc).trans (HC.out i hi j hj)) (by omega)
  have h2 := fun W (hb : Below w.heap.size w W) => l5own_any bt ft ct m.t W (Nat.lt_of_lt_of_le hbt hb.size) (fun i hi j hj => (hb.cell (p := ⟨bt, ft + i * layS.k + j, none⟩) hbt).trans (HT.out i hi j hj)) (by omega)
  have H1 := hide h1
  have H2 := hide h2
  clear h1 h2
  have hz0 := zr
  go_enter Tryz.func22, Tryz.ntmps22
  go_wp2_with fail
  refine (H1.out W0 HB.out).mono ?_
  rintro e v1 ⟨p1, c1, rfl, hown, hb⟩
  have HI : Hid (InS W0.heap.size v1.heap.size v1 (.slice p1 m.c.length c1) m.c) := InRow.of hown
  have hs1 := hb.size
  clear hown
  replace z0 : v1.cell? ⟨w.heap.size, 0, none⟩ = some (.int .i64 m.id) := (hb.cell (p := ⟨w.heap.size, 0, none⟩) zz).trans z0
  replace z1 : v1.cell? ⟨w.heap.size, 1, none⟩ = some (.int .i64 m.lim) := (hb.cell (p := ⟨w.heap.size, 1, none⟩) zz).trans z1
  replace z2 : v1.cell? ⟨w.heap.size, 2, none⟩ = some (.bool m.dr) := (hb.cell (p := ⟨w.heap.size, 2, none⟩) zz).trans z2
  replace z3 : v1.cell? ⟨w.heap.size, 3, none⟩ = some (.slice (some ⟨bc, fc, none⟩) m.c.length cc) := (hb.cell (p := ⟨w.heap.size, 3, none⟩) zz).trans z3
  replace z4 : v1.cell? ⟨w.heap.size, 4, none⟩ = some (.slice (some ⟨bt, ft, none⟩) m.t.length ct) := (hb.cell (p := ⟨w.heap.size, 4, none⟩) zz).trans z4
  replace fz0 : v1.frozen? ⟨w.heap.size, 0, none⟩ = false := (hb.frozen (p := ⟨w.heap.size, 0, none⟩) zz).trans fz0
  replace fz1 : v1.frozen? ⟨w.heap.size, 1, none⟩ = false := (hb.frozen (p := ⟨w.heap.size, 1, none⟩) zz).trans fz1
  replace fz2 : v1.frozen? ⟨w.heap.size, 2, none⟩ = false := (hb.frozen (p := ⟨w.heap.size, 2, none⟩) zz).trans fz2
  replace fz3 : v1.frozen? ⟨w.heap.size, 3, none⟩ = false := (hb.frozen (p := ⟨w.heap.size, 3, none⟩) zz).trans fz3
  replace fz4 : v1.frozen? ⟨w.heap.size, 4, none⟩ = false := (hb.frozen (p := ⟨w.heap.size, 4, none⟩) zz).trans fz4
  replace zz : w.heap.size < v1.heap.size := Nat.lt_of_lt_of_le zz hb.size
  replace r0 : v1.cell? ⟨w.heap.size + 1, 0, none⟩ = some (.int .i64 0) := (hb.cell (p := ⟨w.heap.size + 1, 0, none⟩) zr).trans r0
  replace r1 : v1.cell? ⟨w.heap.size + 1, 1, none⟩ = some (.int .i64 0) := (hb.cell (p := ⟨w.heap.size + 1, 1, none⟩) zr).trans r1
  replace r2 : v1.cell? ⟨w.heap.size + 1, 2, none⟩ = some (.bool false) := (hb.cell (p := ⟨w.heap.size + 1, 2, none⟩) zr).trans r2
  replace r3 : v1.cell? ⟨w.heap.size + 1, 3, none⟩ = some (.slice none 0 0) := (hb.cell (p := ⟨w.heap.size + 1, 3, none⟩) zr).trans r3
  replace r4 : v1.cell? ⟨w.heap.size + 1, 4, none⟩ = some (.slice none 0 0) := (hb.cell (p := ⟨w.heap.size + 1, 4, none⟩) zr).trans r4
  replace fr0 : v1.frozen? ⟨w.heap.size + 1, 0, none⟩ = false := (hb.frozen (p := ⟨w.heap.size + 1, 0, none⟩) zr).trans fr0
  replace fr1 : v1.frozen? ⟨w.heap.size + 1, 1, none⟩ = false := (hb.frozen (p := ⟨w.heap.size + 1, 1, none⟩) zr).trans fr1
  replace fr2 : v1.frozen? ⟨w.heap.size + 1, 2, none⟩ = false := (hb.frozen (p := ⟨w.heap.size + 1, 2, none⟩) zr).trans fr2
  replace fr3 : v1.frozen? ⟨w.heap.size + 1, 3, none⟩ = false := (hb.frozen (p := ⟨w.heap.size + 1, 3, none⟩) zr).trans fr3
  replace fr4 : v1.frozen? ⟨w.heap.size + 1, 4, none⟩ = false := (hb.frozen (p := ⟨w.heap.size + 1, 4, none⟩) zr).trans fr4
  replace zr : w.heap.size + 1 < v1.heap.size := Nat.lt_of_lt_of_le zr hb.size
  replace HB := hide (HB.out.trans (hb.mono HB.out.size))
  clear hb
  clear hW0
  go_wp2_with fail
  obtain ⟨W2, hW2⟩ : ∃ W, (v1.setCell ⟨w.heap.size, 3, none⟩ (.slice p1 m.c.length c1)) = W := ⟨_, rfl⟩
  have hst : Stp (w.heap.size) (w.heap.size + 1) v1 W2 := by rw [← hW2]; exact stp_set1 v1 (w.heap.size) 3 _
  rw [hW2]
  have z0' : W2.cell? ⟨w.heap.size, 0, none⟩ = some (.int .i64 m.id) := by rw [← hW2]; simp [go_sem, z0, z1, z2, z3, z4]
  have fz0' : W2.frozen? ⟨w.heap.size, 0, none⟩ = false := by rw [← hW2]; simp [go_sem, fz0, fz1, fz2, fz3, fz4]
  have z1' : W2.cell? ⟨w.heap.size, 1, none⟩ = some (.int .i64 m.lim) := by rw [← hW2]; simp [go_sem, z0, z1, z2, z3, z4]
  have fz1' : W2.frozen? ⟨w.heap.size, 1, none⟩ = false := by rw [← hW2]; simp [go_sem, fz0, fz1, fz2, fz3, fz4]
  have z2' : W2.cell? ⟨w.heap.size, 2, none⟩ = some (.bool m.dr) := by rw [← hW2]; simp [go_sem, z0, z1, z2, z3, z4]
  have fz2' : W2.frozen? ⟨w.heap.size, 2, none⟩ = false := by rw [← hW2]; simp [go_sem, fz0, fz1, fz2, fz3, fz4]
  have z3' : W2.cell? ⟨w.heap.size, 3, none⟩ = some (.slice p1 m.c.length c1) := by rw [← hW2]; simp [go_sem, z0, z1, z2, z3, z4]
  have fz3' : W2.frozen? ⟨w.heap.size, 3, none⟩ = false := by rw [← hW2]; simp [go_sem, fz0, fz1, fz2, fz3, fz4]
  have z4' : W2.cell? ⟨w.heap.size, 4, none⟩ = some (.slice (some ⟨bt, ft, none⟩) m.t.length ct) := by rw [← hW2]; simp [go_sem, z0, z1, z2, z3, z4]
  have fz4' : W2.frozen? ⟨w.heap.size, 4, none⟩ = false := by rw [← hW2]; simp [go_sem, fz0, fz1, fz2, fz3, fz4]
  replace z0 := z0'
  replace fz0 := fz0'
  replace z1 := z1'
  replace fz1 := fz1'
  replace z2 := z2'
  replace fz2 := fz2'
  replace z3 := z3'
  replace fz3 := fz3'
  replace z4 := z4'
  replace fz4 := fz4'
  replace zz : w.heap.size < W2.heap.size := Nat.lt_of_lt_of_le zz hst.size
  replace r0 : W2.cell? ⟨w.heap.size + 1, 0, none⟩ = some (.int .i64 0) := hst.cell r0 zr (by omega)
  replace r1 : W2.cell? ⟨w.heap.size + 1, 1, none⟩ = some (.int .i64 0) := hst.cell r1 zr (by omega)
  replace r2 : W2.cell? ⟨w.heap.size + 1, 2, none⟩ = some (.bool false) := hst.cell r2 zr (by omega)
  replace r3 : W2.cell? ⟨w.heap.size + 1, 3, none⟩ = some (.slice none 0 0) := hst.cell r3 zr (by omega)
  replace r4 : W2.cell? ⟨w.heap.size + 1, 4, none⟩ = some (.slice none 0 0) := hst.cell r4 zr (by omega)
  replace fr0 : W2.frozen? ⟨w.heap.size + 1, 0, none⟩ = false := hst.frozen fr0 zr (by omega)
  replace fr1 : W2.frozen? ⟨w.heap.size + 1, 1, none⟩ = false := hst.frozen fr1 zr (by omega)
  replace fr2 : W2.frozen? ⟨w.heap.size + 1, 2, none⟩ = false := hst.frozen fr2 zr (by omega)
  replace fr3 : W2.frozen? ⟨w.heap.size + 1, 3, none⟩ = false := hst.frozen fr3 zr (by omega)
  replace fr4 : W2.frozen? ⟨w.heap.size + 1, 4, none⟩ = false := hst.frozen fr4 zr (by omega)
  replace zr : w.heap.size + 1 < W2.heap.size := Nat.lt_of_lt_of_le zr hst.size
  replace HI := hide (InRow.step HI.out hst (.inl (by omega)))
  have hs2 := hst.size
  replace HB := hide (HB.out.trans (hst.below (by omega) HB.out.size))
  clear hst
  refine (H2.out W2 HB.out).mono ?_
  rintro e v2 ⟨p2, c2, rfl, hown, hb⟩
  have HJ : Hid (InS W2.heap.size v2.heap.size v2 (.slice p2 m.t.length c2) m.t) := InRow.of hown
  replace HI := hide (InRow.step HI.out (Stp.of (lo := 0) (hi := 0) hb) (.inl (Nat.zero_le _)))
  have hs3 := hb.size
  clear hown
  replace z0 : v2.cell? ⟨w.heap.size, 0, none⟩ = some (.int .i64 m.id) := (hb.cell (p := ⟨w.heap.size, 0, none⟩) zz).trans z0
  replace z1 : v2.cell? ⟨w.heap.size, 1, none⟩ = some (.int .i64 m.lim) := (hb.cell (p := ⟨w.heap.size, 1, none⟩) zz).trans z1
  replace z2 : v2.cell? ⟨w.heap.size, 2, none⟩ = some (.bool m.dr) := (hb.cell (p := ⟨w.heap.size, 2, none⟩) zz).trans z2
  replace z3 : v2.cell? ⟨w.heap.size, 3, none⟩ = some (.slice p1 m.c.length c1) := (hb.cell (p := ⟨w.heap.size, 3, none⟩) zz).trans z3
  replace z4 : v2.cell? ⟨w.heap.size, 4, none⟩ = some (.slice (some ⟨bt, ft, none⟩) m.t.length ct) := (hb.cell (p := ⟨w.heap.size, 4, none⟩) zz).trans z4
  replace fz0 : v2.frozen? ⟨w.heap.size, 0, none⟩ = false := (hb.frozen (p := ⟨w.heap.size, 0, none⟩) zz).trans fz0
  replace fz1 : v2.frozen? ⟨w.heap.size, 1, none⟩ = false := (hb.frozen (p := ⟨w.heap.size, 1, none⟩) zz).trans fz1
  replace fz2 : v2.frozen? ⟨w.heap.size, 2, none⟩ = false := (hb.frozen (p := ⟨w.heap.size, 2, none⟩) zz).trans fz2
  replace fz3 : v2.frozen? ⟨w.heap.size, 3, none⟩ = false := (hb.frozen (p := ⟨w.heap.size, 3, none⟩) zz).trans fz3
  replace fz4 : v2.frozen? ⟨w.heap.size, 4, none⟩ = false := (hb.frozen (p := ⟨w.heap.size, 4, none⟩) zz).trans fz4
  replace zz : w.heap.size < v2.heap.size := Nat.lt_of_lt_of_le zz hb.size
  replace r0 : v2.cell? ⟨w.heap.size + 1, 0, none⟩ = some (.int .i64 0) := (hb.cell (p := ⟨w.heap.size + 1, 0, none⟩) zr).trans r0
  replace r1 : v2.cell? ⟨w.heap.size + 1, 1, none⟩ = some (.int .i64 0) := (hb.cell (p := ⟨w.heap.size + 1, 1, none⟩) zr).trans r1
  replace r2 : v2.cell? ⟨w.heap.size + 1, 2, none⟩ = some (.bool false) := (hb.cell (p := ⟨w.heap.size + 1, 2, none⟩) zr).trans r2
  replace r3 : v2.cell? ⟨w.heap.size + 1, 3, none⟩ = some (.slice none 0 0) := (hb.cell (p := ⟨w.heap.size + 1, 3, none⟩) zr).trans r3
  replace r4 : v2.cell? ⟨w.heap.size + 1, 4, none⟩ = some (.slice none 0 0) := (hb.cell (p := ⟨w.heap.size + 1, 4, none⟩) zr).trans r4
  replace fr0 : v2.frozen? ⟨w.heap.size + 1, 0, none⟩ = false := (hb.frozen (p := ⟨w.heap.size + 1, 0, none⟩) zr).trans fr0
  replace fr1 : v2.frozen? ⟨w.heap.size + 1, 1, none⟩ = false := (hb.frozen (p := ⟨w.heap.size + 1, 1, none⟩) zr).trans fr1
  replace fr2 : v2.frozen? ⟨w.heap.size + 1, 2, none⟩ = false := (hb.frozen (p := ⟨w.heap.size + 1, 2, none⟩) zr).trans fr2
  replace fr3 : v2.frozen? ⟨w.heap.size + 1, 3, none⟩ = false := (hb.frozen (p := ⟨w.heap.size + 1, 3, none⟩) zr).trans fr3
  replace fr4 : v2.frozen? ⟨w.heap.size + 1, 4, none⟩ = false := (hb.frozen (p := ⟨w.heap.size + 1, 4, none⟩) zr).trans fr4
  replace zr : w.heap.size + 1 < v2.heap.size := Nat.lt_of_lt_of_le zr hb.size
  replace HB := hide (HB.out.trans (hb.mono HB.out.size))
  clear hb
  clear hW2
  go_wp2
  refine bodyPost_ret (v := agt m.id m.lim m.dr (.slice p1 m.c.length c1) (.slice p2 m.t.length c2)) (by simp [results, Tryz.results22, go_sem, r0, r1, r2, r3, r4]) rfl ⟨_, rfl, ?_, ?_⟩
  · have a1 := InRow.step (InRow.step HI.out (stp_set1 v2 w.heap.size 4 (.slice p2 m.t.length c2)) (.inl (by omega))) (stp_set5v _ (w.heap.size + 1) (.int .i64 m.id) (.int .i64 m.lim) (.bool m.dr) (.slice p1 m.c.length c1) (.slice p2 m.t.length c2)) (.inl (by omega))
    have a2 := InRow.step (InRow.step HJ.out (stp_set1 v2 w.heap.size 4 (.slice p2 m.t.length c2)) (.inl (by omega))) (stp_set5v _ (w.heap.size + 1) (.int .i64 m.id) (.int .i64 m.lim) (.bool m.dr) (.slice p1 m.c.length c1) (.slice p2 m.t.length c2)) (.inl (by omega))
    exact ⟨_, _, W2.heap.size, rfl, InRow.mono a1 (by omega) (by omega), InRow.mono a2 (Nat.le_refl _) (by simp), by omega, by simp; omega⟩
  · exact below_set5v (HB.out.setCell (p := ⟨w.heap.size, 4, none⟩) (Nat.le_refl _) _) (by omega) _ _ _ _ _

def am0 : Am := ⟨0, 0, false, [], []⟩
/-- What DrainIt tells. -/
def drainM (m : Am) : Am := if agentOkB m = true then { m with dr := true } else am0
def loadB (m : Am) (x : Int) : Bool := agentOkB m && (decide (0 ≤ x) && decide (x ≤ 16))
def loadM (m : Am) (x : Int) : Am := if loadB m x = true then { m with lim := x } else am0
theorem drainM_fit {m : Am} (h : m.c.length + m.t.length ≤ 1048576) : (drainM m).c.length + (drainM m).t.length ≤ 1048576 := by
  unfold drainM
  split
  · exact h
  · decide
theorem loadM_fit {m : Am} (x : Int) (h : m.c.length + m.t.length ≤ 1048576) : (loadM m x).c.length + (loadM m x).t.length ≤ 1048576 := by
  unfold loadM
  split
  · exact h
  · decide
theorem am0_in {lo hi : Nat} {w : World} (h : lo ≤ hi) : InA lo hi w (agt 0 0 false (.slice none 0 0) (.slice none 0 0)) am0 :=
  ⟨_, _, lo, rfl, ⟨World.ownsRow_nil _ _ _ _, fun b e => by cases e⟩, ⟨World.ownsRow_nil _ _ _ _, fun b e => by cases e⟩, Nat.le_refl _, h⟩
theorem agent_pos {m : Am} (h : agentOkB m = true) : 0 < m.c.length ∧ 0 < m.t.length := by
  have h := agentOkB_parts.1 h
  have h1 := (tableOkB_iff.1 h.2.2.2.2.1).1
  have h2 := (tableOkB_iff.1 h.2.2.2.2.2.1).1
  omega

end Go.Proofs.YtmkgbmmibjgeaaaGreat

/- Put, the model's and the program's. -/
namespace Go.Proofs.YtmkgbmmibjgeaaaGreat
open Go.ChangeShapes Go.WideShapes Go.ChangeAt Go.RowKit Go.Joins
set_option linter.unusedVariables false
set_option linter.unusedSimpArgs false

def putOk (l : List Sl) (a p v t : Int) : Bool := tableOkB l && flowOkB a p && leaseB v t
def putM (l : List Sl) (a p v t : Int) : List Sl := if putOk l a p v t = true then putL l a p v t else []
def putB (l : List Sl) (a p v t : Int) : Bool := if putOk l a p v t = true then decide (0 ≤ (endL l a p).1) else false
theorem putM_len (l : List Sl) (a p v t : Int) : (putM l a p v t).length ≤ 16 := by
  unfold putM
  split
  · next h =>
    rw [putL_length]
    simp [putOk] at h
    exact (tableOkB_iff.1 h.1.1).2.1
  · exact Nat.zero_le _
theorem rd_nonnil {C : Nat} {w : World} {o : Option Addr} {l : List Sl} (h : RdS C w o l) (hn : 0 < l.length) : ∃ b off, o = some ⟨b, off, none⟩ ∧ b < C ∧ ∀ i, i < l.length → ∀ j, j < layS.k → w.cell? ⟨b, off + i * layS.k + j, none⟩ = (layS.cs (l.getD i layS.d))[j]? := by
  rcases h with h | ⟨b, off, rfl, hb, hc⟩
  · subst h; simp at hn
  · exact ⟨b, off, rfl, hb, hc⟩
set_option maxHeartbeats 2000000 in
theorem put_any (g c base : Nat) (l : List Sl) (a p v t : Int) (w : World) (hn : 0 < l.length) (hl : l.length ≤ 1048576) (hf : flowOkB a p = true) (ho : w.ownsRow base CellT 5 (.slice (some ⟨g, 0, none⟩) l.length c) l.length (l.flatMap layS.cs)) :
    Calls Tryz.prog 107 #[tab (.slice (some ⟨g, 0, none⟩) l.length c), flow a p, leaseV v t] w fun e w' => e = .returned (.bool (decide (0 ≤ (endL l a p).1))) ∧ w'.ownsRow base CellT 5 (.slice (some ⟨g, 0, none⟩) l.length c) l.length ((putL l a p v t).flatMap layS.cs) ∧ Stp g (g + 1) w w' := by
  have HO := hide ho
  have hgw := (ho.lt g rfl).2
  clear ho
  obtain ⟨W0, hW0⟩ : ∃ W, (((w.alloc (.cells #[.slice (some ⟨g, 0, none⟩) l.length c] 69)).alloc (.cells #[.int .i64 a, .int .i64 p] 45)).alloc (.cells #[.int .i64 v, .int .i64 t] 130)) = W := ⟨_, rfl⟩
  have hb_W0 : Below w.heap.size w W0 := by rw [← hW0]; exact ((((Below.refl _ _).alloc (Nat.le_refl _) _).alloc (by simp <;> omega) _).alloc (by simp <;> omega) _)
  replace HO := hide (own_kept HO.out hb_W0)
  have HB := hide hb_W0
  clear hb_W0
  have zct : w.heap.size < W0.heap.size := by rw [← hW0]; simp <;> omega
  have ct0 : W0.cell? ⟨w.heap.size, 0, none⟩ = some (.slice (some ⟨g, 0, none⟩) l.length c) := by rw [← hW0]; simp [go_sem]
  have zcf : w.heap.size + 1 < W0.heap.size := by rw [← hW0]; simp <;> omega
  have cf0 : W0.cell? ⟨w.heap.size + 1, 0, none⟩ = some (.int .i64 a) := by rw [← hW0]; simp [go_sem]
  have cf1 : W0.cell? ⟨w.heap.size + 1, 1, none⟩ = some (.int .i64 p) := by rw [← hW0]; simp [go_sem]
  have zcl : w.heap.size + 1 + 1 < W0.heap.size := by rw [← hW0]; simp
  have cl0 : W0.cell? ⟨w.heap.size + 1 + 1, 0, none⟩ = some (.int .i64 v) := by rw [← hW0]; simp [go_sem]
  have cl1 : W0.cell? ⟨w.heap.size + 1 + 1, 1, none⟩ = some (.int .i64 t) := by rw [← hW0]; simp [go_sem]
  have hat := endOfWay_any g 0 c l a p W0 hn hl hf (HO.out.lt g rfl).2 (rd_of_own HO.out rfl)
  rcases endL_place l hn a p with h1 | ⟨k, hk, h1⟩
  · skip
    have HP := hide (putL_no (l := l) (a := a) (p := p) (v := v) (t := t) (by rw [h1]; decide))
    have HD := hide (show decide (0 ≤ (endL l a p).1) = false by rw [h1]; rfl)
    rw [h1] at hat
    generalize (endL l a p).2 = E2 at hat
    clear h1
    go_enter Tryz.func107, Tryz.ntmps107
    go_wp2_with fail
    refine (hat).mono ?_
    rintro e v1 ⟨rfl, hb⟩
    replace ct0 : v1.cell? ⟨w.heap.size, 0, none⟩ = some (.slice (some ⟨g, 0, none⟩) l.length c) := (hb.cell (p := ⟨w.heap.size, 0, none⟩) zct).trans ct0
    replace zct : w.heap.size < v1.heap.size := Nat.lt_of_lt_of_le zct hb.size
    replace cf0 : v1.cell? ⟨w.heap.size + 1, 0, none⟩ = some (.int .i64 a) := (hb.cell (p := ⟨w.heap.size + 1, 0, none⟩) zcf).trans cf0
    replace cf1 : v1.cell? ⟨w.heap.size + 1, 1, none⟩ = some (.int .i64 p) := (hb.cell (p := ⟨w.heap.size + 1, 1, none⟩) zcf).trans cf1
    replace zcf : w.heap.size + 1 < v1.heap.size := Nat.lt_of_lt_of_le zcf hb.size
    replace cl0 : v1.cell? ⟨w.heap.size + 1 + 1, 0, none⟩ = some (.int .i64 v) := (hb.cell (p := ⟨w.heap.size + 1 + 1, 0, none⟩) zcl).trans cl0
    replace cl1 : v1.cell? ⟨w.heap.size + 1 + 1, 1, none⟩ = some (.int .i64 t) := (hb.cell (p := ⟨w.heap.size + 1 + 1, 1, none⟩) zcl).trans cl1
    replace zcl : w.heap.size + 1 + 1 < v1.heap.size := Nat.lt_of_lt_of_le zcl hb.size
    replace HO := hide (own_kept HO.out hb)
    replace HB := hide (HB.out.trans (hb.mono HB.out.size))
    clear hb
    clear hat
    go_wp2
    go_ret
    exact ⟨by rw [HD.out]; rfl, by rw [HP.out]; exact HO.out, Stp.of HB.out⟩
  · skip
    have HP := hide (putL_yes (l := l) (a := a) (p := p) (v := v) (t := t) h1)
    have HD := hide (show decide (0 ≤ (endL l a p).1) = true by rw [h1]; simp)
    rw [h1] at hat
    generalize (endL l a p).2 = E2 at hat
    clear h1
    have hk' : (k : Int) < (l.length : Int) := by omega
    go_enter Tryz.func107, Tryz.ntmps107
    go_wp2_with fail
    refine (hat).mono ?_
    rintro e v1 ⟨rfl, hb⟩
    replace ct0 : v1.cell? ⟨w.heap.size, 0, none⟩ = some (.slice (some ⟨g, 0, none⟩) l.length c) := (hb.cell (p := ⟨w.heap.size, 0, none⟩) zct).trans ct0
    replace zct : w.heap.size < v1.heap.size := Nat.lt_of_lt_of_le zct hb.size
    replace cf0 : v1.cell? ⟨w.heap.size + 1, 0, none⟩ = some (.int .i64 a) := (hb.cell (p := ⟨w.heap.size + 1, 0, none⟩) zcf).trans cf0
    replace cf1 : v1.cell? ⟨w.heap.size + 1, 1, none⟩ = some (.int .i64 p) := (hb.cell (p := ⟨w.heap.size + 1, 1, none⟩) zcf).trans cf1
    replace zcf : w.heap.size + 1 < v1.heap.size := Nat.lt_of_lt_of_le zcf hb.size
    replace cl0 : v1.cell? ⟨w.heap.size + 1 + 1, 0, none⟩ = some (.int .i64 v) := (hb.cell (p := ⟨w.heap.size + 1 + 1, 0, none⟩) zcl).trans cl0
    replace cl1 : v1.cell? ⟨w.heap.size + 1 + 1, 1, none⟩ = some (.int .i64 t) := (hb.cell (p := ⟨w.heap.size + 1 + 1, 1, none⟩) zcl).trans cl1
    replace zcl : w.heap.size + 1 + 1 < v1.heap.size := Nat.lt_of_lt_of_le zcl hb.size
    replace HO := hide (own_kept HO.out hb)
    replace HB := hide (HB.out.trans (hb.mono HB.out.size))
    clear hb
    have ho : v1.ownsRow base CellT 5 (.slice (some ⟨g, 0, none⟩) l.length c) l.length (l.flatMap layS.cs) := HO.out
    have hln : (l.flatMap layS.cs).length = l.length * 5 := by rw [flat_length]; rfl
    obtain ⟨u0, hu0⟩ : ∃ u, v1.cell? ⟨g, k * 5, none⟩ = some u := ⟨_, (ho.cellAt (k * 5) (by omega)).trans (List.getElem?_eq_getElem (by omega))⟩
    have hf0 := ho.frozenAt (k * 5)
    obtain ⟨u1, hu1⟩ : ∃ u, v1.cell? ⟨g, k * 5 + 1, none⟩ = some u := ⟨_, (ho.cellAt (k * 5 + 1) (by omega)).trans (List.getElem?_eq_getElem (by omega))⟩
    have hf1 := ho.frozenAt (k * 5 + 1)
    obtain ⟨u2, hu2⟩ : ∃ u, v1.cell? ⟨g, k * 5 + 2, none⟩ = some u := ⟨_, (ho.cellAt (k * 5 + 2) (by omega)).trans (List.getElem?_eq_getElem (by omega))⟩
    have hf2 := ho.frozenAt (k * 5 + 2)
    obtain ⟨u3, hu3⟩ : ∃ u, v1.cell? ⟨g, k * 5 + 3, none⟩ = some u := ⟨_, (ho.cellAt (k * 5 + 3) (by omega)).trans (List.getElem?_eq_getElem (by omega))⟩
    have hf3 := ho.frozenAt (k * 5 + 3)
    obtain ⟨u4, hu4⟩ : ∃ u, v1.cell? ⟨g, k * 5 + 4, none⟩ = some u := ⟨_, (ho.cellAt (k * 5 + 4) (by omega)).trans (List.getElem?_eq_getElem (by omega))⟩
    have hf4 := ho.frozenAt (k * 5 + 4)
    have HS := hide (stored5 (k := k) ⟨true, a, p, v, t⟩ (Nat.le_refl g) ho (Below.refl g v1))
    have HSt := hide ((Stp.of (lo := g) (hi := g + 1) HB.out).trans (stp_set5 v1 g k ⟨true, a, p, v, t⟩))
    clear ho hln hat
    go_wp2
    go_ret
    exact ⟨by rw [HD.out]; rfl, by rw [HP.out]; exact HS.out.1, HSt.out⟩

end Go.Proofs.YtmkgbmmibjgeaaaGreat

/- What comes nearer: the loop's invariant, as the model has it. -/
namespace Go.Proofs.YtmkgbmmibjgeaaaGreat
open Go.ChangeShapes Go.WideShapes Go.ChangeAt Go.RowKit Go.Joins
set_option linter.unusedVariables false
set_option linter.unusedSimpArgs false

theorem Stp.drew {lo hi : Nat} {w w' : World} (h : Stp lo hi w w') : Stp lo hi w w'.drew := ⟨h.os, h.tape, h.output, h.size, h.block⟩
/-- Whoever is there has a flow that may be. -/
def flowsOk (m : List Sl) : Prop := ∀ j, j < m.length → (m.getD j sl0).u = true → flowOkB (m.getD j sl0).a (m.getD j sl0).p = true
theorem flowsOk_of {l : List Sl} (h : tableOkB l = true) : flowsOk l := fun j hj hu => by
  have ht := (tableOkB_iff.1 h).2.2 j hj
  unfold tabAt at ht
  exact ((slotB_used hu).1 ((Bool.and_eq_true _ _).mp ht).1).1
theorem flowsOk_set {m : List Sl} (h : flowsOk m) (i : Nat) (s : Sl) (hs : s.u = true → flowOkB s.a s.p = true) : flowsOk (m.set i s) := fun j hj hu => by
  rw [List.length_set] at hj
  by_cases e : i = j
  · subst e
    rw [getD_set_self _ _ _ hj] at hu ⊢
    exact hs hu
  · rw [getD_set_ne _ _ _ _ e] at hu ⊢
    exact h j hj hu
structure DropInv (n : Nat) (R : List Sl) (g : Nat) (m : List Sl) (i k : Nat) : Prop where
  len : m.length = n
  le : n ≤ 16
  hi : i < n
  hk : k < n
  free : (m.getD i sl0).u = false
  ok : flowsOk m
  go : dropGo n (g + 1) m i k = R
  ms : meas m i k ≤ g
theorem DropInv.done {n g i k : Nat} {R m : List Sl} (h : DropInv n R g m i k) (hu : (m.getD k sl0).u = false) : m = R := by
  rw [← h.go, dropGo_end hu]
theorem DropInv.move {n g i k : Nat} {R m : List Sl} (h : DropInv n R g m i k) (hu : (m.getD k sl0).u = true) (hm : moves n m i k = true) : 1 ≤ g ∧ DropInv n R (g - 1) ((m.set i (m.getD k sl0)).set k sl0) k ((k + 1) % n) := by
  obtain ⟨hlen, hle, hi, hk, hfree, hok, hgo, hms⟩ := h
  subst hlen
  have hd := meas_move hle hi hk hfree hu hm
  have hg : 1 ≤ g := by omega
  refine ⟨hg, by simp, hle, hk, next_lt (by omega) k, ?_, ?_, ?_, ?_⟩
  · rw [getD_set_self _ _ _ (by simpa using hk)]
  · exact flowsOk_set (flowsOk_set hok i _ (fun hq => hok k hk hq)) k _ (fun hq => by cases hq)
  · rw [← hgo, dropGo_move hu hm, show g - 1 + 1 = g by omega]
  · omega
theorem DropInv.stay {n g i k : Nat} {R m : List Sl} (h : DropInv n R g m i k) (hu : (m.getD k sl0).u = true) (hm : moves n m i k = false) : 1 ≤ g ∧ DropInv n R (g - 1) m i ((k + 1) % n) := by
  obtain ⟨hlen, hle, hi, hk, hfree, hok, hgo, hms⟩ := h
  subst hlen
  have hne : k ≠ i := fun e => by rw [e, hfree] at hu; cases hu
  have hd := meas_stay hi hk hne
  have hg : 1 ≤ g := by omega
  refine ⟨hg, rfl, hle, hi, next_lt (by omega) k, hfree, hok, ?_, by omega⟩
  rw [← hgo, dropGo_stay hu hm, show g - 1 + 1 = g by omega]
theorem DropInv.start {l : List Sl} {i : Nat} (hle : l.length ≤ 16) (hi : i < l.length) (hok : flowsOk l) : DropInv l.length (dropAtL l i) (meas (l.set i sl0) i ((i + 1) % l.length)) (l.set i sl0) i ((i + 1) % l.length) :=
  ⟨by simp, hle, hi, next_lt (by omega) i, by rw [getD_set_self _ _ _ hi], flowsOk_set hok i _ (fun h => by cases h), rfl, Nat.le_refl _⟩
theorem moves_iff {n i k : Nat} {m : List Sl} : moves n m i k = true ↔ farN n i k ≤ farN n (homeN n (m.getD k sl0).a (m.getD k sl0).p) k := by simp [moves]
theorem dropGo_length (n : Nat) : ∀ (f : Nat) (l : List Sl) (i k : Nat), (dropGo n f l i k).length = l.length
  | 0, l, i, k => rfl
  | f + 1, l, i, k => by
    unfold dropGo
    split
    · split
      · rw [dropGo_length n f]; simp
      · rw [dropGo_length n f]
    · rfl
theorem dropAtL_length (l : List Sl) (i : Nat) : (dropAtL l i).length = l.length := by unfold dropAtL; rw [dropGo_length]; simp
/-- What is dropped. -/
def dropL (l : List Sl) (a p : Int) : List Sl := if (endL l a p).2 = true then dropAtL l (endL l a p).1.toNat else l
theorem dropL_length (l : List Sl) (a p : Int) : (dropL l a p).length = l.length := by
  unfold dropL
  split
  · exact dropAtL_length _ _
  · rfl
theorem dropL_no {l : List Sl} {a p : Int} (h : (endL l a p).2 = false) : dropL l a p = l := by unfold dropL; rw [h]; rfl
theorem dropL_yes {l : List Sl} {a p : Int} {k : Nat} (h : endL l a p = ((k : Int), true)) : dropL l a p = dropAtL l k := by unfold dropL; rw [h]; simp

end Go.Proofs.YtmkgbmmibjgeaaaGreat

