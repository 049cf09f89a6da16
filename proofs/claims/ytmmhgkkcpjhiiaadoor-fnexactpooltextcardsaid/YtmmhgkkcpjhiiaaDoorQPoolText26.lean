/- Several texts in one: SPn, SOwn4, SPNew, SPf. -/
import Derived.Deep.RegionHeld3
import Derived.Deep.CutRange
import Derived.Deep.RegionLaw
import Derived.Test.YtmmhgkkcpjhiiaaDoorQPoolText24
import Derived.Test.YtmmhgkkcpjhiiaaDoorQPoolText06
import Derived.Test.YtmmhgkkcpjhiiaaDoorQPoolText07
import Derived.Test.YtmmhgkkcpjhiiaaDoorQPoolText08
import Derived.Test.YtmmhgkkcpjhiiaaDoorQPoolText17
import Derived.Test.YtmmhgkkcpjhiiaaDoorQPoolText21
import Derived.Test.YtmmhgkkcpjhiiaaDoorQPoolText25
/- The program's pool as it is told: each list anew. -/
namespace Go.Proofs.YtmmhgkkcpjhiiaaDoor
open Go.ChangeShapes Go.WideShapes Go.ChangeAt Go.RowKit Go.Joins
set_option linter.unusedVariables false
set_option linter.unusedSimpArgs false

theorem range_kept {w w' : World} {b o : Nat} {cs : List Value} (h : w.rangeAt b o cs) (hb : Below w.heap.size w w') (hlt : b < w.heap.size) : w'.rangeAt b o cs := fun j v hv => (hb.cell (p := ⟨b, o + j, none⟩) hlt).trans (h j v hv)
theorem Rw.grow {α : Type} {Q : Nat → Nat → World → Value → α → Prop} {d : α} {xs : List α} {a b : Nat} {w w' : World} {hs : List Hd} {L H : Nat → Nat} {r : Option Nat} (hQ : Stps Q) (h : Rw Q d xs a b w hs L H) (hg : w.grownBy w' r) (ho : ∀ i, i < xs.length → ∀ g, r = some g → g < L i ∨ H i ≤ g) : Rw Q d xs a b w' hs L H := by
 cases r with
 | none => exact h.step hQ (Stp.grown (lo := 0) (hi := 0) hg (fun b e => by cases e)) (fun i _ => .inl (Nat.zero_le _))
 | some g => exact h.step hQ (Stp.grown (lo := g) (hi := g + 1) hg (fun b e => by injection e with e; omega)) (fun i hi => by have := ho i hi g rfl; omega)
theorem RdL.range {w : World} {b off : Nat} {fs : List Pt} (h : ∀ i, i < fs.length → ∀ j, j < layT.k → w.cell? ⟨b, off + i * layT.k + j, none⟩ = (layT.cs (fs.getD i layT.d))[j]?) (i : Nat) (hi : i < fs.length) : w.rangeAt b (off + i * 24) (ptL (fs.getD i ptZ)) := fun j v hv => by
 have hj : j < 24 := by have := (List.getElem?_eq_some_iff.1 hv).1; rw [ptL_len] at this; exact this
 exact (h i hi j hj).trans hv
/-- The tables so far, behind one more. -/
theorem Rw.more {v1 w8 : World} {mid b0 l2 n : Nat} {hs : List Hd} {L H : Nat → Nat} {xs : List (List (List Int))} {x : List (List Int)} {o4 oQ : Option Addr} {cQ n4 c4 : Nat} {O : Obj} (h : Rw InT [] xs mid b0 v1 hs L H) (hxn : xs.length = n) (hb : b0 ≤ l2) (hm : mid ≤ l2) (hl : l2 ≤ v1.heap.size) (q : InT l2 v1.heap.size v1 (.slice o4 n4 c4) x) (hout : outB (.slice oQ n cQ) n L H) (hlt : ∀ g, (Value.slice oQ n cQ).ownBlock = some g → g < b0) (hg : (v1.alloc O).grownBy w8 (Value.slice oQ n cQ).ownBlock) :
  Rw InT [] (xs ++ [x]) mid w8.heap.size w8 (hs ++ [(o4, n4, c4)]) (fun i => if i < n then L i else l2) (fun i => if i < n then H i else v1.heap.size) := by
 subst hxn
 have h1 := h.snoc hb hm hl q
 have h2 := h1.kept InT.stp ((Below.refl v1.heap.size v1).alloc (Nat.le_refl _) O)
 have hsz := hg.size
 rw [World.size_alloc] at hsz
 refine (h2.grow InT.stp hg (fun i hi g e => ?_)).mono (Nat.le_refl _) (by omega)
 by_cases hi' : i < xs.length
 ·simp only [hi', if_true]; exact hout i hi' g e
 ·simp only [hi', if_false]; have := hlt g e; omega
theorem InPm.mono {lo lo' hi : Nat} {w : World} {v : Value} {m : Pm} (h : InPm lo hi w v m) (hl : lo' ≤ lo) : InPm lo' hi w v m := by
 obtain ⟨vb, vr, mid, e, k1, k2, h1, h2⟩ := h
 exact ⟨vb, vr, mid, e, by omega, k2, InRow.mono h1 hl (Nat.le_refl _), h2⟩
end Go.Proofs.YtmmhgkkcpjhiiaaDoor

/- The model's copy of a pool. -/
namespace Go.Proofs.YtmmhgkkcpjhiiaaDoor
open Go.ChangeShapes Go.WideShapes Go.ChangeAt Go.RowKit Go.Joins
set_option linter.unusedVariables false
set_option linter.unusedSimpArgs false

/-- As RiV; a slice of nothing has no room. -/
def RcV {α : Type} (L : Lay α) (lo hi : Nat) (w : World) (v : Value) (l : List α) : Prop := RiV L lo hi w v l ∧ capV v
abbrev RcT := RiRows (RcV layI) []
abbrev RcR := RiRows RcT []
theorem RcI.mon : Monos (RcV layI) := ⟨fun h h1 h2 => ⟨RiV.mono h.1 h1 h2, h.2⟩⟩
theorem RcI.stp : Stps (RcV layI) := ⟨fun h s hd => ⟨RiV.step h.1 s hd, h.2⟩⟩
theorem RcT.mon : Monos RcT := RiRows.mono RcI.mon
theorem RcT.stp : Stps RcT := RiRows.step RcI.stp
theorem RcR.mon : Monos RcR := RiRows.mono RcT.mon
theorem RcR.stp : Stps RcR := RiRows.step RcT.stp
theorem RiRows.map {α : Type} {Q Q' : Nat → Nat → World → Value → α → Prop} {d : α} (hq : ∀ {lo hi : Nat} {w : World} {v : Value} {x : α}, Q lo hi w v x → Q' lo hi w v x) {lo hi : Nat} {w : World} {v : Value} {xs : List α} (h : RiRows Q d lo hi w v xs) : RiRows Q' d lo hi w v xs := by
 obtain ⟨hs, h0, h1, h2⟩ := h
 exact ⟨hs, h0, h1, fun i hi => hq (h2 i hi)⟩
theorem RiRows.at {α : Type} {Q : Nat → Nat → World → Value → α → Prop} {d : α} {a C : Nat} {w : World} {o : Option Addr} {n c : Nat} {xs : List α} (h : RiRows Q d a C w (.slice o n c) xs) (hC : C ≤ w.heap.size) (i : Nat) (hi : i < xs.length) : ∃ b off u, o = some ⟨b, off, none⟩ ∧ b < C ∧ w.cell? ⟨b, off + i, none⟩ = some u ∧ Q a C w u (xs.getD i d) := by
 obtain ⟨hs, h0, h1, h2⟩ := h
 obtain ⟨o1, c1, e, r⟩ := h1.open
 injection e with e1 e2 e3
 subst e1
 rcases r with r | ⟨b, off, ho, hb, r⟩
 ·subst r; simp at h0; omega
 ·exact ⟨b, off, hv hs i, ho, hb, RdL.head r i (by omega), h2 i hi⟩
theorem RcT.len {lo hi : Nat} {w : World} {v : Value} {ll : List (List Int)} (h : RcT lo hi w v ll) : ∃ o c, v = .slice o ll.length c := by
 obtain ⟨hs, h0, ⟨o, c, e, _⟩, _⟩ := h
 exact ⟨o, c, by rw [e, h0]⟩
theorem RcV.opn {lo hi : Nat} {w : World} {v : Value} {l : List Int} (h : RcV layI lo hi w v l) : ∃ o c, v = .slice o l.length c ∧ RdL layI hi w o l ∧ (o = none → c = 0) := by
 obtain ⟨o, c, e, r⟩ := RiV.open h.1
 exact ⟨o, c, e, r, fun h0 => h.2 l.length c (by rw [e, h0])⟩
/-- Tables of the call's own. -/
def GTabs (w : World) (base : Nat) (hs : List Hd) (lll : List (List (List Int))) : Prop := hs.length = lll.length ∧ ∀ i, i < lll.length → ∃ o3 c3 hs8, hs.getD i (none, 0, 0) = (o3, (lll.getD i []).length, c3) ∧ ownL layH 72 w base (.slice o3 (lll.getD i []).length c3) hs8 ∧ Tab (fun q => (lll.getD i []).getD q []) (lll.getD i []).length w base hs8
theorem GTabs.nil (w : World) (base : Nat) : GTabs w base [] [] := ⟨rfl, fun i h => absurd h (Nat.not_lt_zero _)⟩
theorem GTabs.kept {w w' : World} {base : Nat} {hs : List Hd} {R : List (List (List Int))} (h : GTabs w base hs R) (hb : Below w.heap.size w w') : GTabs w' base hs R :=
 ⟨h.1, fun i hi => by obtain ⟨o3, c3, hs8, e, h1, h2⟩ := h.2 i hi; exact ⟨o3, c3, hs8, e, own_kept h1 hb, h2.kept hb⟩⟩
theorem GTabs.other {w w' : World} {base b2 n2 : Nat} {hs : List Hd} {R : List (List (List Int))} {v2 : Value} {x2 : List Value} (h : GTabs w base hs R) (h2 : w.ownsRow b2 71 1 v2 n2 x2) (hg : w.grownBy w' v2.ownBlock) : GTabs w' base hs R :=
 ⟨h.1, fun i hi => by obtain ⟨o3, c3, hs8, e, k1, k2⟩ := h.2 i hi; exact ⟨o3, c3, hs8, e, World.ownsRow.kept k1 hg (own_apart k1 h2 neT1), k2.other h2 neT2 hg⟩⟩
theorem GTabs.snoc {w : World} {base : Nat} {hs hs8 : List Hd} {R : List (List (List Int))} {ll : List (List Int)} {o3 : Option Addr} {c3 : Nat} (h : GTabs w base hs R) (h1 : ownL layH 72 w base (.slice o3 ll.length c3) hs8) (h2 : Tab (fun q => ll.getD q []) ll.length w base hs8) : GTabs w base (hs ++ [(o3, ll.length, c3)]) (R ++ [ll]) := by
 have hl := h.1
 refine ⟨by simp [hl], fun i hi => ?_⟩
 by_cases hi' : i < R.length
 ·have e1 : (R ++ [ll]).getD i [] = R.getD i [] := by rw [List.getD_eq_getElem?_getD, List.getElem?_append_left hi', ← List.getD_eq_getElem?_getD]
  have e2 : (hs ++ [(o3, ll.length, c3)]).getD i (none, 0, 0) = hs.getD i (none, 0, 0) := by rw [List.getD_eq_getElem?_getD, List.getElem?_append_left (by omega), ← List.getD_eq_getElem?_getD]
  rw [e1, e2]; exact h.2 i hi'
 ·have e0 : i = R.length := by simp at hi; omega
  subst e0
  have e1 : (R ++ [ll]).getD R.length [] = ll := by simp
  have e2 : (hs ++ [(o3, ll.length, c3)]).getD R.length (none, 0, 0) = (o3, ll.length, c3) := by rw [← hl]; simp
  rw [e1, e2]; exact ⟨o3, c3, hs8, rfl, h1, h2⟩
theorem GTabs.rc {w : World} {base : Nat} {hs : List Hd} {R : List (List (List Int))} {o : Option Addr} {n c : Nat} (h : GTabs w base hs R) (ho : ownL layH 71 w base (.slice o n c) hs) : RcR base w.heap.size w (.slice o n c) R := by
 refine ⟨hs, h.1, InRow.ri (InRow.of ho), fun i hi => ?_⟩
 obtain ⟨o3, c3, hs8, e, h1, h2⟩ := h.2 i hi
 have e' : hv hs i = .slice o3 (R.getD i []).length c3 := by unfold hv; rw [e]
 rw [e']
 exact ⟨hs8, h2.len, InRow.ri (InRow.of h1), fun j hj => ⟨InRow.ri (InRow.of (h2.row j hj)), InRow.cap (InRow.of (h2.row j hj))⟩⟩
theorem RcR.ri {lo hi : Nat} {w : World} {v : Value} {R : List (List (List Int))} (h : RcR lo hi w v R) : RiR lo hi w v R := RiRows.map (fun q => RiRows.map (fun r => r.1) q) h
theorem GTabs.ri {w : World} {base : Nat} {hs : List Hd} {R : List (List (List Int))} {o : Option Addr} {n c : Nat} (h : GTabs w base hs R) (ho : ownL layH 71 w base (.slice o n c) hs) : RiR base w.heap.size w (.slice o n c) R := RcR.ri (h.rc ho)
theorem GTabs.mono {w : World} {base b2 : Nat} {hs : List Hd} {R : List (List (List Int))} (h : GTabs w base hs R) (hb : b2 ≤ base) : GTabs w b2 hs R :=
 ⟨h.1, fun i hi => by obtain ⟨o3, c3, hs8, e, h1, h2⟩ := h.2 i hi; exact ⟨o3, c3, hs8, e, own_mono h1 hb, Tab.mono h2 hb⟩⟩
end Go.Proofs.YtmmhgkkcpjhiiaaDoor

/- A new pool, on both sides. -/
namespace Go.Proofs.YtmmhgkkcpjhiiaaDoor
open Go.ChangeShapes Go.WideShapes Go.ChangeAt Go.RowKit Go.Joins
set_option linter.unusedVariables false
set_option linter.unusedSimpArgs false

/-- The table of these, as lists. -/
def newT (key : Int) (l : List Bk) : List (List Int) := rowsOf (fun b => pairI key b l) 8
theorem newT_len (key : Int) (l : List Bk) : (newT key l).length = 8 := rowsOf_length _ _
theorem newT_row (key : Int) (l : List Bk) (j : Nat) : ((newT key l).getD j []).length ≤ 2 := by
 by_cases h : j < 8
 ·unfold newT; rw [rowsOf_get _ _ _ h]; exact pairI_len key j l
 ·rw [List.getD_eq_getElem?_getD, List.getElem?_eq_none (by rw [newT_len]; omega)]; simp
theorem Tab.congr {R R' : Nat → List Int} {k : Nat} {w : World} {base : Nat} {hs : List Hd} (h : Tab R k w base hs) (e : ∀ i, i < k → R i = R' i) : Tab R' k w base hs := ⟨h.len, fun i hi => by rw [← e i hi]; exact h.row i hi, h.apart⟩
end Go.Proofs.YtmmhgkkcpjhiiaaDoor

/- The program's poolFrom. -/
namespace Go.Proofs.YtmmhgkkcpjhiiaaDoor
open Go.ChangeShapes Go.WideShapes Go.ChangeAt Go.RowKit Go.Joins
set_option linter.unusedVariables false
set_option linter.unusedSimpArgs false

/-- A pool that may be. -/
def poolB (m : Pm) : Bool := keyB m.key && backsOkB m.l && decide (1 ≤ m.ring.length) && decide (m.ring.length ≤ 3) && (List.range m.ring.length).all (fun i => tabOkB (m.ring.getD i [])) && eqPtB (tabF (m.ring.getD 0 [])) (newF m.key m.l)
theorem poolB_no {m : Pm} (h : keyB m.key = false ∨ backsOkB m.l = false ∨ m.ring.length < 1 ∨ 3 < m.ring.length ∨ (∃ i, i < m.ring.length ∧ tabOkB (m.ring.getD i []) = false) ∨ eqPtB (tabF (m.ring.getD 0 [])) (newF m.key m.l) = false) : poolB m = false := by
 rw [Bool.eq_false_iff]
 intro hb
 unfold poolB at hb
 simp only [Bool.and_eq_true, decide_eq_true_eq, List.all_eq_true, List.mem_range] at hb
 obtain ⟨⟨⟨⟨⟨h1, h2⟩, h3⟩, h4⟩, h5⟩, h6⟩ := hb
 rcases h with h | h | h | h | ⟨i, hi, h⟩ | h
 ·rw [h1] at h; cases h
 ·rw [h2] at h; cases h
 ·omega
 ·omega
 ·rw [h5 i hi] at h; cases h
 ·rw [h6] at h; cases h
theorem poolB_yes {m : Pm} (h1 : keyB m.key = true) (h2 : backsOkB m.l = true) (h3 : 1 ≤ m.ring.length) (h4 : m.ring.length ≤ 3) (h5 : ∀ i, i < m.ring.length → tabOkB (m.ring.getD i []) = true) (h6 : eqPtB (tabF (m.ring.getD 0 [])) (newF m.key m.l) = true) : poolB m = true := by
 unfold poolB
 simp only [Bool.and_eq_true, decide_eq_true_eq, List.all_eq_true, List.mem_range]
 exact ⟨⟨⟨⟨⟨h1, h2⟩, h3⟩, h4⟩, h5⟩, h6⟩
/-- What poolFrom tells. -/
def FromP (m : Pm) (o : Option Addr) (cap : Nat) (w : World) (e : Ending) (w' : World) : Prop := ∃ vP, e = .returned (.tuple #[vP, .bool (poolB m)]) ∧ (poolB m = true → ∃ o2 c2, vP = polv m.key (.slice o m.l.length cap) (.slice o2 m.ring.length c2) ∧ ownL layT 148 w' w.heap.size (.slice o2 m.ring.length c2) (m.ring.map tabF)) ∧ (poolB m = false → vP = polv 0 (.slice none 0 0) (.slice none 0 0)) ∧ Below w.heap.size w w'
theorem from_no {m : Pm} {o : Option Addr} {cap : Nat} {w w' : World} (h : poolB m = false) (hb : Below w.heap.size w w') : FromP m o cap w (.returned (.tuple #[polv 0 (.slice none 0 0) (.slice none 0 0), .bool false])) w' :=
 ⟨_, by rw [h], fun h' => absurd (h.symm.trans h') (by simp), fun _ => rfl, hb⟩
theorem one_rdT (w : World) (f : Pt) : RdL layT (w.alloc (.cells (ptA f) 148)).heap.size (w.alloc (.cells (ptA f) 148)) (some ⟨w.heap.size, 0, none⟩) [f] := ownL.rd (L := layT) (one_ownT w f)
theorem take_tab (R : List (List (List Int))) (i : Nat) (h : i < R.length) : (R.map tabF).take (i + 1) = (R.map tabF).take i ++ [tabF (R.getD i [])] := by
 have hk : i < (R.map tabF).length := by rw [List.length_map]; exact h
 rw [List.take_succ_eq_append_getElem hk]
 simp [h]
theorem own_someT {w : World} {base : Nat} {v : Value} {fs : List Pt} (h : ownL layT 148 w base v fs) (hp : 0 < fs.length) : ∃ g c, v = .slice (some ⟨g, 0, none⟩) fs.length c := by
 rcases h.2 with ⟨_, h0⟩ | ⟨g, cap, cur, e, _⟩
 ·omega
 ·exact ⟨g, cap, e⟩
theorem own_range {w : World} {base g n c : Nat} {lll : List (List (List Int))} (h : ownL layT 148 w base (.slice (some ⟨g, 0, none⟩) n c) (lll.map tabF)) (hp : 0 < lll.length) : w.rangeAt g 0 (ptL (tabF (lll.getD 0 []))) := by
 rcases ownL.rds (L := layT) h with h1 | ⟨b, off, e, _, r⟩
 ·have : (lll.map tabF).length = 0 := by rw [h1]; rfl
  rw [List.length_map] at this; omega
 ·injection e with e
  injection e with e1 e2 e3
  subst e1 e2
  have h2 := RdL.range r 0 (by rw [List.length_map]; exact hp)
  have e4 : (lll.map tabF).getD 0 ptZ = tabF (lll.getD 0 []) := by simp [hp]
  rw [e4] at h2
  simpa using h2
theorem bx_all {W : World} {B : Nat} {x y z : Value} {T : TypeId} (h : W.heap[B]? = some (.cells #[x, y, z] T (0, 0))) : W.cell? ⟨B, 0, none⟩ = some x ∧ W.cell? ⟨B, 1, none⟩ = some y ∧ W.cell? ⟨B, 2, none⟩ = some z ∧ W.frozen? ⟨B, 0, none⟩ = false ∧ W.frozen? ⟨B, 1, none⟩ = false ∧ W.frozen? ⟨B, 2, none⟩ = false :=
 ⟨bx_cell h 0 _ rfl, bx_cell h 1 _ rfl, bx_cell h 2 _ rfl, bx_frozen h 0, bx_frozen h 1, bx_frozen h 2⟩
theorem guardPt : Tryd.prog.eqGuardType Tryd.prog.depth 148 = false := by kernel_rfl

set_option maxRecDepth 100000 in
set_option maxHeartbeats 16000000 in
theorem poolFrom_go (key : Int) (o : Option Addr) (cap : Nat) (l : List Bk) (oR : Option Addr) (cR : Nat) (lll : List (List (List Int))) (n : Nat) (hnn : n = lll.length) (w : World) (hR : RdK w.heap.size w o l) (hG : RiR 0 w.heap.size w (.slice oR n cR) lll) (hf : fitPm ⟨key, l, lll⟩) :
  Calls Tryd.prog 64 #[plv key (.slice o l.length cap) (.slice oR n cR)] w fun e w' => FromP ⟨key, l, lll⟩ o cap w e w' := by
 have HNN := hide hnn
 obtain ⟨hf1, hf2, hf3, hf4, hf5⟩ := hf
 dsimp only at hf1 hf2 hf3 hf4 hf5
 rw [← hnn] at hf2
 have HX := hide hf4
 have HY := hide hf5
 clear hnn hf4 hf5 hf3
 obtain ⟨W0, hW0⟩ : ∃ W, ((w.alloc (.cells #[.int .i64 key, .slice o l.length cap, .slice oR n cR] 49)).alloc (.cells #[.int .i64 0, .slice none 0 0, .slice none 0 0] 116)) = W := ⟨_, rfl⟩
 have hb_W0 : Below w.heap.size w W0 := by rw [← hW0]; exact (((Below.refl _ _).alloc (Nat.le_refl _) _).alloc (by simp <;> omega) _)
 have HB := hide hb_W0
 clear hb_W0
 have zz : w.heap.size < W0.heap.size := by rw [← hW0]; simp <;> omega
 have z0 : W0.cell? ⟨w.heap.size, 0, none⟩ = some (.int .i64 key) := by rw [← hW0]; simp [go_sem]
 have z1 : W0.cell? ⟨w.heap.size, 1, none⟩ = some (.slice o l.length cap) := by rw [← hW0]; simp [go_sem]
 have z2 : W0.cell? ⟨w.heap.size, 2, none⟩ = some (.slice oR n cR) := by rw [← hW0]; simp [go_sem]
 have zr : w.heap.size + 1 < W0.heap.size := by rw [← hW0]; simp
 have r0 : W0.cell? ⟨w.heap.size + 1, 0, none⟩ = some (.int .i64 0) := by rw [← hW0]; simp [go_sem]
 have r1 : W0.cell? ⟨w.heap.size + 1, 1, none⟩ = some (.slice none 0 0) := by rw [← hW0]; simp [go_sem]
 have r2 : W0.cell? ⟨w.heap.size + 1, 2, none⟩ = some (.slice none 0 0) := by rw [← hW0]; simp [go_sem]
 have fr0 : W0.frozen? ⟨w.heap.size + 1, 0, none⟩ = false := by rw [← hW0]; simp [go_sem]
 have fr1 : W0.frozen? ⟨w.heap.size + 1, 1, none⟩ = false := by rw [← hW0]; simp [go_sem]
 have fr2 : W0.frozen? ⟨w.heap.size + 1, 2, none⟩ = false := by rw [← hW0]; simp [go_sem]
 have HR0 := hide (show W0.heap[w.heap.size + 1]? = some (.cells #[.int .i64 0, .slice none 0 0, .slice none 0 0] 116 (0, 0)) by rw [← hW0]; exact box_new2 w _ _ _)
 have hzr := zr
 have hzz0 := zz
 have HKE := hide (fun W => isKey_any key W)
 have HBO := hide (implBacksOk_any o cap l W0 ((hR.kept HB.out (Nat.le_refl _)).le HB.out.size) hf1)
 have HRK := hide hR
 have HG := hide hG
 clear hR hG
 have HNO := hide (fun h => poolB_no (m := ⟨key, l, lll⟩) h)
 have hw0 := HB.out.size
 cases hk : keyB key with
 | false =>
  rw [hk] at HKE
  go_enter Tryd.func64, Tryd.ntmps64
  go_wp2_with (first | (go_at_call 87; refine (HKE.out _).mono ?_; rintro e w1 ⟨rfl, rfl⟩) | (go_at_call 88; refine HBO.out.mono ?_; rintro e w2 ⟨rfl, hb2⟩; have hb2 := hide hb2))
  refine bodyPost_ret (v := .tuple #[polv 0 (.slice none 0 0) (.slice none 0 0), .bool false]) (by simp [results, Tryd.results64, go_sem, r0, r1, r2]) rfl (from_no (HNO.out (.inl hk)) (setQ_below HB.out (Nat.le_succ _) _ _ _))
 | true =>
  rw [hk] at HKE
  have HK := hide hk
  clear hk
  cases hbo : backsOkB l with
  | false =>
   rw [hbo] at HBO
   go_enter Tryd.func64, Tryd.ntmps64
   go_wp2_with (first | (go_at_call 87; refine (HKE.out _).mono ?_; rintro e w1 ⟨rfl, rfl⟩) | (go_at_call 88; refine HBO.out.mono ?_; rintro e w2 ⟨rfl, hb2⟩; have s0 := bC hb2 r0 zr; have s1 := bC hb2 r1 zr; have s2 := bC hb2 r2 zr; have t0 := bF hb2 fr0 zr; have t1 := bF hb2 fr1 zr; have t2 := bF hb2 fr2 zr; have hb2 := hide hb2))
   refine bodyPost_ret (v := .tuple #[polv 0 (.slice none 0 0) (.slice none 0 0), .bool false]) (by simp [results, Tryd.results64, go_sem, s0, s1, s2]) rfl (from_no (HNO.out (.inr (.inl hbo))) (setQ_below (HB.out.trans (hb2.out.mono HB.out.size)) (Nat.le_succ _) _ _ _))
  | true =>
   rw [hbo] at HBO
   have HBK := hide hbo
   clear hbo
   by_cases h1 : (n : Int) < 1
   ·go_enter Tryd.func64, Tryd.ntmps64
    go_wp2_with (first | (go_at_call 87; refine (HKE.out _).mono ?_; rintro e w1 ⟨rfl, rfl⟩) | (go_at_call 88; refine HBO.out.mono ?_; rintro e w2 ⟨rfl, hb2⟩; have s0 := bC hb2 r0 zr; have s1 := bC hb2 r1 zr; have s2 := bC hb2 r2 zr; have t0 := bF hb2 fr0 zr; have t1 := bF hb2 fr1 zr; have t2 := bF hb2 fr2 zr; have y0 := bC hb2 z0 zz; have y1 := bC hb2 z1 zz; have y2 := bC hb2 z2 zz; have hb2 := hide hb2))
    refine bodyPost_ret (v := .tuple #[polv 0 (.slice none 0 0) (.slice none 0 0), .bool false]) (by simp [results, Tryd.results64, go_sem, s0, s1, s2]) rfl (from_no (HNO.out (.inr (.inr (.inl (show lll.length < 1 by have := HNN.out; omega))))) (setQ_below (HB.out.trans (hb2.out.mono HB.out.size)) (Nat.le_succ _) _ _ _))
   by_cases h3 : (3 : Int) < (n : Int)
   ·go_enter Tryd.func64, Tryd.ntmps64
    go_wp2_with (first | (go_at_call 87; refine (HKE.out _).mono ?_; rintro e w1 ⟨rfl, rfl⟩) | (go_at_call 88; refine HBO.out.mono ?_; rintro e w2 ⟨rfl, hb2⟩; have s0 := bC hb2 r0 zr; have s1 := bC hb2 r1 zr; have s2 := bC hb2 r2 zr; have t0 := bF hb2 fr0 zr; have t1 := bF hb2 fr1 zr; have t2 := bF hb2 fr2 zr; have y0 := bC hb2 z0 zz; have y1 := bC hb2 z1 zz; have y2 := bC hb2 z2 zz; have hb2 := hide hb2))
    refine bodyPost_ret (v := .tuple #[polv 0 (.slice none 0 0) (.slice none 0 0), .bool false]) (by simp [results, Tryd.results64, go_sem, s0, s1, s2]) rfl (from_no (HNO.out (.inr (.inr (.inr (.inl (show 3 < lll.length by have := HNN.out; omega)))))) (setQ_below (HB.out.trans (hb2.out.mono HB.out.size)) (Nat.le_succ _) _ _ _))
   have h1n : 1 ≤ n := by omega
   have h3n : n ≤ 3 := by omega
   go_enter Tryd.func64, Tryd.ntmps64
   go_wp2_with (first | (go_at_call 87; refine (HKE.out _).mono ?_; rintro e w1 ⟨rfl, rfl⟩) | (go_at_call 88; refine HBO.out.mono ?_; rintro e w2 ⟨rfl, hb2⟩; have s0 := bC hb2 r0 zr; have s1 := bC hb2 r1 zr; have s2 := bC hb2 r2 zr; have t0 := bF hb2 fr0 zr; have t1 := bF hb2 fr1 zr; have t2 := bF hb2 fr2 zr; have y0 := bC hb2 z0 zz; have y1 := bC hb2 z1 zz; have y2 := bC hb2 z2 zz; have hb2 := hide hb2))
   have hs2 := hb2.out.size
   have HBC := hide (HB.out.trans (hb2.out.mono HB.out.size))
   have HRB := hide ((hb2.out.block _ hzr).trans HR0.out)
   clear z0 z1 z2 r0 r1 r2 fr0 fr1 fr2 s0 s1 s2 t0 t1 t2 HKE HBO
   go_loopw [4, 35] (fun rv iv wr => ∃ (i : Nat), i ≤ n ∧ iv = .int .i64 (i : Int) ∧ Hid (ownL layT 148 wr w2.heap.size rv ((lll.map tabF).take i)) ∧ Hid (∀ j, j < i → tabOkB (lll.getD j []) = true) ∧ Hid (Below w2.heap.size w2 wr))
    (fun _ iv _ => n - (intOf iv).toNat)
   case atStart => exact ⟨0, Nat.zero_le _, rfl, by rw [List.take_zero]; exact World.ownsRow_nil _ _ _ _, fun j hj => absurd hj (Nat.not_lt_zero _), Below.refl _ _⟩
   case round =>
    rename_i rv _
    obtain ⟨i, hi', rfl, HOW, HOK, HBR⟩ := hrel
    have hsr := HBR.out.size
    have y0w := bC HBR.out y0 (by omega)
    have y1w := bC HBR.out y1 (by omega)
    have y2w := bC HBR.out y2 (by omega)
    have HBW := hide (HBC.out.trans (HBR.out.mono (show w.heap.size ≤ w2.heap.size by omega)))
    have hrb := (HBR.out.block _ (show w.heap.size + 1 < w2.heap.size by omega)).trans HRB.out
    by_cases hlt : i < n
    ·skip
     have hlt' : (i : Int) < (n : Int) := by omega
     have hif : i < lll.length := by rw [← HNN.out]; exact hlt
     obtain ⟨b, off, o', c', rfl, hbl, hcu0, hru0⟩ := HG.out.at (Nat.le_refl _) i hif
     have hcu := bC HBW.out hcu0 hbl
     have hru := (hru0.kept HBW.out (Nat.le_refl _)).le HBW.out.size
     have HTK := hide (take_tab lll i hif)
     have hxi := HX.out i hif
     have hyi := HY.out i hif
     have HNI := hide (fun h => HNO.out (.inr (.inr (.inr (.inr (.inl ⟨i, hif, h⟩))))))
     have HPT := hide (pairTableFrom_any o' c' (lll.getD i []) wr hru hxi hyi)
     clear hcu0 hru0 hru hxi hyi
     obtain ⟨ll, hll⟩ : ∃ ll, lll.getD i [] = ll := ⟨_, rfl⟩
     rw [hll] at hcu HTK HNI HPT
     have HLL := hide hll
     clear hll
     obtain ⟨m, hm⟩ : ∃ m, ll.length = m := ⟨_, rfl⟩
     rw [hm] at hcu HPT
     clear hm
     cases hok : tabOkB ll with
     | false =>
      rw [hok] at HPT
      simp only [Bool.false_eq_true, if_false] at HPT
      have g0 := bx_frozen hrb 0
      have g1 := bx_frozen hrb 1
      have g2 := bx_frozen hrb 2
      go_wp2_with fail
      refine HPT.out.mono ?_
      rintro e v1 ⟨rfl, hb1⟩
      have hs1 := hb1.size
      have hrb1 := (hb1.block _ (show w.heap.size + 1 < wr.heap.size by omega)).trans hrb
      obtain ⟨W2, hW2⟩ : ∃ W, v1.alloc (.cells (ptA ptZ) 148) = W := ⟨_, rfl⟩
      have hrb2 : W2.heap[w.heap.size + 1]? = some (.cells #[.int .i64 0, .slice none 0 0, .slice none 0 0] 116 (0, 0)) := by rw [← hW2]; exact (Below.heap_alloc _ _ _ (by omega)).trans hrb1
      have HB2 : Hid (Below w.heap.size w W2) := by rw [← hW2]; exact (HBW.out.trans (hb1.mono HBW.out.size)).alloc (by have := HBW.out.size; omega) _
      have q0 : W2.cell? ⟨w.heap.size + 1, 0, none⟩ = some (.int .i64 0) := bx_cell hrb2 0 _ rfl
      have gq0 := bx_frozen hrb2 0
      have q1 : W2.cell? ⟨w.heap.size + 1, 1, none⟩ = some (.slice none 0 0) := bx_cell hrb2 1 _ rfl
      have gq1 := bx_frozen hrb2 1
      have q2 : W2.cell? ⟨w.heap.size + 1, 2, none⟩ = some (.slice none 0 0) := bx_cell hrb2 2 _ rfl
      have gq2 := bx_frozen hrb2 2
      clear hb1 hrb1 hrb2
      go_wp2_with (first | (refine wpList_store_pt rfl (.tmp 7) (.tmp 42) rfl v1.heap.size ptZ ptZ rfl rfl (World.alloc_heap_new v1 _) ?_; rw [World.setRow_alloc_new, hW2]))
      refine bodyPost_ret (v := .tuple #[polv 0 (.slice none 0 0) (.slice none 0 0), .bool false]) (by simp [results, Tryd.results64, go_sem, q0, q1, q2]) rfl (from_no (HNI.out hok) (setQ_below HB2.out (Nat.le_succ _) _ _ _))
     | true =>
      have HOKI := hide hok
      rw [hok] at HPT
      simp only [if_true] at HPT
      clear hok
      obtain ⟨f, hf⟩ : ∃ f, tabF ll = f := ⟨_, rfl⟩
      rw [hf] at HPT HTK
      clear hf
      go_wp2_with fail
      refine HPT.out.mono ?_
      rintro e v1 ⟨rfl, hb1⟩
      have hs1 := hb1.size
      obtain ⟨W2, hW2⟩ : ∃ W, v1.alloc (.cells (ptA f) 148) = W := ⟨_, rfl⟩
      have hb2' : Below wr.heap.size wr W2 := by rw [← hW2]; exact hb1.alloc hs1 _
      have HZ5 : Hid (W2.heap[v1.heap.size]? = some (.cells (ptA f) 148 (0, 0))) := by rw [← hW2]; exact World.alloc_heap_new v1 _
      have HOW2 := hide (own_kept HOW.out hb2')
      have HB3 := hide (HBR.out.trans (hb2'.mono hsr))
      have hs3 := hb2'.size
      obtain ⟨oq, cq, eq, _⟩ := ownL.open (L := layT) HOW.out
      have HLN := hide (show ((lll.map tabF).take i).length = i by rw [List.length_take, List.length_map]; omega)
      rw [HLN.out] at eq
      subst eq
      clear hb1 hb2'
      obtain ⟨W3, hW3⟩ : ∃ W, W2.alloc (.cells (ptA f) 148) = W := ⟨_, rfl⟩
      have hb3 : Below W2.heap.size W2 W3 := by rw [← hW3]; exact (Below.refl _ _).alloc (Nat.le_refl _) _
      have HRO := hide (show RdL layT W3.heap.size W3 (some ⟨W2.heap.size, 0, none⟩) [f] by rw [← hW3]; exact one_rdT W2 f)
      have HOW3 := hide (own_kept HOW2.out hb3)
      have HB4 := hide (HB3.out.trans (hb3.mono (by omega)))
      have hs4 := hb3.size
      clear hb3
      go_wp2_with (first | (refine wpList_store_pt rfl (.tmp 7) (.tmp 42) rfl v1.heap.size f ptZ rfl rfl (World.alloc_heap_new v1 _) ?_; rw [World.setRow_alloc_new, hW2]) | (refine wpList_load_pt rfl (.tmp 7) rfl v1.heap.size rfl f HZ5.out ?_) | (refine wpList_one_pt rfl (.tmp 48) rfl f rfl ?_; rw [hW3]) | (at_builtin; refine wpList_append_lay appT rfl (.tmp 47) (.tmp 49) rfl w2.heap.size (.slice oq i cq) ((lll.map tabF).take i) rfl HOW3.out (some ⟨W2.heap.size, 0, none⟩) 1 W3.heap.size [f] 1 rfl rfl (by simp) HRO.out (by rw [HLN.out]; simp; omega) (by omega) ?_))
      intro v8 w8 ho8 hg8 _
      have HB8 := hide (HB4.out.grown hg8 (by omega) (fun k h => (HOW3.out.lt k h).1))
      have HO8 := hide ho8
      clear ho8 hg8
      go_wp2
      go_roundw
      case rel => exact ⟨i + 1, by omega, by go_num, by rw [HTK.out]; exact HO8.out, (fun j hj => by rcases Nat.lt_succ_iff_lt_or_eq.1 hj with h' | h'; (· exact HOK.out j h'); (· rw [h', HLL.out]; exact HOKI.out)), HB8.out⟩
      case measure => simp [intOf]; omega
    ·skip
     have e : i = n := by omega
     subst e
     have HALL := hide (show (lll.map tabF).take i = lll.map tabF by rw [HNN.out, show lll.length = (lll.map tabF).length by simp, List.take_length])
     rw [HALL.out] at HOW
     obtain ⟨g, cq, eq⟩ := own_someT HOW.out (by rw [List.length_map, ← HNN.out]; omega)
     rw [List.length_map, ← HNN.out] at eq
     subst eq
     have HRG := hide (show wr.rangeAt g 0 (ptL (tabF (lll.getD 0 []))) from own_range HOW.out (by rw [← HNN.out]; omega))
     have hgl : g < wr.heap.size := (HOW.out.lt g rfl).2
     have HYS := hide (fun h6 => poolB_yes (m := ⟨key, l, lll⟩) HK.out HBK.out (by show 1 ≤ lll.length; rw [← HNN.out]; exact h1n) (by show lll.length ≤ 3; rw [← HNN.out]; exact h3n) (fun j hj => HOK.out j (by rw [HNN.out]; exact hj)) h6)
     have HN6 := hide (fun h6 => HNO.out (.inr (.inr (.inr (.inr (.inr h6))))))
     have HNT := hide (newestTable_any key o cap l wr.drew ((HRK.out.kept HBW.out (Nat.le_refl _)).le HBW.out.size) hf1 HK.out HBK.out)
     have HEQ := hide (fun W => eq_pt (tabF (lll.getD 0 [])) (newF key l) W)
     obtain ⟨f0, hf0⟩ : ∃ f, tabF (lll.getD 0 []) = f := ⟨_, rfl⟩
     obtain ⟨f1, hf1'⟩ : ∃ f, newF key l = f := ⟨_, rfl⟩
     dsimp only at HYS HN6
     rw [hf0, hf1'] at HYS HN6 HEQ
     rw [hf0] at HRG
     rw [hf1'] at HNT
     clear hf0 hf1'
     have h0n : (0 : Int) < (i : Int) := by omega
     have hine : ¬ (i = 0) := by omega
     have hgd := guardPt
     have HRB1 := hide hrb
     clear hrb h1 h3
     have HALLB := hide (fun v1 (hb : Below wr.heap.size wr v1) => bx_all ((hb.block _ (show w.heap.size + 1 < wr.heap.size by omega)).trans HRB1.out))
     have hzwr : w.heap.size < wr.heap.size := by omega
     cases hr : eqPtB f0 f1 with
     | false =>
      go_wp2
      refine wp_region_held_drew (S := (fun w' => w'.rangeAt g 0 (ptL f0) ∧ w'.cell? ⟨w.heap.size, 0, none⟩ = some (.int .i64 key) ∧ w'.cell? ⟨w.heap.size, 1, none⟩ = some (.slice o l.length cap))) (by kernel_rfl) ⟨HRG.out, y0w, y1w⟩ (fun hHeld => ?_)
      refine wpAnyH_take (i := 0) (oi := _) (v := .slice (some ⟨g, 0, none⟩) i cq) rfl (by kernel_rfl) (by kernel_rfl) (by kernel_rfl) (fun _ _ _ h => h) (Or.inl ⟨by rfl, fun w hSw => by obtain ⟨_, hS1, hS2⟩ := hSw; go_simp⟩) hHeld ?_
      try simp only [Act.put, List.setIfInBounds_toArray, List.set_cons_zero, List.set_cons_succ]
      refine wpAnyH_take (i := 1) (oi := _) (v := .pointer (some ⟨g, 0, none⟩)) rfl (by kernel_rfl) (by kernel_rfl) (by kernel_rfl) (fun _ _ _ h => h) (Or.inl ⟨by rfl, fun w hSw => by obtain ⟨_, hS1, hS2⟩ := hSw; go_simp⟩) hHeld ?_
      try simp only [Act.put, List.setIfInBounds_toArray, List.set_cons_zero, List.set_cons_succ]
      refine wpAnyH_take (i := 2) (oi := _) (v := ptv f0) rfl (by kernel_rfl) (by kernel_rfl) (by kernel_rfl) (fun _ _ _ h => h) (yieldsIf_load_mid (by rfl) _ _ rfl g 0 rfl (ptL f0) _ (fun w h => h.1) ptU rfl ptI) hHeld ?_
      try simp only [Act.put, List.setIfInBounds_toArray, List.set_cons_zero, List.set_cons_succ]
      refine wpAnyH_take (i := 3) (oi := _) (v := .pointer (some ⟨w.heap.size, 0, none⟩)) rfl (by kernel_rfl) (by kernel_rfl) (by kernel_rfl) (fun _ _ _ h => h) (Or.inl ⟨by rfl, fun w hSw => by obtain ⟨_, hS1, hS2⟩ := hSw; go_simp⟩) hHeld ?_
      try simp only [Act.put, List.setIfInBounds_toArray, List.set_cons_zero, List.set_cons_succ]
      refine wpAnyH_take (i := 4) (oi := _) (v := .int .i64 key) rfl (by kernel_rfl) (by kernel_rfl) (by kernel_rfl) (fun _ _ _ h => h) (Or.inl ⟨by rfl, fun w hSw => by obtain ⟨_, hS1, hS2⟩ := hSw; go_simp⟩) hHeld ?_
      try simp only [Act.put, List.setIfInBounds_toArray, List.set_cons_zero, List.set_cons_succ]
      refine wpAnyH_take (i := 5) (oi := _) (v := .pointer (some ⟨w.heap.size, 1, none⟩)) rfl (by kernel_rfl) (by kernel_rfl) (by kernel_rfl) (fun _ _ _ h => h) (Or.inl ⟨by rfl, fun w hSw => by obtain ⟨_, hS1, hS2⟩ := hSw; go_simp⟩) hHeld ?_
      try simp only [Act.put, List.setIfInBounds_toArray, List.set_cons_zero, List.set_cons_succ]
      refine wpAnyH_take (i := 6) (oi := _) (v := .slice o l.length cap) rfl (by kernel_rfl) (by kernel_rfl) (by kernel_rfl) (fun _ _ _ h => h) (Or.inl ⟨by rfl, fun w hSw => by obtain ⟨_, hS1, hS2⟩ := hSw; go_simp⟩) hHeld ?_
      try simp only [Act.put, List.setIfInBounds_toArray, List.set_cons_zero, List.set_cons_succ]
      refine wpAnyH_ready (rs := [7]) (by kernel_rfl) (by simp) ?_
      refine AllReadyH.cons rfl (fun K hK => ?_) AllReadyH.nil
      go_simp
      go_at_call 90
      refine HNT.out.mono ?_
      rintro e v1 ⟨rfl, hb4⟩
      replace hb4 : Below wr.heap.size wr v1 := (Below.drew (Below.refl _ _)).trans hb4
      have k0 := bC hb4 y0w hzwr
      have k1 := bC hb4 y1w hzwr
      have k2 := bC hb4 y2w hzwr
      have hra := range_kept HRG.out hb4 hgl
      obtain ⟨q0, q1, q2, gq0, gq1, gq2⟩ := HALLB.out v1 hb4
      have HB4 := hide hb4
      clear hb4
      go_wp2_with fail
      refine hK.out _ _ ⟨hra, k0, k1⟩ (fun hHeld => ?_)
      clear hK K
      try simp only [Act.put, List.setIfInBounds_toArray, List.set_cons_zero, List.set_cons_succ]
      refine wpAnyH_ready (rs := [8]) (by kernel_rfl) (by simp) ?_
      refine AllReadyH.cons rfl (fun K hK => ?_) AllReadyH.nil
      have heq := HEQ.out v1
      rw [hr] at heq
      go_simp
      refine hK.out _ _ ⟨hra, k0, k1⟩ (fun hHeld => ?_)
      clear hK K hHeld heq
      try simp only [Act.put, List.setIfInBounds_toArray, List.set_cons_zero, List.set_cons_succ]
      refine wpAnyH_done (by kernel_rfl) ?_ _
      clear hra
      go_wp2
      refine bodyPost_ret (v := .tuple #[polv 0 (.slice none 0 0) (.slice none 0 0), .bool false]) (by simp [results, Tryd.results64, go_sem, q0, q1, q2]) rfl (from_no (HN6.out hr) (setQ_below (HBW.out.trans (HB4.out.mono HBW.out.size)) (Nat.le_succ _) _ _ _))
     | true =>
      go_wp2
      refine wp_region_held_drew (S := (fun w' => w'.rangeAt g 0 (ptL f0) ∧ w'.cell? ⟨w.heap.size, 0, none⟩ = some (.int .i64 key) ∧ w'.cell? ⟨w.heap.size, 1, none⟩ = some (.slice o l.length cap))) (by kernel_rfl) ⟨HRG.out, y0w, y1w⟩ (fun hHeld => ?_)
      refine wpAnyH_take (i := 0) (oi := _) (v := .slice (some ⟨g, 0, none⟩) i cq) rfl (by kernel_rfl) (by kernel_rfl) (by kernel_rfl) (fun _ _ _ h => h) (Or.inl ⟨by rfl, fun w hSw => by obtain ⟨_, hS1, hS2⟩ := hSw; go_simp⟩) hHeld ?_
      try simp only [Act.put, List.setIfInBounds_toArray, List.set_cons_zero, List.set_cons_succ]
      refine wpAnyH_take (i := 1) (oi := _) (v := .pointer (some ⟨g, 0, none⟩)) rfl (by kernel_rfl) (by kernel_rfl) (by kernel_rfl) (fun _ _ _ h => h) (Or.inl ⟨by rfl, fun w hSw => by obtain ⟨_, hS1, hS2⟩ := hSw; go_simp⟩) hHeld ?_
      try simp only [Act.put, List.setIfInBounds_toArray, List.set_cons_zero, List.set_cons_succ]
      refine wpAnyH_take (i := 2) (oi := _) (v := ptv f0) rfl (by kernel_rfl) (by kernel_rfl) (by kernel_rfl) (fun _ _ _ h => h) (yieldsIf_load_mid (by rfl) _ _ rfl g 0 rfl (ptL f0) _ (fun w h => h.1) ptU rfl ptI) hHeld ?_
      try simp only [Act.put, List.setIfInBounds_toArray, List.set_cons_zero, List.set_cons_succ]
      refine wpAnyH_take (i := 3) (oi := _) (v := .pointer (some ⟨w.heap.size, 0, none⟩)) rfl (by kernel_rfl) (by kernel_rfl) (by kernel_rfl) (fun _ _ _ h => h) (Or.inl ⟨by rfl, fun w hSw => by obtain ⟨_, hS1, hS2⟩ := hSw; go_simp⟩) hHeld ?_
      try simp only [Act.put, List.setIfInBounds_toArray, List.set_cons_zero, List.set_cons_succ]
      refine wpAnyH_take (i := 4) (oi := _) (v := .int .i64 key) rfl (by kernel_rfl) (by kernel_rfl) (by kernel_rfl) (fun _ _ _ h => h) (Or.inl ⟨by rfl, fun w hSw => by obtain ⟨_, hS1, hS2⟩ := hSw; go_simp⟩) hHeld ?_
      try simp only [Act.put, List.setIfInBounds_toArray, List.set_cons_zero, List.set_cons_succ]
      refine wpAnyH_take (i := 5) (oi := _) (v := .pointer (some ⟨w.heap.size, 1, none⟩)) rfl (by kernel_rfl) (by kernel_rfl) (by kernel_rfl) (fun _ _ _ h => h) (Or.inl ⟨by rfl, fun w hSw => by obtain ⟨_, hS1, hS2⟩ := hSw; go_simp⟩) hHeld ?_
      try simp only [Act.put, List.setIfInBounds_toArray, List.set_cons_zero, List.set_cons_succ]
      refine wpAnyH_take (i := 6) (oi := _) (v := .slice o l.length cap) rfl (by kernel_rfl) (by kernel_rfl) (by kernel_rfl) (fun _ _ _ h => h) (Or.inl ⟨by rfl, fun w hSw => by obtain ⟨_, hS1, hS2⟩ := hSw; go_simp⟩) hHeld ?_
      try simp only [Act.put, List.setIfInBounds_toArray, List.set_cons_zero, List.set_cons_succ]
      refine wpAnyH_ready (rs := [7]) (by kernel_rfl) (by simp) ?_
      refine AllReadyH.cons rfl (fun K hK => ?_) AllReadyH.nil
      go_simp
      go_at_call 90
      refine HNT.out.mono ?_
      rintro e v1 ⟨rfl, hb4⟩
      replace hb4 : Below wr.heap.size wr v1 := (Below.drew (Below.refl _ _)).trans hb4
      have k0 := bC hb4 y0w hzwr
      have k1 := bC hb4 y1w hzwr
      have k2 := bC hb4 y2w hzwr
      have hra := range_kept HRG.out hb4 hgl
      obtain ⟨q0, q1, q2, gq0, gq1, gq2⟩ := HALLB.out v1 hb4
      have HB4 := hide hb4
      clear hb4
      go_wp2_with fail
      refine hK.out _ _ ⟨hra, k0, k1⟩ (fun hHeld => ?_)
      clear hK K
      try simp only [Act.put, List.setIfInBounds_toArray, List.set_cons_zero, List.set_cons_succ]
      refine wpAnyH_ready (rs := [8]) (by kernel_rfl) (by simp) ?_
      refine AllReadyH.cons rfl (fun K hK => ?_) AllReadyH.nil
      have heq := HEQ.out v1
      rw [hr] at heq
      go_simp
      refine hK.out _ _ ⟨hra, k0, k1⟩ (fun hHeld => ?_)
      clear hK K hHeld heq
      try simp only [Act.put, List.setIfInBounds_toArray, List.set_cons_zero, List.set_cons_succ]
      refine wpAnyH_done (by kernel_rfl) ?_ _
      clear hra
      go_wp2
      refine bodyPost_ret (v := .tuple #[polv key (.slice o l.length cap) (.slice (some ⟨g, 0, none⟩) i cq), .bool true]) (by simp [results, Tryd.results64, go_sem, q0, q1, q2]) rfl ?_
      have hyes := HYS.out hr
      have hlow : w.heap.size + 1 < w2.heap.size := by omega
      have hown := own_low (own_low (own_low (own_kept HOW.out HB4.out) hlow 0 (.int .i64 key)) hlow 1 (.slice o l.length cap)) hlow 2 (.slice (some ⟨g, 0, none⟩) i cq)
      have hni := HNN.out
      subst hni
      exact ⟨_, by rw [hyes], fun _ => ⟨some ⟨g, 0, none⟩, cq, rfl, own_mono hown (by omega)⟩, fun h => absurd (h.symm.trans hyes) (by simp), setQ_below (HBW.out.trans (HB4.out.mono HBW.out.size)) (Nat.le_succ _) _ _ _⟩

end Go.Proofs.YtmmhgkkcpjhiiaaDoor

