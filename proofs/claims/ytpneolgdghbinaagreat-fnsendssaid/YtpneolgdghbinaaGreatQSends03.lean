/- Several texts in one: Lists, Fr, MarkL, ShB. -/
import Derived.Deep.Slices
import Derived.Laws.OwnMore
import Derived.Test.YtpneolgdghbinaaGreatQSends02
namespace Go.Proofs.YtpneolgdghbinaaGreat
open Go.ChangeShapes Go.WideShapes Go.ChangeAt Go.RowKit Go.Joins
set_option linter.unusedVariables false
set_option linter.unusedSimpArgs false
set_option maxRecDepth 100000
set_option maxHeartbeats 40000000
structure Lay (α : Type) where
  k : Nat
  cs : α → List Value
  d : α
  len : ∀ a, (cs a).length = k
variable {α : Type}
theorem Q0s (L : Lay α) : ∀ l : List α, (l.flatMap L.cs).length = l.length * L.k
  | [] => by simp
  | a :: l => by simp only [List.flatMap_cons, List.length_append, L.len, Q0s L l, List.length_cons]; rw [Nat.add_mul]; omega
theorem Q4h (L : Lay α) : ∀ (l : List α) (i j : Nat), i < l.length → j < L.k → (l.flatMap L.cs)[i * L.k + j]? = (L.cs (l.getD i L.d))[j]?
  | a :: l, 0, j, _, hj => by
    rw [Nat.zero_mul, Nat.zero_add, List.flatMap_cons, List.getElem?_append_left (by rw [L.len]; exact hj)]; rfl
  | a :: l, i + 1, j, h, hj => by
    have e : (i + 1) * L.k + j = L.k + (i * L.k + j) := by rw [Nat.add_mul]; omega
    rw [List.flatMap_cons, e, List.getElem?_append_right (by rw [L.len]; omega), L.len, Nat.add_sub_cancel_left]
    exact Q4h L l i j (by simpa using h) hj
def RdL (L : Lay α) (C : Nat) (w : World) (o : Option Addr) (l : List α) : Prop :=
  l = [] ∨ ∃ b off, o = some ⟨b, off, none⟩ ∧ b < C ∧ ∀ i, i < l.length → ∀ j, j < L.k → w.cell? ⟨b, off + i * L.k + j, none⟩ = (L.cs (l.getD i L.d))[j]?
theorem RdL.kept {L : Lay α} {C D : Nat} {w w' : World} {o : Option Addr} {l : List α} (h : RdL L C w o l) (hb : Below D w w') (hc : C ≤ D) : RdL L C w' o l := by
  rcases h with h | ⟨b, off, ho, hlt, r⟩
  · exact .inl h
  · exact .inr ⟨b, off, ho, hlt, fun i hi j hj => (hb.cell (p := ⟨b, off + i * L.k + j, none⟩) (Kbq hlt hc)).trans (r i hi j hj)⟩
theorem RdL.le {L : Lay α} {C D : Nat} {w : World} {o : Option Addr} {l : List α} (h : RdL L C w o l) (hc : C ≤ D) : RdL L D w o l := by
  rcases h with h | ⟨b, off, ho, hlt, r⟩
  · exact .inl h
  · exact .inr ⟨b, off, ho, Kbq hlt hc, r⟩
abbrev ownL (L : Lay α) (e : TypeId) (w : World) (base : Nat) (v : Value) (l : List α) : Prop := w.ownsRow base e L.k v l.length (l.flatMap L.cs)
theorem ownL.rd {L : Lay α} {e : TypeId} {w : World} {base g n cap : Nat} {l : List α} (h : ownL L e w base (.slice (some ⟨g, 0, none⟩) n cap) l) : RdL L w.heap.size w (some ⟨g, 0, none⟩) l := by
  have hn : n = l.length := by
    rcases h.2 with ⟨h', _⟩ | ⟨g', cap', cur, h', _⟩
    · simp at h'
    · simp at h'; exact h'.2.1
  subst hn
  refine .inr ⟨g, 0, rfl, (h.lt g rfl).2, fun i hi j hj => ?_⟩
  have hij : i * L.k + j < l.length * L.k := by
    have : (i + 1) * L.k ≤ l.length * L.k := Nat.mul_le_mul_right _ hi
    rw [Nat.add_mul] at this; omega
  rw [Nat.zero_add, h.cellAt _ hij, Q4h L l i j hi hj]
theorem ownL.open {L : Lay α} {e : TypeId} {w : World} {base : Nat} {v : Value} {l : List α} (h : ownL L e w base v l) : ∃ o cap, v = .slice o l.length cap ∧ RdL L w.heap.size w o l := by
  have h0 := h
  rcases h.2 with ⟨h1, h2⟩ | ⟨g, cap, cur, hv, _⟩
  · have e : l = [] := List.eq_nil_of_length_eq_zero h2
    subst e
    exact ⟨none, 0, by simpa using h1, .inl rfl⟩
  · subst hv
    exact ⟨_, cap, rfl, h0.rd⟩
theorem Q1p (L : Lay α) (l : List α) (k : Nat) (h : k < l.length) : l.take (k + 1) = l.take k ++ [l.getD k L.d] := by
  rw [List.take_succ_eq_append_getElem h]; simp [h]
def Q3k (L : Lay α) (l : List α) (k : Nat) : List α := l.take k ++ List.replicate (l.length - k) L.d
theorem Q61 (L : Lay α) (l : List α) (k : Nat) (h : k ≤ l.length) : (Q3k L l k).length = l.length := by simp [Q3k]; omega
theorem Q7J (L : Lay α) (l : List α) : Q3k L l 0 = List.replicate l.length L.d := by simp [Q3k]
theorem Q9B (L : Lay α) (l : List α) : Q3k L l l.length = l := by simp [Q3k]
theorem Q8Z (L : Lay α) (l : List α) (k : Nat) (h : k < l.length) : (Q3k L l k).set k (l.getD k L.d) = Q3k L l (k + 1) := by
  have e1 : l.length - k = (l.length - (k + 1)) + 1 := by omega
  have e2 : (l.take k).length = k := by simp; omega
  unfold Q3k
  rw [e1, List.replicate_succ, List.set_append_right _ _ (by omega), e2, Nat.sub_self, List.set_cons_zero, Q1p L l k h, List.append_assoc]
  rfl
theorem Q3q (L : Lay α) (z : Value) (hz : z.cells.toList = L.cs L.d) (n : Nat) : (madeCells z.cells (n * L.k)).toList = (List.replicate n L.d).flatMap L.cs := by
  apply List.ext_getElem?
  intro j
  by_cases hj : j < n * L.k
  · have hk : 0 < L.k := by rcases Nat.eq_zero_or_pos L.k with h | h; · simp [h] at hj
                            · exact h
    have hjm : j % L.k < L.k := Nat.mod_lt _ hk
    have hjd : j / L.k < n := by rw [Nat.div_lt_iff_lt_mul hk]; exact hj
    have e : j = j / L.k * L.k + j % L.k := by rw [Nat.mul_comm]; exact (Nat.div_add_mod j L.k).symm
    have hs : z.cells.size = L.k := by rw [← Array.length_toList, hz, L.len]
    have hd : (List.replicate n L.d).getD (j / L.k) L.d = L.d := by simp [hjd]
    have hg := Q4h L (List.replicate n L.d) (j / L.k) (j % L.k) (by simpa using hjd) hjm
    rw [← e, hd, ← hz] at hg
    rw [hg]
    simp [madeCells, hj, hs]
    rw [getElem!_pos z.cells (j % L.k) (by omega), Array.getElem?_eq_getElem (by omega)]
  · have h2 : ((List.replicate n L.d).flatMap L.cs).length ≤ j := by rw [Q0s]; simpa using hj
    rw [List.getElem?_eq_none h2, List.getElem?_eq_none (by simp [madeCells]; omega)]
theorem Q96 (L : Lay α) (hk : L.k = 1) {v0 : Value} {a : α} (ha : L.cs a = [v0]) : ∀ (l : List α) (i : Nat), (l.flatMap L.cs).set i v0 = (l.set i a).flatMap L.cs
  | [], i => by simp
  | q :: l, 0 => by
    obtain ⟨q0, hq⟩ := List.length_eq_one_iff.1 ((L.len q).trans hk)
    simp [ha, hq]
  | q :: l, i + 1 => by
    obtain ⟨q0, hq⟩ := List.length_eq_one_iff.1 ((L.len q).trans hk)
    simp only [List.flatMap_cons, hq, List.cons_append, List.nil_append, List.set_cons_succ, Q96 L hk ha l i]
theorem Q9j (L : Lay α) (hk : L.k = 3) {v0 v1 v2 : Value} {a : α} (ha : L.cs a = [v0, v1, v2]) : ∀ (l : List α) (i : Nat), (((l.flatMap L.cs).set (i * 3) v0).set (i * 3 + 1) v1).set (i * 3 + 2) v2 = (l.set i a).flatMap L.cs
  | [], i => by simp
  | q :: l, 0 => by
    have hq := (L.len q).trans hk
    match hc : L.cs q, hq with
    | [q0, q1, q2], _ => simp [ha, hc]
  | q :: l, i + 1 => by
    have hq := (L.len q).trans hk
    match hc : L.cs q, hq with
    | [q0, q1, q2], _ =>
      rw [show (i + 1) * 3 = i * 3 + 1 + 1 + 1 by omega]
      simp only [List.flatMap_cons, hc, List.cons_append, List.nil_append, List.set_cons_succ]
      rw [Q9j L hk ha l i]
end Go.Proofs.YtpneolgdghbinaaGreat
namespace Go.Proofs.YtpneolgdghbinaaGreat
open Go.ChangeShapes Go.WideShapes Go.ChangeAt Go.RowKit Go.Joins
set_option linter.unusedVariables false
set_option linter.unusedSimpArgs false
set_option maxRecDepth 100000
set_option maxHeartbeats 40000000
structure Stp (lo hi:Nat) (w w':World):Prop where
 os:w'.os=w.os
 tape:w'.tape=w.tape
 output:w'.output=w.output
 size:w.heap.size≤w'.heap.size
 block:∀k,k < w.heap.size→(k < lo∨hi≤k)→w'.heap[k]? =w.heap[k]?
theorem Stp.of {lo hi:Nat} {w w':World} (h:Below w.heap.size w w'):Stp lo hi w w':=⟨h.os,h.tape,h.output,h.size,fun k hk _=> h.block k hk⟩
theorem Stp.refl {lo hi:Nat} (w:World):Stp lo hi w w:=⟨rfl,rfl,rfl,Kaq _,fun _ _ _=> rfl⟩
theorem Stp.below {lo hi B:Nat} {w w':World} (h:Stp lo hi w w') (hB:B≤lo) (hs:B≤w.heap.size):Below B w w':=⟨h.os,h.tape,h.output,h.size,fun k hk=> h.block k (Kbq hk hs) (.inl (Kbq hk hB))⟩
theorem Stp.trans {lo hi:Nat} {a b c:World} (h:Stp lo hi a b) (k:Stp lo hi b c):Stp lo hi a c:=
 ⟨k.os.trans h.os,k.tape.trans h.tape,k.output.trans h.output,Kdq h.size k.size,fun i hi' hn=> (k.block i (Kbq hi' h.size) hn).trans (h.block i hi' hn)⟩
theorem Stp.grown {lo hi:Nat} {w w':World} {r:Option Nat} (h:w.grownBy w' r) (hr:∀b,r=some b→lo≤b∧b < hi):Stp lo hi w w':=
 ⟨h.os,h.tape,h.output,h.size,fun k hk hn=> h.block k hk (fun e=> by have:=hr k e.symm;omega)⟩
theorem Stp.box {lo hi k:Nat} {w w':World} {X:Obj} (s:Stp lo hi w w') (h:w.heap[k]? =some X) (hk:k < lo∨hi≤k):w'.heap[k]? =some X:=
 (s.block k (Array.getElem?_eq_some_iff.1 h).1 hk).trans h
def InRow (lo hi:Nat) (w:World) (e:TypeId) (size:Nat) (v:Value) (n:Nat) (xs:List Value):Prop:=w.ownsRow lo e size v n xs∧∀b,v.ownBlock=some b→b < hi
theorem InRow.of {lo:Nat} {w:World} {e:TypeId} {size:Nat} {v:Value} {n:Nat} {xs:List Value} (h:w.ownsRow lo e size v n xs):InRow lo w.heap.size w e size v n xs:=⟨h,fun b e=> (h.lt b e).2⟩
theorem InRow.mono {lo hi lo' hi':Nat} {w:World} {e:TypeId} {size:Nat} {v:Value} {n:Nat} {xs:List Value} (h:InRow lo hi w e size v n xs) (h1:lo'≤lo) (h2:hi≤hi'):InRow lo' hi' w e size v n xs:=
 ⟨Q04 h.1 h1,fun b e=> Kbq (h.2 b e) h2⟩
theorem InRow.step {a b lo hi:Nat} {w w':World} {e:TypeId} {size:Nat} {v:Value} {n:Nat} {xs:List Value} (h:InRow a b w e size v n xs) (s:Stp lo hi w w') (hd:hi≤a∨b≤lo):InRow a b w' e size v n xs:=by
 refine ⟨⟨h.1.1, ?_⟩,h.2⟩
 rcases h.1.2 with h1|⟨g,cap,cur,hv,hg,hc,r⟩
 ·exact .inl h1
 ·have hgb:g < b:=h.2 g (by rw [hv];rfl)
  exact .inr ⟨g,cap,cur,hv,hg,s.box hc (by omega),r⟩
theorem InRow.steps {a b lo hi:Nat} {w w':World} {e:TypeId} {size:Nat} {v:Value} {n:Nat} {xs:List Value} (h:InRow a b w e size v n xs) (s:Stp lo hi w w') (hd:∀g,v.ownBlock=some g→g < lo∨hi≤g):InRow a b w' e size v n xs:=by
 refine ⟨⟨h.1.1, ?_⟩,h.2⟩
 rcases h.1.2 with h1|⟨g,cap,cur,hv,hg,hc,r⟩
 ·exact .inl h1
 ·exact .inr ⟨g,cap,cur,hv,hg,s.box hc (hd g (by rw [hv];rfl)),r⟩
theorem Q2w {w:World} {b1 b2 s1 s2 n1 n2:Nat} {e1 e2:TypeId} {v1 v2:Value} {x1 x2:List Value} (h1:w.ownsRow b1 e1 s1 v1 n1 x1) (h2:w.ownsRow b2 e2 s2 v2 n2 x2) (he:e1≠e2):v1.ownBlock=none∨v1.ownBlock≠v2.ownBlock:=by
 rcases h1.2 with ⟨rfl,_⟩|⟨g,cap,cur,rfl,_,hc,_⟩
 ·exact .inl rfl
 ·right
  rcases h2.2 with ⟨rfl,_⟩|⟨g',cap',cur',rfl,_,hc',_⟩
  ·simp [Value.ownBlock]
  ·intro e
   simp [Value.ownBlock] at e
   subst e
   rw [hc] at hc'
   injection hc' with hc'
   injection hc' with _ hc' _
   exact he hc'
theorem InRow.kept {a b:Nat} {w w':World} {e:TypeId} {size:Nat} {v:Value} {n:Nat} {xs:List Value} {r:Option Nat} (h:InRow a b w e size v n xs) (hg:w.grownBy w' r) (hn:v.ownBlock=none∨v.ownBlock≠r):InRow a b w' e size v n xs:=
 ⟨World.ownsRow.kept h.1 hg hn,h.2⟩
def RdV {α:Type} (L:Lay α) (C:Nat) (w:World) (v:Value) (l:List α):Prop:=∃o c,v=.slice o l.length c∧RdL L C w o l
theorem RdV.kept {α:Type} {L:Lay α} {C D:Nat} {w w':World} {v:Value} {l:List α} (h:RdV L C w v l) (hb:Below D w w') (hc:C≤D):RdV L C w' v l:=by
 obtain ⟨o,c,e,r⟩:=h
 exact ⟨o,c,e,r.kept hb hc⟩
theorem RdV.le {α:Type} {L:Lay α} {C D:Nat} {w:World} {v:Value} {l:List α} (h:RdV L C w v l) (hc:C≤D):RdV L D w v l:=by
 obtain ⟨o,c,e,r⟩:=h
 exact ⟨o,c,e,r.le hc⟩
abbrev InL {α:Type} (L:Lay α) (e:TypeId) (lo hi:Nat) (w:World) (v:Value) (l:List α):Prop:=InRow lo hi w e L.k v l.length (l.flatMap L.cs)
theorem InL.rd {α:Type} {L:Lay α} {e:TypeId} {lo hi:Nat} {w:World} {v:Value} {l:List α} (h:InL L e lo hi w v l):RdV L hi w v l:=by
 have h0:=h.1
 rcases h.1.2 with ⟨h1,h2⟩|⟨g,cap,cur,hv,_⟩
 ·have e:l=[]:=List.eq_nil_of_length_eq_zero h2
  subst e
  exact ⟨none,0,by simpa using h1,.inl rfl⟩
 ·subst hv
  refine ⟨_,cap,rfl, ?_⟩
  rcases ownL.rd (L:=L) h0 with h'|⟨b,off,ho,hb,r⟩
  ·exact .inl h'
  ·cases ho
   exact .inr ⟨_,_,rfl,h.2 _ rfl,r⟩
def Qh8 (v:Value):Prop:=∀n c,v=.slice none n c→c=0
theorem InRow.cap {lo hi:Nat} {w:World} {e:TypeId} {size:Nat} {v:Value} {n:Nat} {xs:List Value} (h:InRow lo hi w e size v n xs):Qh8 v:=by
 intro n' c hv
 rcases h.1.2 with ⟨h1,_⟩|⟨g,cap,cur,h1,_⟩
 ·rw [h1] at hv;injection hv with _ _ h3;exact h3.symm
 ·rw [h1] at hv;injection hv with h3 _ _;cases h3
end Go.Proofs.YtpneolgdghbinaaGreat
namespace Go.Proofs.YtpneolgdghbinaaGreat
open Go.ChangeShapes Go.WideShapes Go.ChangeAt Go.RowKit Go.Joins
set_option linter.unusedVariables false
set_option linter.unusedSimpArgs false
set_option maxRecDepth 100000
set_option maxHeartbeats 40000000
variable {α:Type}
theorem QbU {w wr:World} {base g c n:Nat} {e:TypeId} {size:Nat} {xs:List Value} {j:Nat} {u:Value} (hown:wr.ownsRow base e size (.slice (some ⟨g,0,none⟩) n c) n xs) (hg:w.grownBy wr (some g)):
  (wr.setCell ⟨g,j,none⟩ u).ownsRow base e size (.slice (some ⟨g,0,none⟩) n c) n (xs.set j u)∧w.grownBy (wr.setCell ⟨g,j,none⟩ u) (some g):=by
 have h:=hown.stored j u
 exact ⟨h.1,⟨hg.os,hg.tape,hg.output,by have:=h.2.size;have:=hg.size;omega,fun i hi hne=> (h.2.block i (Kbq hi hg.size) hne).trans (hg.block i hi hne)⟩⟩
end Go.Proofs.YtpneolgdghbinaaGreat
namespace Go.Proofs.YtpneolgdghbinaaGreat
open Go.ChangeShapes Go.WideShapes Go.ChangeAt Go.RowKit Go.Joins
set_option linter.unusedVariables false
set_option linter.unusedSimpArgs false
set_option maxRecDepth 100000
set_option maxHeartbeats 40000000
def QeC:Lay Int:=⟨1,fun a=> [.int .u8 a],0,fun _=> rfl⟩
theorem Q7X:∀l:List Int,l.flatMap QeC.cs=l.map (Value.int .u8)
 |[]=> rfl
 |a::l=> by rw [List.flatMap_cons,Q7X l];rfl
theorem Q8B {w:World} {base:Nat} {v:Value} {l:List Int}:ownB w base v l↔ownL QeC 5 w base v l:=by
 unfold ownB ownL;rw [Q7X];exact Iff.rfl
theorem Qgw {C:Nat} {w:World} {o:Option Addr} {l:List Int}:RdB C w o l↔RdL QeC C w o l:=by
 constructor
 ·rintro (h|⟨b,off,ho,hb,r⟩)
  ·exact .inl h
  ·refine .inr ⟨b,off,ho,hb,fun i hi j hj=> ?_⟩
   have hj0:j=0:=by have:j < 1:=hj;omega
   subst hj0;have:=r i hi
   rw [show QeC.k=1 from rfl,Nat.mul_one,Nat.add_zero]
   exact this
 ·rintro (h|⟨b,off,ho,hb,r⟩)
  ·exact .inl h
  ·refine .inr ⟨b,off,ho,hb,fun i hi=> ?_⟩
   have:=r i hi 0 (by decide)
   rw [show QeC.k=1 from rfl,Nat.mul_one,Nat.add_zero] at this
   exact this
theorem Qhq {w:World} {o:Option Addr} {l:List Int}:RdL QeC w.heap.size w o l↔Rd w o l:=Qgw.symm
abbrev InB:=InL QeC 5
theorem InB.of {w:World} {base:Nat} {v:Value} {l:List Int} (h:ownB w base v l):InB base w.heap.size w v l:=InRow.of (Q8B.1 h)
end Go.Proofs.YtpneolgdghbinaaGreat
