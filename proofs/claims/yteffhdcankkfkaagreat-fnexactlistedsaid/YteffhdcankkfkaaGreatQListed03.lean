/- Several texts in one: Lists, Fr, MarkL, ShB. -/
import Derived.Deep.Slices
import Derived.Laws.OwnMore
import Derived.Test.YteffhdcankkfkaaGreatQListed02
namespace Go.Proofs.YteffhdcankkfkaaGreat
open Go.ChangeShapes Go.WideShapes Go.ChangeAt Go.RowKit Go.Joins
set_option linter.unusedVariables false
set_option linter.unusedSimpArgs false
set_option maxRecDepth 100000
set_option maxHeartbeats 40000000
structure Lay (α : Type) where
  k : Nat
  cs : α -> List Value
  d : α
  len : ∀ a, (cs a).length = k
variable {α : Type}
theorem Q0f (L : Lay α) : ∀ l : List α, (l.flatMap L.cs).length = l.length * L.k
  | [] =>by simp
  | a :: l =>by simp only[List.flatMap_cons, List.length_append, L.len, Q0f L l, List.length_cons]; rw[Nat.add_mul]; omega
theorem Q35 (L : Lay α) : ∀ (l : List α) (i j : Nat), i < l.length -> j < L.k -> (l.flatMap L.cs)[i * L.k + j]? = (L.cs (l.getD i L.d))[j]?
  | a :: l, 0, j, _, hj =>by
    rw[Nat.zero_mul, Nat.zero_add, List.flatMap_cons, List.getElem?_append_left (by rw[L.len]; exact hj)]; rfl
  | a :: l, i + 1, j, h, hj =>by
    have e : (i + 1) * L.k + j = L.k + (i * L.k + j) := by rw[Nat.add_mul]; omega
    rw[List.flatMap_cons, e, List.getElem?_append_right (by rw[L.len]; omega), L.len, Nat.add_sub_cancel_left];exact Q35 L l i j (by simpa using h) hj
def RdL (L : Lay α) (C : Nat) (w : World) (o : Option Addr) (l : List α) : Prop :=
  l = [] \/ ∃ b off, o = some ⟨b, off, none⟩ /\ b < C /\ ∀ i, i < l.length -> ∀ j, j < L.k -> w.cell? ⟨b, off + i * L.k + j, none⟩ = (L.cs (l.getD i L.d))[j]?
theorem RdL.kept {L : Lay α} {C D : Nat} {w d : World} {o : Option Addr} {l : List α} (h : RdL L C w o l) (f : Below D w d) (g : C <= D) : RdL L C d o l := by
  rcases h with h | ⟨b, c, n, a, r⟩
  · exact .inl h
  · exact .inr ⟨b, c, n, a, fun i hi j m =>(f.cell (p := ⟨b, c + i * L.k + j, none⟩) (Kbq a g)).trans (r i hi j m)⟩
theorem RdL.le {L : Lay α} {C D : Nat} {w : World} {o : Option Addr} {l : List α} (h : RdL L C w o l) (d : C <= D) : RdL L D w o l := by
  rcases h with h | ⟨b, c, f, a, r⟩
  · exact .inl h
  · exact .inr ⟨b, c, f, Kbq a d, r⟩
abbrev ownL (L : Lay α) (e : TypeId) (w : World) (base : Nat) (v : Value) (l : List α) : Prop := w.ownsRow base e L.k v l.length (l.flatMap L.cs)
theorem ownL.rd {L : Lay α} {e : TypeId} {w : World} {base g n cap : Nat} {l : List α} (h : ownL L e w base (.slice (some ⟨g, 0, none⟩) n cap) l) : RdL L w.heap.size w (some ⟨g, 0, none⟩) l := by
  have m : n = l.length := by
    rcases h.2 with⟨a, _⟩ | ⟨p, c, d, a, _⟩
    · simp at a
    · simp at a; exact a.2.1
  subst m;refine .inr ⟨g, 0, rfl, (h.lt g rfl).2, fun i hi j f =>?_⟩
  have b : i * L.k + j < l.length * L.k := by
    have : (i + 1) * L.k <= l.length * L.k := Nat.mul_le_mul_right _ hi;rw[Nat.add_mul]at this; omega
  rw[Nat.zero_add, h.cellAt _ b, Q35 L l i j hi f]
theorem ownL.open {L : Lay α} {e : TypeId} {w : World} {base : Nat} {v : Value} {l : List α} (h : ownL L e w base v l) : ∃ o cap, v = .slice o l.length cap /\ RdL L w.heap.size w o l := by
  have b := h
  rcases h.2 with⟨c, h2⟩ | ⟨g, cap, a, hv, _⟩
  · have e : l = [] := List.eq_nil_of_length_eq_zero h2
    subst e;exact⟨none, 0, by simpa using c, .inl rfl⟩
  · subst hv
    exact⟨_, cap, rfl, b.rd⟩
theorem Q1q (L : Lay α) (l : List α) (k : Nat) (h : k < l.length) : l.take (k + 1) = l.take k ++ [l.getD k L.d] := by
  rw[List.take_succ_eq_append_getElem h]; simp[h]
def Q17 (L : Lay α) (l : List α) (k : Nat) : List α := l.take k ++ List.replicate (l.length - k) L.d
theorem Q1C (L : Lay α) (l : List α) (k : Nat) (h : k <= l.length) : (Q17 L l k).length = l.length := by simp[Q17]; omega
theorem Q2f (L : Lay α) (l : List α) : Q17 L l 0 = List.replicate l.length L.d := by simp[Q17]
theorem Q2R (L : Lay α) (l : List α) : Q17 L l l.length = l := by simp[Q17]
theorem Q2I (L : Lay α) (l : List α) (k : Nat) (h : k < l.length) : (Q17 L l k).set k (l.getD k L.d) = Q17 L l (k + 1) := by
  have a : l.length - k = (l.length - (k + 1)) + 1 := by omega
  have b : (l.take k).length = k := by simp; omega
  unfold Q17;rw[a, List.replicate_succ, List.set_append_right _ _ (by omega), b, Nat.sub_self, List.set_cons_zero, Q1q L l k h, List.append_assoc]
  rfl
theorem Q11 (L : Lay α) (z : Value) (hz : z.cells.toList = L.cs L.d) (n : Nat) : (madeCells z.cells (n * L.k)).toList = (List.replicate n L.d).flatMap L.cs := by
  apply List.ext_getElem?;intro j
  by_cases hj : j < n * L.k
  · have hk : 0 < L.k := by rcases Nat.eq_zero_or_pos L.k with h | h; · simp [h] at hj
                            · exact h
    have hjm : j % L.k < L.k := Nat.mod_lt _ hk
    have hjd : j / L.k < n := by rw[Nat.div_lt_iff_lt_mul hk]; exact hj
    have e : j = j / L.k * L.k + j % L.k := by rw[Nat.mul_comm]; exact(Nat.div_add_mod j L.k).symm
    have hs : z.cells.size = L.k := by rw[<- Array.length_toList, hz, L.len]
    have hd : (List.replicate n L.d).getD (j / L.k) L.d = L.d := by simp[hjd]
    have hg := Q35 L (List.replicate n L.d) (j / L.k) (j % L.k) (by simpa using hjd) hjm;rw[<- e, hd, <- hz]at hg;rw[hg];simp[madeCells, hj, hs];rw[getElem!_pos z.cells (j % L.k) (by omega), Array.getElem?_eq_getElem (by omega)]
  · have h2 : ((List.replicate n L.d).flatMap L.cs).length <= j := by rw[Q0f]; simpa using hj
    rw[List.getElem?_eq_none h2, List.getElem?_eq_none (by simp[madeCells]; omega)]
theorem Q3s (L : Lay α) (b : L.k = 1) {f : Value} {a : α} (d : L.cs a = [f]) : ∀ (l : List α) (i : Nat), (l.flatMap L.cs).set i f = (l.set i a).flatMap L.cs
  | [], i =>by simp
  | q :: l, 0 =>by
    obtain⟨g, c⟩ := List.length_eq_one_iff.1 ((L.len q).trans b);simp[d, c]
  | q :: l, i + 1 =>by
    obtain⟨g, c⟩ := List.length_eq_one_iff.1 ((L.len q).trans b);simp only[List.flatMap_cons, c, List.cons_append, List.nil_append, List.set_cons_succ, Q3s L b d l i]
theorem Q2T (L : Lay α) (b : L.k = 3) {f g h : Value} {a : α} (d : L.cs a = [f, g, h]) : ∀ (l : List α) (i : Nat), (((l.flatMap L.cs).set (i * 3) f).set (i * 3 + 1) g).set (i * 3 + 2) h = (l.set i a).flatMap L.cs
  | [], i =>by simp
  | q :: l, 0 =>by
    have c := (L.len q).trans b
    match hc : L.cs q, c with
    | [q0, q1, q2], _ =>simp[d, hc]
  | q :: l, i + 1 =>by
    have c := (L.len q).trans b
    match hc : L.cs q, c with
    | [q0, q1, q2], _ =>
      rw[show(i + 1) * 3 = i * 3 + 1 + 1 + 1 by omega];simp only[List.flatMap_cons, hc, List.cons_append, List.nil_append, List.set_cons_succ];rw[Q2T L b d l i]
theorem Q3w {H : Type} {enc : TypeId × Value -> H} {P : Program} {W : World} {t e : TypeId} {s : Nat} {cs : List Value} {x : DataW H × List MemPlace} (L : Lay α) (J : 0 < L.k) (T : P.underlying t = some (.slice e)) (M : P.cellsOf e = L.k)
    (C : ∀ (n : Nat) (cs : List Value) (y : DataW H × List MemPlace), cs.length = L.k -> DataW.trod enc P W 0 (fun _ =>true) true n e cs = some y -> ∃ a : α, cs = L.cs a)
    (h : DataW.trod enc P W 0 (fun _ =>true) true s t cs = some x) :
    ∃ (o : Option Addr) (cap : Nat) (l : List α), cs = [.slice o l.length cap] /\ l.length <= maxLen /\ RdL L W.heap.size W o l := by
  rcases Go.Deep.open_slice T h with⟨p, _⟩ | ⟨a, len, cap, m, n, D, Pl, p, _, V, X, F, _, U⟩
  · exact⟨none, 0, [], p, Kcq _, .inl rfl⟩
  · have O : len <= m := by rw[F]; split <;> omega
    have N : ∀ i, i < len -> ∃ y : α, ∀ j, j < L.k -> W.cell? (a.add (i * L.k + j)) = (L.cs y)[j]? := fun i hi =>by
      obtain⟨B, u, h2⟩ := U i (by omega);rw[M]at u;obtain⟨_, w, c⟩ := World.cells?_some u;obtain⟨y, rfl⟩ := C n B _ w h2;exact⟨y, fun j E =>by have := c j E; rwa [Go.Deep.add_add]at this⟩
    have R : Inhabited α := ⟨L.d⟩;obtain⟨f, I⟩ := Go.Deep.choose_lt N;refine⟨some a, cap, (List.range len).map f, by simpa using p, by simp; omega, ?_⟩
    by_cases h0 : len = 0
    · left; simp[h0]
    · right
      obtain⟨b, r, z⟩ := a;have A := I 0 (by omega) 0 J;rw[KGq (by rw[L.len]; exact J)]at A
      have q : z = none := by simpa[Addr.add]using World.cell?_spot A
      subst q
      have G : ∀ j, (⟨b, r, none⟩ : Addr).add j = ⟨b, r + j, none⟩ := fun j =>by by_cases h : j = 0 <;> simp[Addr.add, h]
      refine⟨b, r, rfl, ?_, fun i hi j E =>?_⟩
      · rw[G]at A
        rcases Nat.lt_or_ge b W.heap.size with h | h
        · exact h
        · simp[World.cell?, Array.getElem?_eq_none h]at A
      · have v : i < len := by simpa using hi
        have u := I i v j E;rw[G]at u
        have g : ((List.range len).map f).getD i L.d = f i := by simp[v]
        rw[g, <- u, Nat.add_assoc]
end Go.Proofs.YteffhdcankkfkaaGreat
namespace Go.Proofs.YteffhdcankkfkaaGreat
open Go.ChangeShapes Go.WideShapes Go.ChangeAt Go.RowKit Go.Joins
set_option linter.unusedVariables false
set_option linter.unusedSimpArgs false
set_option maxRecDepth 100000
set_option maxHeartbeats 40000000
structure Stp (lo hi:Nat) (w w':World):Prop where
 os:w'.os=w.os
 tape:w'.tape=w.tape
 output:w'.output=w.output
 size:w.heap.size<=w'.heap.size
 block:∀k,k < w.heap.size->(k < lo\/hi<=k)->w'.heap[k]? =w.heap[k]?
theorem Stp.of {lo hi:Nat} {w w':World} (h:Below w.heap.size w w'):Stp lo hi w w':=⟨h.os,h.tape,h.output,h.size,fun k hk _=>h.block k hk⟩
theorem Stp.refl {lo hi:Nat} (w:World):Stp lo hi w w:=⟨rfl,rfl,rfl,Kaq _,fun _ _ _=>rfl⟩
theorem Stp.below {lo hi B:Nat} {w w':World} (h:Stp lo hi w w') (hB:B<=lo) (hs:B<=w.heap.size):Below B w w':=⟨h.os,h.tape,h.output,h.size,fun k hk=>h.block k (Kbq hk hs) (.inl (Kbq hk hB))⟩
theorem Stp.trans {lo hi:Nat} {a b c:World} (h:Stp lo hi a b) (k:Stp lo hi b c):Stp lo hi a c:=
 ⟨k.os.trans h.os,k.tape.trans h.tape,k.output.trans h.output,Kdq h.size k.size,fun i d f=>(k.block i (Kbq d h.size) f).trans (h.block i d f)⟩
theorem Stp.grown {lo hi:Nat} {w a:World} {r:Option Nat} (h:w.grownBy a r) (d:∀b,r=some b->lo<=b/\b < hi):Stp lo hi w a:=
 ⟨h.os,h.tape,h.output,h.size,fun k c f=>h.block k c (fun e=>by have:=d k e.symm;omega)⟩
theorem Stp.box {lo hi k:Nat} {w w':World} {X:Obj} (s:Stp lo hi w w') (h:w.heap[k]? =some X) (hk:k < lo\/hi<=k):w'.heap[k]? =some X:=
 (s.block k (KEq h) hk).trans h
def InRow (lo hi:Nat) (w:World) (e:TypeId) (size:Nat) (v:Value) (n:Nat) (xs:List Value):Prop:=w.ownsRow lo e size v n xs/\∀b,v.ownBlock=some b->b < hi
theorem InRow.of {lo:Nat} {w:World} {e:TypeId} {size:Nat} {v:Value} {n:Nat} {xs:List Value} (h:w.ownsRow lo e size v n xs):InRow lo w.heap.size w e size v n xs:=⟨h,fun b e=>(h.lt b e).2⟩
theorem InRow.mono {lo hi c a:Nat} {w:World} {e:TypeId} {size:Nat} {v:Value} {n:Nat} {xs:List Value} (h:InRow lo hi w e size v n xs) (d:c<=lo) (h2:hi<=a):InRow c a w e size v n xs:=
 ⟨Q06 h.1 d,fun b e=>Kbq (h.2 b e) h2⟩
theorem InRow.step {a b lo hi:Nat} {w d:World} {e:TypeId} {size:Nat} {v:Value} {n:Nat} {xs:List Value} (h:InRow a b w e size v n xs) (s:Stp lo hi w d) (l:hi<=a\/b<=lo):InRow a b d e size v n xs:=by
 refine⟨⟨h.1.1, ?_⟩,h.2⟩
 rcases h.1.2 with f|⟨g,cap,c,hv,j,i,r⟩
 ·exact .inl f
 ·have k:g < b:=h.2 g (by rw[hv];rfl)
  exact .inr ⟨g,cap,c,hv,j,s.box i (by omega),r⟩
theorem InRow.steps {a b lo hi:Nat} {w d:World} {e:TypeId} {size:Nat} {v:Value} {n:Nat} {xs:List Value} (h:InRow a b w e size v n xs) (s:Stp lo hi w d) (j:∀g,v.ownBlock=some g->g < lo\/hi<=g):InRow a b d e size v n xs:=by
 refine⟨⟨h.1.1, ?_⟩,h.2⟩
 rcases h.1.2 with f|⟨g,cap,c,hv,k,i,r⟩
 ·exact .inl f
 ·exact .inr ⟨g,cap,c,hv,k,s.box i (j g (by rw[hv];rfl)),r⟩
theorem Q1A {w:World} {j k s1 s2 q r:Nat} {f h:TypeId} {b i:Value} {s t:List Value} (m:w.ownsRow j f s1 b q s) (h2:w.ownsRow k h s2 i r t) (p:f≠h):b.ownBlock=none\/b.ownBlock≠i.ownBlock:=by
 rcases m.2 with⟨rfl,_⟩|⟨g,cap,l,rfl,_,n,_⟩
 ·exact .inl rfl
 ·right
  rcases h2.2 with⟨rfl,_⟩|⟨u,c,d,rfl,_,a,_⟩
  ·simp[Value.ownBlock]
  ·intro e
   simp[Value.ownBlock]at e;subst e;rw[n]at a;injection a with a;injection a with _ a _;exact p a
theorem InRow.kept {a b:Nat} {w c:World} {e:TypeId} {size:Nat} {v:Value} {n:Nat} {xs:List Value} {r:Option Nat} (h:InRow a b w e size v n xs) (d:w.grownBy c r) (f:v.ownBlock=none\/v.ownBlock≠r):InRow a b c e size v n xs:=
 ⟨World.ownsRow.kept h.1 d f,h.2⟩
def RdV {α:Type} (L:Lay α) (C:Nat) (w:World) (v:Value) (l:List α):Prop:=∃o c,v=.slice o l.length c/\RdL L C w o l
theorem RdV.kept {α:Type} {L:Lay α} {C D:Nat} {w w':World} {v:Value} {l:List α} (h:RdV L C w v l) (hb:Below D w w') (hc:C<=D):RdV L C w' v l:=by
 obtain⟨o,c,e,r⟩:=h;exact⟨o,c,e,r.kept hb hc⟩
theorem RdV.le {α:Type} {L:Lay α} {C D:Nat} {w:World} {v:Value} {l:List α} (h:RdV L C w v l) (hc:C<=D):RdV L D w v l:=by
 obtain⟨o,c,e,r⟩:=h;exact⟨o,c,e,r.le hc⟩
abbrev InL {α:Type} (L:Lay α) (e:TypeId) (lo hi:Nat) (w:World) (v:Value) (l:List α):Prop:=InRow lo hi w e L.k v l.length (l.flatMap L.cs)
theorem InL.rd {α:Type} {L:Lay α} {e:TypeId} {lo hi:Nat} {w:World} {v:Value} {l:List α} (h:InL L e lo hi w v l):RdV L hi w v l:=by
 have d:=h.1
 rcases h.1.2 with⟨f,h2⟩|⟨g,cap,a,hv,_⟩
 ·have e:l=[]:=List.eq_nil_of_length_eq_zero h2
  subst e;exact⟨none,0,by simpa using f,.inl rfl⟩
 ·subst hv
  refine⟨_,cap,rfl, ?_⟩
  rcases ownL.rd (L:=L) d with c|⟨b,j,i,k,r⟩
  ·exact .inl c
  ·cases i
   exact .inr ⟨_,_,rfl,h.2 _ rfl,r⟩
def Qiz (v:Value):Prop:=∀n c,v=.slice none n c->c=0
theorem InRow.cap {lo hi:Nat} {w:World} {e:TypeId} {size:Nat} {v:Value} {n:Nat} {xs:List Value} (h:InRow lo hi w e size v n xs):Qiz v:=by
 intro d c hv
 rcases h.1.2 with⟨a,_⟩|⟨g,cap,b,a,_⟩
 ·rw[a]at hv;injection hv with _ _ h3;exact h3.symm
 ·rw[a]at hv;injection hv with h3 _ _;cases h3
end Go.Proofs.YteffhdcankkfkaaGreat
namespace Go.Proofs.YteffhdcankkfkaaGreat
open Go.ChangeShapes Go.WideShapes Go.ChangeAt Go.RowKit Go.Joins
set_option linter.unusedVariables false
set_option linter.unusedSimpArgs false
set_option maxRecDepth 100000
set_option maxHeartbeats 40000000
variable {α:Type}
def mkL (f:Int->α) (m:Nat) (k:Int) (n:Nat):List α:=(List.range n).map (fun (i:Nat)=>f (k+(m:Int) * (i:Int)))
theorem Q1z (f:Int->α) (m:Nat) (k:Int) (n:Nat):(mkL f m k n).length=n:=by simp[mkL]
theorem QfX (f:Int->α) (m:Nat) (k:Int) (n:Nat):mkL f m k (n+1)=mkL f m k n++[f (k+(m:Int) * (n:Int))]:=by simp[mkL,List.range_succ]
def Q3K (f:Int->α) (m:Nat) (l:List α) (k:Int) (i:Nat):List α:=mkL f m k i++l.drop i
theorem Q3B (f:Int->α) (m:Nat) (l:List α) (k:Int):Q3K f m l k 0=l:=by simp[Q3K,mkL]
theorem Q4s (f:Int->α) (m:Nat) (l:List α) (k:Int):Q3K f m l k l.length=mkL f m k l.length:=by simp[Q3K]
theorem Q2q (f:Int->α) (m:Nat) (l:List α) (k:Int) (i:Nat) (h:i<=l.length):(Q3K f m l k i).length=l.length:=by simp[Q3K,Q1z];omega
theorem Q4F (f:Int->α) (m:Nat) (l:List α) (k:Int) (i:Nat) (h:i < l.length):(Q3K f m l k i).set i (f (k+(m:Int) * (i:Int)))=Q3K f m l k (i+1):=by
 unfold Q3K;rw[List.drop_eq_getElem_cons h,List.set_append_right _ _ (by rw[Q1z];exact Kaq _),Q1z,Nat.sub_self,List.set_cons_zero,QfX,List.append_assoc]
 rfl
theorem Qa9 (L:Lay α) (b:L.k=2) {f g:Value} {a:α} (d:L.cs a=[f,g]):∀(l:List α) (i:Nat),((l.flatMap L.cs).set (i * 2) f).set (i * 2+1) g=(l.set i a).flatMap L.cs
 |[],i=>by simp
 |q::l,0=>by
  have c:=(L.len q).trans b
  match hc:L.cs q,c with
  |[q0,q1],_=>simp[d,hc]
 |q::l,i+1=>by
  have c:=(L.len q).trans b
  match hc:L.cs q,c with
  |[q0,q1],_=>
   rw[show(i+1) * 2=i * 2+1+1 by omega];simp only[List.flatMap_cons,hc,List.cons_append,List.nil_append,List.set_cons_succ];rw[Qa9 L b d l i]
theorem Q0y {w wr:World} {base g c n:Nat} {e:TypeId} {size:Nat} {xs:List Value} {j:Nat} {u:Value} (d:wr.ownsRow base e size (.slice (some ⟨g,0,none⟩) n c) n xs) (a:w.grownBy wr (some g)):
  (wr.setCell ⟨g,j,none⟩ u).ownsRow base e size (.slice (some ⟨g,0,none⟩) n c) n (xs.set j u)/\w.grownBy (wr.setCell ⟨g,j,none⟩ u) (some g):=by
 have h:=d.stored j u;exact⟨h.1,⟨a.os,a.tape,a.output,by have:=h.2.size;have:=a.size;omega,fun i hi b=>(h.2.block i (Kbq hi a.size) b).trans (a.block i hi b)⟩⟩
end Go.Proofs.YteffhdcankkfkaaGreat
namespace Go.Proofs.YteffhdcankkfkaaGreat
open Go.ChangeShapes Go.WideShapes Go.ChangeAt Go.RowKit Go.Joins
set_option linter.unusedVariables false
set_option linter.unusedSimpArgs false
set_option maxRecDepth 100000
set_option maxHeartbeats 40000000
def Qdf:Lay Int:=⟨1,fun a=> [.int .u8 a],0,fun _=>rfl⟩
theorem Q7R:∀l:List Int,l.flatMap Qdf.cs=l.map (Value.int .u8)
 |[]=>rfl
 |a::l=>by rw[List.flatMap_cons,Q7R l];rfl
theorem Q4p {w:World} {base:Nat} {v:Value} {l:List Int}:ownB w base v l↔ownL Qdf 5 w base v l:=by
 unfold ownB ownL;rw[Q7R];exact Iff.rfl
theorem Qhu {C:Nat} {w:World} {o:Option Addr} {l:List Int}:RdB C w o l↔RdL Qdf C w o l:=by
 constructor
 ·rintro(h|⟨b,off,ho,hb,r⟩)
  ·exact .inl h
  ·refine .inr ⟨b,off,ho,hb,fun i hi j c=>?_⟩
   have a:j=0:=by have:j < 1:=c;omega
   subst a;have:=r i hi;rw[show Qdf.k=1 from rfl,Nat.mul_one,Nat.add_zero];exact this
 ·rintro(h|⟨b,off,ho,hb,r⟩)
  ·exact .inl h
  ·refine .inr ⟨b,off,ho,hb,fun i hi=>?_⟩
   have:=r i hi 0 (by decide);rw[show Qdf.k=1 from rfl,Nat.mul_one,Nat.add_zero]at this;exact this
theorem Q9V {w:World} {o:Option Addr} {l:List Int}:RdL Qdf w.heap.size w o l↔Rd w o l:=Qhu.symm
abbrev InB:=InL Qdf 5
theorem InB.of {w:World} {base:Nat} {v:Value} {l:List Int} (h:ownB w base v l):InB base w.heap.size w v l:=InRow.of (Q4p.1 h)
end Go.Proofs.YteffhdcankkfkaaGreat
