/- Slices of segs: how they read. -/
import Derived.Deep.SlicePairs
import Derived.Test.YtljogkoaaidlcaaQHandL02
namespace Go.Proofs.Ytljogkoaaidlcaa
open Go.ChangeShapes Go.WideShapes Go.ChangeAt Go.RowKit Go.Joins
set_option linter.unusedVariables false
set_option linter.unusedSimpArgs false
set_option maxRecDepth 100000
set_option maxHeartbeats 40000000
def Q5q:List (Int × Int)→List Int
 |[]=> []
 |p::l=> p.1::p.2::Q5q l
theorem Q4e:∀(l:List (Int × Int)) (i:Nat),i < l.length→(Q5q l)[i * 2]? =some (l.getD i (0,0)).1
 |p::l,0,_=> rfl
 |p::l,i+1,h=> by
  have:=Q4e l i (by simpa using h)
  rw [show (i+1) * 2=i * 2+2 by omega]
  simpa [Q5q] using this
theorem Q4j:∀(l:List (Int × Int)) (i:Nat),i < l.length→(Q5q l)[i * 2+1]? =some (l.getD i (0,0)).2
 |p::l,0,_=> rfl
 |p::l,i+1,h=> by
  have:=Q4j l i (by simpa using h)
  rw [show (i+1) * 2+1=i * 2+1+2 by omega]
  simpa [Q5q] using this
def Q3H (l:List (Int × Int)):List Value:=(Q5q l).map (Value.int .i64)
def RdG (w:World) (o:Option Addr) (l:List (Int × Int)):Prop:=
 l=[]∨∃b off,o=some ⟨b,off,none⟩∧b < w.heap.size∧∀i,i < l.length→w.cell? ⟨b,off+i * 2,none⟩=some (.int .i64 (l.getD i (0,0)).1)∧w.cell? ⟨b,off+i * 2+1,none⟩=some (.int .i64 (l.getD i (0,0)).2)
theorem RdG.kept {w w':World} {o:Option Addr} {l:List (Int × Int)} (h:RdG w o l) (hb:Below w.heap.size w w'):RdG w' o l:=by
 rcases h with h|⟨b,off,ho,hlt,hc⟩
 ·exact .inl h
 ·exact .inr ⟨b,off,ho,Kbq hlt hb.size,fun i hi=> ⟨(hb.cell (p:=⟨b,off+i * 2,none⟩) hlt).trans (hc i hi).1,(hb.cell (p:=⟨b,off+i * 2+1,none⟩) hlt).trans (hc i hi).2⟩⟩
abbrev ownG (w:World) (base:Nat) (v:Value) (l:List (Int × Int)):Prop:=w.ownsRow base 41 2 v l.length (Q3H l)
theorem ownG.rd {w:World} {base g n cap:Nat} {l:List (Int × Int)} (h:ownG w base (.slice (some ⟨g,0,none⟩) n cap) l):RdG w (some ⟨g,0,none⟩) l:=by
 have hn:n=l.length:=by
  rcases h.2 with ⟨h',_⟩|⟨g',cap',cur,h',_⟩
  ·simp at h'
  ·simp at h';exact h'.2.1
 subst hn
 refine .inr ⟨g,0,rfl,(h.lt g rfl).2,fun i hi=> ⟨?_, ?_⟩⟩
 ·have:=h.cellAt (i * 2) (by omega)
  rw [Nat.zero_add,this,Q3H,List.getElem?_map,Q4e l i hi];rfl
 ·have:=h.cellAt (i * 2+1) (by omega)
  rw [Nat.zero_add,this,Q3H,List.getElem?_map,Q4j l i hi];rfl
theorem ownG.open {w:World} {base:Nat} {v:Value} {l:List (Int × Int)} (h:ownG w base v l):∃o cap,v=.slice o l.length cap∧RdG w o l:=by
 have h0:=h
 rcases h.2 with ⟨h1,h2⟩|⟨g,cap,cur,hv,_⟩
 ·have e:l=[]:=List.eq_nil_of_length_eq_zero h2
  subst e
  exact ⟨none,0,by simpa using h1,.inl rfl⟩
 ·subst hv
  exact ⟨_,cap,rfl,h0.rd⟩
theorem Q8b:(Try.prog.info? 41).map (fun i=> (i.zero,i.size,i.bytes))=some (some (.agg #[.int .i64 0,.int .i64 0]),2,16):=by kernel_rfl
end Go.Proofs.Ytljogkoaaidlcaa
