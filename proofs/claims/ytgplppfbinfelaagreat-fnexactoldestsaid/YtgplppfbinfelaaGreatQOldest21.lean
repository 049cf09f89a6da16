/- Slices of segs: how they read. -/
import Derived.Deep.SlicePairs
import Derived.Test.YtgplppfbinfelaaGreatQOldest02
namespace Go.Proofs.YtgplppfbinfelaaGreat
open Go.ChangeShapes Go.WideShapes Go.ChangeAt Go.RowKit Go.Joins
set_option linter.unusedVariables false
set_option linter.unusedSimpArgs false
set_option maxRecDepth 100000
set_option maxHeartbeats 40000000
def flatG:List (Int × Int)→List Int
 |[]=> []
 |p::l=> p.1::p.2::flatG l
theorem flatG_length:∀l:List (Int × Int),(flatG l).length=l.length * 2
 |[]=> rfl
 |p::l=> by simp [flatG,flatG_length l];omega
theorem flatG_get0:∀(l:List (Int × Int)) (i:Nat),i < l.length→(flatG l)[i * 2]? =some (l.getD i (0,0)).1
 |p::l,0,_=> rfl
 |p::l,i+1,h=> by
  have:=flatG_get0 l i (by simpa using h)
  rw [show (i+1) * 2=i * 2+2 by omega]
  simpa [flatG] using this
theorem flatG_get1:∀(l:List (Int × Int)) (i:Nat),i < l.length→(flatG l)[i * 2+1]? =some (l.getD i (0,0)).2
 |p::l,0,_=> rfl
 |p::l,i+1,h=> by
  have:=flatG_get1 l i (by simpa using h)
  rw [show (i+1) * 2+1=i * 2+1+2 by omega]
  simpa [flatG] using this
def cellsG (l:List (Int × Int)):List Value:=(flatG l).map (Value.int .i64)
def RdG (w:World) (o:Option Addr) (l:List (Int × Int)):Prop:=
 l=[]∨∃b off,o=some ⟨b,off,none⟩∧b < w.heap.size∧∀i,i < l.length→w.cell? ⟨b,off+i * 2,none⟩=some (.int .i64 (l.getD i (0,0)).1)∧w.cell? ⟨b,off+i * 2+1,none⟩=some (.int .i64 (l.getD i (0,0)).2)
theorem RdG.kept {w w':World} {o:Option Addr} {l:List (Int × Int)} (h:RdG w o l) (hb:Below w.heap.size w w'):RdG w' o l:=by
 rcases h with h|⟨b,off,ho,hlt,hc⟩
 ·exact .inl h
 ·exact .inr ⟨b,off,ho,Nat.lt_of_lt_of_le hlt hb.size,fun i hi=> ⟨(hb.cell (p:=⟨b,off+i * 2,none⟩) hlt).trans (hc i hi).1,(hb.cell (p:=⟨b,off+i * 2+1,none⟩) hlt).trans (hc i hi).2⟩⟩
abbrev ownG (w:World) (base:Nat) (v:Value) (l:List (Int × Int)):Prop:=w.ownsRow base 231 2 v l.length (cellsG l)
theorem ownG.rd {w:World} {base g n cap:Nat} {l:List (Int × Int)} (h:ownG w base (.slice (some ⟨g,0,none⟩) n cap) l):RdG w (some ⟨g,0,none⟩) l:=by
 have hn:n=l.length:=by
  rcases h.2 with ⟨h',_⟩|⟨g',cap',cur,h',_⟩
  ·simp at h'
  ·simp at h';exact h'.2.1
 subst hn
 refine .inr ⟨g,0,rfl,(h.lt g rfl).2,fun i hi=> ⟨?_, ?_⟩⟩
 ·have:=h.cellAt (i * 2) (by omega)
  rw [Nat.zero_add,this,cellsG,List.getElem?_map,flatG_get0 l i hi];rfl
 ·have:=h.cellAt (i * 2+1) (by omega)
  rw [Nat.zero_add,this,cellsG,List.getElem?_map,flatG_get1 l i hi];rfl
theorem ownG.open {w:World} {base:Nat} {v:Value} {l:List (Int × Int)} (h:ownG w base v l):∃o cap,v=.slice o l.length cap∧RdG w o l:=by
 have h0:=h
 rcases h.2 with ⟨h1,h2⟩|⟨g,cap,cur,hv,_⟩
 ·have e:l=[]:=List.eq_nil_of_length_eq_zero h2
  subst e
  exact ⟨none,0,by simpa using h1,.inl rfl⟩
 ·subst hv
  exact ⟨_,cap,rfl,h0.rd⟩
theorem open_segs_cells {H:Type} {enc:TypeId × Value→H} {W:World} {fuel:Nat} {cs:List Value} {x:DataW H × List MemPlace} (h:DataW.trod enc Tryz.prog W 0 (fun _=> true) true fuel 155 cs=some x):
  ∃(o:Option Addr) (cap:Nat) (l:List (Int × Int)),cs=[.slice o l.length cap]∧l.length≤maxLen∧RdG W o l:=by
 rcases Go.Deep.open_slice_pairs Tryz.underlying155 Tryz.underlying309 (by kernel_rfl) rfl rfl (by kernel_rfl) (by kernel_rfl) h with ⟨hcs,_⟩|⟨a,len,cap,m,n,V0,V1,D0,D1,P0,P1,hcs,_,hl,hm,hmm,_,hx⟩
 ·exact ⟨none,0,[],hcs,Nat.zero_le _,.inl rfl⟩
 ·have hlm:len≤m:=by rw [hmm];split <;> omega
  have hV:∀i,i < len→V0 i=.int .i64 (intOf (V0 i))∧V1 i=.int .i64 (intOf (V1 i)):=by
   intro i hi
   obtain ⟨_,_,t0,t1⟩:=hx i (by omega)
   obtain ⟨p,e0,_,_⟩:=DataW.trod_int Tryz.underlying3 t0
   obtain ⟨q,e1,_,_⟩:=DataW.trod_int Tryz.underlying3 t1
   simp at e0 e1
   rw [e0,e1];exact ⟨rfl,rfl⟩
  refine ⟨some a,cap,(List.range len).map (fun i=> (intOf (V0 i),intOf (V1 i))),by simpa using hcs,by simp;omega, ?_⟩
  by_cases h0:len=0
  ·left;simp [h0]
  ·right
   obtain ⟨b,off,spot⟩:=a
   have hc:=(hx 0 (by omega)).1
   have hspot:spot=none:=by simpa [Addr.add] using World.cell?_spot hc
   subst hspot
   have e2:∀j,(⟨b,off,none⟩:Addr).add j=⟨b,off+j,none⟩:=fun j=> by by_cases h:j=0 <;> simp [Addr.add,h]
   refine ⟨b,off,rfl, ?_,fun i hi=> ?_⟩
   ·have hc':W.cell? ⟨b,off,none⟩=some (V0 0):=by simpa [Addr.add] using hc
    rcases Nat.lt_or_ge b W.heap.size with h|h
    ·exact h
    ·simp [World.cell?,Array.getElem?_eq_none h] at hc'
   ·have hi':i < len:=by simpa using hi
    have h1:=hx i (by omega)
    rw [e2,e2] at h1
    have g:((List.range len).map (fun i=> (intOf (V0 i),intOf (V1 i)))).getD i (0,0)=(intOf (V0 i),intOf (V1 i)):=by simp [hi']
    rw [g]
    exact ⟨h1.1.trans (by rw [←(hV i hi').1]),(show off+i * 2+1=off+(i * 2+1) by omega) ▸ h1.2.1.trans (by rw [←(hV i hi').2])⟩
theorem infoSeg:(Tryz.prog.info? 231).map (fun i=> (i.zero,i.size,i.bytes))=some (some (.agg #[.int .i64 0,.int .i64 0]),2,16):=by kernel_rfl
theorem takeG_succ (l:List (Int × Int)) (k:Nat) (h:k < l.length):l.take (k+1)=l.take k++[l.getD k (0,0)]:=by
 rw [List.take_succ_eq_append_getElem h];simp [h]
end Go.Proofs.YtgplppfbinfelaaGreat
