/- Slices of segs: how they read. -/
import Derived.Deep.SlicePairs
import Derived.Test.YteffhdcankkfkaaGreatQListed02
namespace Go.Proofs.YteffhdcankkfkaaGreat
open Go.ChangeShapes Go.WideShapes Go.ChangeAt Go.RowKit Go.Joins
set_option linter.unusedVariables false
set_option linter.unusedSimpArgs false
set_option maxRecDepth 100000
set_option maxHeartbeats 40000000
def Q3Z:List (Int × Int)->List Int
 |[]=> []
 |p::l=>p.1::p.2::Q3Z l
theorem Q5C:∀l:List (Int × Int),(Q3Z l).length=l.length * 2
 |[]=>rfl
 |p::l=>by simp[Q3Z,Q5C l];omega
theorem Q7H:∀(l:List (Int × Int)) (i:Nat),i < l.length->(Q3Z l)[i * 2]? =some (l.getD i (0,0)).1
 |p::l,0,_=>rfl
 |p::l,i+1,h=>by
  have:=Q7H l i (by simpa using h);rw[show(i+1) * 2=i * 2+2 by omega]
  simpa[Q3Z]using this
theorem Q7W:∀(l:List (Int × Int)) (i:Nat),i < l.length->(Q3Z l)[i * 2+1]? =some (l.getD i (0,0)).2
 |p::l,0,_=>rfl
 |p::l,i+1,h=>by
  have:=Q7W l i (by simpa using h);rw[show(i+1) * 2+1=i * 2+1+2 by omega]
  simpa[Q3Z]using this
def Q2m (l:List (Int × Int)):List Value:=(Q3Z l).map (Value.int .i64)
def RdG (w:World) (o:Option Addr) (l:List (Int × Int)):Prop:=
 l=[]\/∃b off,o=some ⟨b,off,none⟩/\b < w.heap.size/\∀i,i < l.length->w.cell? ⟨b,off+i * 2,none⟩=some (.int .i64 (l.getD i (0,0)).1)/\w.cell? ⟨b,off+i * 2+1,none⟩=some (.int .i64 (l.getD i (0,0)).2)
theorem RdG.kept {w g:World} {o:Option Addr} {l:List (Int × Int)} (h:RdG w o l) (d:Below w.heap.size w g):RdG g o l:=by
 rcases h with h|⟨b,c,j,a,f⟩
 ·exact .inl h
 ·exact .inr ⟨b,c,j,Kbq a d.size,fun i hi=>⟨(d.cell (p:=⟨b,c+i * 2,none⟩) a).trans (f i hi).1,(d.cell (p:=⟨b,c+i * 2+1,none⟩) a).trans (f i hi).2⟩⟩
abbrev ownG (w:World) (base:Nat) (v:Value) (l:List (Int × Int)):Prop:=w.ownsRow base 136 2 v l.length (Q2m l)
theorem ownG.rd {w:World} {base g n cap:Nat} {l:List (Int × Int)} (h:ownG w base (.slice (some ⟨g,0,none⟩) n cap) l):RdG w (some ⟨g,0,none⟩) l:=by
 have d:n=l.length:=by
  rcases h.2 with⟨a,_⟩|⟨f,b,c,a,_⟩
  ·simp at a
  ·simp at a;exact a.2.1
 subst d;refine .inr ⟨g,0,rfl,(h.lt g rfl).2,fun i hi=>⟨?_, ?_⟩⟩
 ·have:=h.cellAt (i * 2) (by omega)
  rw[Nat.zero_add,this,Q2m,List.getElem?_map,Q7H l i hi];rfl
 ·have:=h.cellAt (i * 2+1) (by omega)
  rw[Nat.zero_add,this,Q2m,List.getElem?_map,Q7W l i hi];rfl
theorem ownG.open {w:World} {base:Nat} {v:Value} {l:List (Int × Int)} (h:ownG w base v l):∃o cap,v=.slice o l.length cap/\RdG w o l:=by
 have b:=h
 rcases h.2 with⟨c,h2⟩|⟨g,cap,a,hv,_⟩
 ·have e:l=[]:=List.eq_nil_of_length_eq_zero h2
  subst e;exact⟨none,0,by simpa using c,.inl rfl⟩
 ·subst hv
  exact⟨_,cap,rfl,b.rd⟩
theorem Q6y {H:Type} {enc:TypeId × Value->H} {W:World} {t:Nat} {cs:List Value} {x:DataW H × List MemPlace} (h:DataW.trod enc Tryz.prog W 0 (fun _=>true) true t 175 cs=some x):
  ∃(o:Option Addr) (cap:Nat) (l:List (Int × Int)),cs=[.slice o l.length cap]/\l.length<=maxLen/\RdG W o l:=by
 rcases Go.Deep.open_slice_pairs Tryz.underlying175 Tryz.underlying314 (by kernel_rfl) rfl rfl (by kernel_rfl) (by kernel_rfl) h with⟨d,_⟩|⟨a,len,cap,m,n,r,s,J,L,M,N,d,_,O,P,y,_,z⟩
 ·exact⟨none,0,[],d,Kcq _,.inl rfl⟩
 ·have F:len<=m:=by rw[y];split <;> omega
  have D:∀i,i < len->r i=.int .i64 (intOf (r i))/\s i=.int .i64 (intOf (s i)):=by
   intro i hi;obtain⟨_,_,G,I⟩:=z i (by omega);obtain⟨p,A,_,_⟩:=DataW.trod_int Tryz.underlying3 G;obtain⟨q,B,_,_⟩:=DataW.trod_int Tryz.underlying3 I;simp at A B;rw[A,B];exact⟨rfl,rfl⟩
  refine⟨some a,cap,(List.range len).map (fun i=>(intOf (r i),intOf (s i))),by simpa using d,by simp;omega, ?_⟩
  by_cases h0:len=0
  ·left;simp[h0]
  ·right
   obtain⟨b,c,u⟩:=a;have E:=(z 0 (by omega)).1
   have k:u=none:=by simpa[Addr.add]using World.cell?_spot E
   subst k
   have C:∀j,(⟨b,c,none⟩:Addr).add j=⟨b,c+j,none⟩:=fun j=>by by_cases h:j=0 <;> simp[Addr.add,h]
   refine⟨b,c,rfl, ?_,fun i hi=>?_⟩
   ·have w:W.cell? ⟨b,c,none⟩=some (r 0):=by simpa[Addr.add]using E
    rcases Nat.lt_or_ge b W.heap.size with h|h
    ·exact h
    ·simp[World.cell?,Array.getElem?_eq_none h]at w
   ·have f:i < len:=by simpa using hi
    have v:=z i (by omega);rw[C,C]at v
    have g:((List.range len).map (fun i=>(intOf (r i),intOf (s i)))).getD i (0,0)=(intOf (r i),intOf (s i)):=by simp[f]
    rw[g];exact⟨v.1.trans (by rw[<-(D i f).1]),(show c+i * 2+1=c+(i * 2+1)by omega) ▸ v.2.1.trans (by rw[<-(D i f).2])⟩
theorem QdV:(Tryz.prog.info? 136).map (fun i=>(i.zero,i.size,i.bytes))=some (some (.agg #[.int .i64 0,.int .i64 0]),2,16):=by kernel_rfl
theorem Qdd (l:List (Int × Int)) (k:Nat) (h:k < l.length):l.take (k+1)=l.take k++[l.getD k (0,0)]:=by
 rw[List.take_succ_eq_append_getElem h];simp[h]
end Go.Proofs.YteffhdcankkfkaaGreat
