/- Several texts in one: IntsA, Ints. -/
import Derived.Test.YtgplppfbinfelaaGreatQOldest03
import Derived.Test.YtgplppfbinfelaaGreatQOldest04
namespace Go.Proofs.YtgplppfbinfelaaGreat
open Go.ChangeShapes Go.WideShapes Go.ChangeAt Go.RowKit Go.Joins
set_option linter.unusedVariables false
set_option linter.unusedSimpArgs false
set_option maxRecDepth 100000
set_option maxHeartbeats 40000000
def layI:Lay Int:=⟨1,fun a=> [.int .i64 a],0,fun _=> rfl⟩
abbrev RdI:=RdL layI
abbrev ownI:=ownL layI 3
theorem RdL.int {w:World} {b off:Nat} {l:List Int} (h:∀i,i < l.length→∀j,j < layI.k→w.cell? ⟨b,off+i * layI.k+j,none⟩=(layI.cs (l.getD i layI.d))[j]?) (i:Nat) (hi:i < l.length):
  w.cell? ⟨b,off+i,none⟩=some (.int .i64 (l.getD i 0)):=by
 have:=h i hi 0 (by decide)
 rw [show layI.k=1 from rfl,Nat.mul_one,Nat.add_zero] at this
 exact this
theorem infoInt:(Tryz.prog.info? 3).map (fun i=> (i.zero,i.size,i.bytes))=some (some (.int .i64 0),1,8):=by kernel_rfl
theorem eqIntS_same (o1 o2:Option Addr) (c1 c2:Nat) (l:List Int) (w:World) (h1:RdI w.heap.size w o1 l) (h2:RdI w.heap.size w o2 l) (hl:l.length≤1048576):
  Calls Tryz.prog 19 #[.slice o1 l.length c1,.slice o2 l.length c2] w fun e w'=> e=.returned (.bool true)∧Below w.heap.size w w':=by
 go_enter Tryz.func19,Tryz.ntmps19
 go_wp2
 go_loopw [5] (fun i wr=> ∃k:Nat,k≤l.length∧i=.int .i64 k∧Below w.heap.size w wr)
  (fun i _=> l.length - (intOf i).toNat)
 case atStart=> exact ⟨0,Nat.zero_le _,rfl,Below.refl _ _⟩
 case round=>
  obtain ⟨k,hk,rfl,hBr⟩:=hrel
  by_cases hlt:k < l.length
  ·rcases h1 with h1|⟨b1,off1,rfl,hb1,hcell1⟩
   ·subst h1;simp at hlt
   rcases h2 with h2|⟨b2,off2,rfl,hb2,hcell2⟩
   ·subst h2;simp at hlt
   have hc1:wr.cell? ⟨b1,off1+k,none⟩=some (.int .i64 (l.getD k 0)):=(hBr.cell (p:=⟨b1,off1+k,none⟩) hb1).trans (RdL.int hcell1 k hlt)
   have hc2:wr.cell? ⟨b2,off2+k,none⟩=some (.int .i64 (l.getD k 0)):=(hBr.cell (p:=⟨b2,off2+k,none⟩) hb2).trans (RdL.int hcell2 k hlt)
   have HB:=hide hBr
   clear hcell1 hcell2 hBr
   have i1:(k:Int) < (l.length:Int):=by omega
   generalize l.getD k 0=x at *
   go_wp2
   go_quiet (fail)
   go_wp2
   go_roundw
   case rel=> exact ⟨k+1,by omega,by go_num,below_drewN HB.out _⟩
   case measure=> simp [intOf];omega
  ·have e:k=l.length:=by omega
   subst e
   go_wp2
   go_ret
   exact ⟨rfl,hBr⟩
abbrev Hd:=Option Addr × Nat × Nat
def layH:Lay Hd:=⟨1,fun a=> [.slice a.1 a.2.1 a.2.2],(none,0,0),fun _=> rfl⟩
theorem RdL.head {w:World} {b off:Nat} {l:List Hd} (h:∀i,i < l.length→∀j,j < layH.k→w.cell? ⟨b,off+i * layH.k+j,none⟩=(layH.cs (l.getD i layH.d))[j]?) (i:Nat) (hi:i < l.length):
  w.cell? ⟨b,off+i,none⟩=some (.slice (l.getD i (none,0,0)).1 (l.getD i (none,0,0)).2.1 (l.getD i (none,0,0)).2.2):=by
 have:=h i hi 0 (by decide)
 rw [show layH.k=1 from rfl,Nat.mul_one,Nat.add_zero] at this
 exact this
def RdLo {α:Type} (L:Lay α) (lo C:Nat) (w:World) (o:Option Addr) (l:List α):Prop:=
 l=[]∨∃b off,o=some ⟨b,off,none⟩∧lo≤b∧b < C∧∀i,i < l.length→∀j,j < L.k→w.cell? ⟨b,off+i * L.k+j,none⟩=(L.cs (l.getD i L.d))[j]?
theorem RdLo.rd {α:Type} {L:Lay α} {lo C:Nat} {w:World} {o:Option Addr} {l:List α} (h:RdLo L lo C w o l):RdL L C w o l:=by
 rcases h with h|⟨b,off,ho,_,hb,r⟩
 ·exact .inl h
 ·exact .inr ⟨b,off,ho,hb,r⟩
def RdLL (C:Nat) (w:World) (o:Option Addr) (ll:List (List Int)):Prop:=
 ∃hs:List Hd,hs.length=ll.length∧RdL layH C w o hs∧∀i,i < ll.length→(hs.getD i (none,0,0)).2.1=(ll.getD i []).length∧RdI C w (hs.getD i (none,0,0)).1 (ll.getD i [])
theorem RdLL.kept {C D:Nat} {w w':World} {o:Option Addr} {ll:List (List Int)} (h:RdLL C w o ll) (hb:Below D w w') (hc:C≤D):RdLL C w' o ll:=by
 obtain ⟨hs,hl,hr,hx⟩:=h
 exact ⟨hs,hl,hr.kept hb hc,fun i hi=> ⟨(hx i hi).1,(hx i hi).2.kept hb hc⟩⟩
theorem RdLL.le {C D:Nat} {w:World} {o:Option Addr} {ll:List (List Int)} (h:RdLL C w o ll) (hc:C≤D):RdLL D w o ll:=by
 obtain ⟨hs,hl,hr,hx⟩:=h
 exact ⟨hs,hl,hr.le hc,fun i hi=> ⟨(hx i hi).1,(hx i hi).2.le hc⟩⟩
theorem RdLL.at {C:Nat} {w:World} {o:Option Addr} {ll:List (List Int)} (h:RdLL C w o ll) (hC:C≤w.heap.size) (i:Nat) (hi:i < ll.length):
  ∃b off o' c',o=some ⟨b,off,none⟩∧b < w.heap.size∧w.cell? ⟨b,off+i,none⟩=some (.slice o' (ll.getD i []).length c')∧RdI w.heap.size w o' (ll.getD i []):=by
 obtain ⟨hs,hl,hr,hx⟩:=h
 rcases hr with hr|⟨b,off,ho,hb,r⟩
 ·subst hr;simp at hl;omega
 ·have:=RdL.head r i (by omega)
  rw [(hx i hi).1] at this
  exact ⟨b,off,_,_,ho,Nat.lt_of_lt_of_le hb hC,this,(hx i hi).2.le hC⟩
theorem infoIntS:(Tryz.prog.info? 60).map (fun i=> (i.zero,i.size,i.bytes))=some (some (.slice none 0 0),1,24):=by kernel_rfl
theorem cellsInt2:Tryz.prog.cellsOf 3=1:=by kernel_rfl
theorem cellsIntS:Tryz.prog.cellsOf 60=1:=by kernel_rfl
theorem open_ints_cells {H:Type} {enc:TypeId × Value→H} {W:World} {fuel:Nat} {cs:List Value} {x:DataW H × List MemPlace} (h:DataW.trod enc Tryz.prog W 0 (fun _=> true) true fuel 60 cs=some x):
  ∃(o:Option Addr) (cap:Nat) (l:List Int),cs=[.slice o l.length cap]∧l.length≤maxLen∧RdI W.heap.size W o l:=by
 refine open_list layI (by decide) Tryz.underlying60 cellsInt2 ?_ h
 intro n cs y hl hy
 obtain ⟨a,e0,_,_⟩:=DataW.trod_int Tryz.underlying3 hy
 exact ⟨a,e0⟩
theorem open_rows_cells {H:Type} {enc:TypeId × Value→H} {W:World} {fuel:Nat} {cs:List Value} {x:DataW H × List MemPlace} (h:DataW.trod enc Tryz.prog W 0 (fun _=> true) true fuel 228 cs=some x):
  ∃(o:Option Addr) (cap:Nat) (ll:List (List Int)),cs=[.slice o ll.length cap]∧ll.length≤maxLen∧RdLL W.heap.size W o ll∧∀i,i < ll.length→(ll.getD i []).length≤maxLen:=by
 rcases Go.Deep.open_slice1 Tryz.underlying228 cellsIntS h with ⟨hcs,_⟩|⟨a,len,cap,m,n,V,D,Pl,hcs,_,hl,hm,hmm,_,hx⟩
 ·exact ⟨none,0,[],hcs,Nat.zero_le _,⟨[],rfl,.inl rfl,fun i hi=> by cases hi⟩,fun i hi=> by cases hi⟩
 ·have hlm:len≤m:=by rw [hmm];split <;> omega
  have ex:∀i,i < len→∃y:Hd × List Int,V i=.slice y.1.1 y.1.2.1 y.1.2.2∧y.1.2.1=y.2.length∧y.2.length≤maxLen∧RdI W.heap.size W y.1.1 y.2:=fun i hi=> by
   obtain ⟨o',c',l',e,hl',hr⟩:=open_ints_cells (hx i (by omega)).2
   simp at e
   exact ⟨((o',l'.length,c'),l'),e,rfl,hl',hr⟩
  have hne:Inhabited (Hd × List Int):=⟨((none,0,0),[])⟩
  obtain ⟨f,hf⟩:=Go.Deep.choose_lt ex
  have gd:∀i,i < len→((List.range len).map (fun i=> (f i).2)).getD i []=(f i).2:=fun i hi=> by simp [hi]
  have gh:∀i,i < len→((List.range len).map (fun i=> (f i).1)).getD i (none,0,0)=(f i).1:=fun i hi=> by simp [hi]
  refine ⟨some a,cap,(List.range len).map (fun i=> (f i).2),by simpa using hcs,by simp;omega,⟨(List.range len).map (fun i=> (f i).1),by simp, ?_,fun i hi=> ?_⟩,fun i hi=> ?_⟩
  ·by_cases h0:len=0
   ·left;simp [h0]
   ·right
    obtain ⟨b,off,spot⟩:=a
    have hc:=(hx 0 (by omega)).1
    have hspot:spot=none:=by simpa [Addr.add] using World.cell?_spot hc
    subst hspot
    have e2:∀j,(⟨b,off,none⟩:Addr).add j=⟨b,off+j,none⟩:=fun j=> by by_cases h:j=0 <;> simp [Addr.add,h]
    refine ⟨b,off,rfl, ?_,fun i hi j hj=> ?_⟩
    ·rw [e2] at hc
     rcases Nat.lt_or_ge b W.heap.size with h|h
     ·exact h
     ·simp [World.cell?,Array.getElem?_eq_none h] at hc
    ·have hi':i < len:=by simpa using hi
     have hj':j=0:=by have:j < 1:=hj;omega
     subst hj'
     have h1:=(hx i (by omega)).1
     rw [e2] at h1
     rw [show layH.d=(none,0,0) from rfl,gh i hi',show layH.k=1 from rfl,Nat.mul_one,Nat.add_zero,h1,(hf i hi').1]
     rfl
  ·have hi':i < len:=by simpa using hi
   rw [gd i hi',gh i hi']
   exact ⟨(hf i hi').2.1,(hf i hi').2.2.2⟩
  ·have hi':i < len:=by simpa using hi
   rw [gd i hi']
   exact (hf i hi').2.2.1
end Go.Proofs.YtgplppfbinfelaaGreat
