/- Several texts in one: IntsA, Ints, ShInts. -/
import Derived.Test.YtgplppfbinfelaaGreatQLoadOf03
import Derived.Test.YtgplppfbinfelaaGreatQLoadOf04
namespace Go.Proofs.YtgplppfbinfelaaGreat
open Go.ChangeShapes Go.WideShapes Go.ChangeAt Go.RowKit Go.Joins
set_option linter.unusedVariables false
set_option linter.unusedSimpArgs false
set_option maxRecDepth 100000
set_option maxHeartbeats 40000000
def Q1q:Lay Int:=⟨1,fun a=> [.int .i64 a],0,fun _=> rfl⟩
abbrev RdI:=RdL Q1q
abbrev QcI:=ownL Q1q 3
theorem RdL.int {w:World} {b off:Nat} {l:List Int} (h:∀i,i < l.length→∀j,j < Q1q.k→w.cell? ⟨b,off+i * Q1q.k+j,none⟩=(Q1q.cs (l.getD i Q1q.d))[j]?) (i:Nat) (hi:i < l.length):
  w.cell? ⟨b,off+i,none⟩=some (.int .i64 (l.getD i 0)):=by
 have:=h i hi 0 (by decide)
 rw [show Q1q.k=1 from rfl,Nat.mul_one,Nat.add_zero] at this
 exact this
theorem QcT:(Tryz.prog.info? 3).map (fun i=> (i.zero,i.size,i.bytes))=some (some (.int .i64 0),1,8):=by kernel_rfl
theorem Q6m (o1 o2:Option Addr) (c1 c2:Nat) (l:List Int) (w:World) (h1:RdI w.heap.size w o1 l) (h2:RdI w.heap.size w o2 l) (hl:l.length≤1048576):
  Calls Tryz.prog 19 #[.slice o1 l.length c1,.slice o2 l.length c2] w fun e w'=> e=.returned (.bool true)∧Below w.heap.size w w':=by
 go_enter Tryz.func19,Tryz.ntmps19
 go_wp2
 go_loopw [5] (fun i wr=> ∃k:Nat,k≤l.length∧i=.int .i64 k∧Below w.heap.size w wr)
  (fun i _=> l.length - (intOf i).toNat)
 case atStart=> exact ⟨0,Kcq _,rfl,Below.refl _ _⟩
 case round=>
  obtain ⟨k,hk,rfl,hBr⟩:=hrel
  by_cases hlt:k < l.length
  ·rcases h1 with h1|⟨b1,off1,rfl,hb1,hcell1⟩
   ·subst h1;simp at hlt
   rcases h2 with h2|⟨b2,off2,rfl,hb2,hcell2⟩
   ·subst h2;simp at hlt
   have hc1:wr.cell? ⟨b1,off1+k,none⟩=some (.int .i64 (l.getD k 0)):=(hBr.cell (p:=⟨b1,off1+k,none⟩) hb1).trans (RdL.int hcell1 k hlt)
   have hc2:wr.cell? ⟨b2,off2+k,none⟩=some (.int .i64 (l.getD k 0)):=(hBr.cell (p:=⟨b2,off2+k,none⟩) hb2).trans (RdL.int hcell2 k hlt)
   have HB:=Q00 hBr
   clear hcell1 hcell2 hBr
   have i1:(k:Int) < (l.length:Int):=by omega
   generalize l.getD k 0=x at *
   go_wp2
   go_quiet (fail)
   go_wp2
   go_roundw
   case rel=> exact ⟨k+1,by omega,by go_num,below_drewN HB.out _⟩
   case measure=> simp [intOf];omega
  ·have e:k=l.length:=by omega
   subst e
   go_wp2
   go_ret
   exact ⟨rfl,hBr⟩
def Q2O (k:Int) (n:Nat):List Int:=(List.range n).map (fun (i:Nat)=> k+(i:Int))
theorem Q1K (k:Int) (n:Nat):(Q2O k n).length=n:=by simp [Q2O]
theorem Qe7 (k:Int) (n i:Nat) (h:i < n):(Q2O k n).getD i 0=k+(i:Int):=by simp [Q2O,h]
def Q1A (l:List Int) (k:Int) (i:Nat):List Int:=Q2O k i++l.drop i
theorem Q9n (l:List Int) (k:Int):Q1A l k 0=l:=by simp [Q1A,Q2O]
theorem QaC (l:List Int) (k:Int):Q1A l k l.length=Q2O k l.length:=by simp [Q1A]
theorem Q6S (l:List Int) (k:Int) (i:Nat) (h:i≤l.length):(Q1A l k i).length=l.length:=by simp [Q1A,Q2O];omega
theorem QaK (l:List Int) (k:Int) (i:Nat) (h:i < l.length):((Q1A l k i).flatMap Q1q.cs).set i (.int .i64 (k+(i:Int)))=(Q1A l k (i+1)).flatMap Q1q.cs:=by
 rw [Q3d Q1q rfl (a:=k+(i:Int)) rfl]
 congr 1
 have e2:(Q2O k i).length=i:=Q1K k i
 unfold Q1A
 rw [List.drop_eq_getElem_cons h,List.set_append_right _ _ (by omega),e2,Nat.sub_self,List.set_cons_zero]
 have e3:Q2O k (i+1)=Q2O k i++[k+(i:Int)]:=by simp [Q2O,List.range_succ]
 rw [e3,List.append_assoc]
 rfl
theorem Qcl {w wr:World} {base g cap:Nat} {l:List Int} {k:Int} {i:Nat} (hi:i < l.length) (hown:wr.ownsRow base 3 1 (.slice (some ⟨g,0,none⟩) l.length cap) l.length ((Q1A l k i).flatMap Q1q.cs))
  (hg:w.grownBy wr (some g)):(wr.setCell ⟨g,i,none⟩ (.int .i64 (k+(i:Int)))).ownsRow base 3 1 (.slice (some ⟨g,0,none⟩) l.length cap) l.length ((Q1A l k (i+1)).flatMap Q1q.cs)∧
   w.grownBy (wr.setCell ⟨g,i,none⟩ (.int .i64 (k+(i:Int)))) (some g):=by
 have h:=hown.stored i (.int .i64 (k+(i:Int)))
 rw [QaK l k i hi] at h
 exact ⟨h.1,⟨hg.os,hg.tape,hg.output,by have:=h.2.size;have:=hg.size;omega,fun j hj hne=> (h.2.block j (Kbq hj hg.size) hne).trans (hg.block j hj hne)⟩⟩
theorem Q56 (base:Nat) (v:Value) (l:List Int) (k:Int) (w:World) (hv:QcI w base v l) (h0:0≤k) (h1:k≤1073741824) (hlen:l.length≤1048576):
  Calls Tryz.prog 20 #[v,.int .i64 k] w fun e w'=> e=.returned (.int .i64 (k+l.length))∧QcI w' base v (Q2O k l.length)∧w.grownBy w' v.ownBlock:=by
 rcases hv.2 with ⟨rfl,h2⟩|⟨g,cap,cur,rfl,hg,_⟩
 ·have e:l=[]:=List.eq_nil_of_length_eq_zero h2
  subst e
  go_enter Tryz.func20,Tryz.ntmps20
  go_wp2
  refine wp_loop_rounds 1 ?_
  rw [rounds_succ]
  go_wp2
  go_ret
  exact ⟨by simp,by simpa [Q2O] using hv,World.grownBy.refl _ _⟩
 ·go_enter Tryz.func20,Tryz.ntmps20
  go_wp2
  have hv0:w.ownsRow base 3 1 (.slice (some ⟨g,0,none⟩) l.length cap) l.length ((Q1A l k 0).flatMap Q1q.cs):=by rw [Q9n];exact hv
  go_loopw [1,5] (fun m j wr=> ∃i:Nat,i≤l.length∧j=.int .i64 i∧m=.int .i64 (k+(i:Int))∧wr.ownsRow base 3 1 (.slice (some ⟨g,0,none⟩) l.length cap) l.length ((Q1A l k i).flatMap Q1q.cs)∧w.grownBy wr (some g))
   (fun _ j _=> l.length - (intOf j).toNat)
  case atStart=> exact ⟨0,Kcq _,rfl,by simp,hv0,World.grownBy.refl _ _⟩
  case round=>
   obtain ⟨i,hi,rfl,rfl,hown,hgr⟩:=hrel
   by_cases hlt:i < l.length
   ·have hcl:=hown.cellAt i (by omega)
    have hfr:=hown.frozenAt i
    have hln:((Q1A l k i).flatMap Q1q.cs).length=l.length:=by rw [Q0e,Q6S l k i hi];exact Nat.mul_one _
    obtain ⟨u,hu⟩:∃u,wr.cell? ⟨g,i,none⟩=some u:=⟨_,hcl.trans (List.getElem?_eq_getElem (by omega))⟩
    have R:=Q00 (Qcl hlt hown hgr)
    clear hcl hown hgr hv hv0 hln
    go_wp2
    go_roundw
    case rel=> exact ⟨i+1,by omega,by go_num,by go_num,R.out.1,R.out.2⟩
    case measure=> simp [intOf];omega
   ·have e:i=l.length:=by omega
    subst e
    rw [QaC] at hown
    have HO:=Q00 hown
    clear hown
    go_wp2
    go_ret
    exact ⟨rfl,(by have:=HO.out;unfold QcI ownL;rw [Q1K];exact this),hgr⟩
theorem Q97 (o:Option Addr) (cap n C:Nat) (k:Int) (w:World) (hR:RdI C w o (Q2O k n)) (h0:0≤k) (h1:k≤1073741824) (hlen:n≤1048576):
  Calls Tryz.prog 32 #[.slice o n cap,.int .i64 k] w fun e w'=> e=.returned (.int .i64 (k+n))∧w=w':=by
 go_enter Tryz.func32,Tryz.ntmps32
 go_wp2
 go_loop [1,5] (fun m j=> ∃i:Nat,i≤n∧j=.int .i64 i∧m=.int .i64 (k+(i:Int)))
  (fun _ j=> n - (intOf j).toNat)
 case atStart=> exact ⟨0,Kcq _,rfl,by simp⟩
 case round=>
  obtain ⟨i,hi,rfl,rfl⟩:=hrel
  by_cases hlt:i < n
  ·rcases hR with hR|⟨b,off,rfl,hbl,hcell⟩
   ·have:=Q1K k n;rw [hR] at this;simp at this;omega
   have hc:=RdL.int hcell i (by rw [Q1K];exact hlt)
   rw [Qe7 k n i hlt] at hc
   clear hcell
   go_wp2
   go_round
   case rel=> exact ⟨i+1,by omega,by go_num,by go_num⟩
   case measure=> simp [intOf];omega
  ·have e:i=n:=by omega
   subst e
   go_wp2
   go_ret
   exact ⟨rfl,rfl⟩
abbrev Hd:=Option Addr × Nat × Nat
def Q0o:Lay Hd:=⟨1,fun a=> [.slice a.1 a.2.1 a.2.2],(none,0,0),fun _=> rfl⟩
theorem RdL.head {w:World} {b off:Nat} {l:List Hd} (h:∀i,i < l.length→∀j,j < Q0o.k→w.cell? ⟨b,off+i * Q0o.k+j,none⟩=(Q0o.cs (l.getD i Q0o.d))[j]?) (i:Nat) (hi:i < l.length):
  w.cell? ⟨b,off+i,none⟩=some (.slice (l.getD i (none,0,0)).1 (l.getD i (none,0,0)).2.1 (l.getD i (none,0,0)).2.2):=by
 have:=h i hi 0 (by decide)
 rw [show Q0o.k=1 from rfl,Nat.mul_one,Nat.add_zero] at this
 exact this
def RdLo {α:Type} (L:Lay α) (lo C:Nat) (w:World) (o:Option Addr) (l:List α):Prop:=
 l=[]∨∃b off,o=some ⟨b,off,none⟩∧lo≤b∧b < C∧∀i,i < l.length→∀j,j < L.k→w.cell? ⟨b,off+i * L.k+j,none⟩=(L.cs (l.getD i L.d))[j]?
theorem RdLo.rd {α:Type} {L:Lay α} {lo C:Nat} {w:World} {o:Option Addr} {l:List α} (h:RdLo L lo C w o l):RdL L C w o l:=by
 rcases h with h|⟨b,off,ho,_,hb,r⟩
 ·exact .inl h
 ·exact .inr ⟨b,off,ho,hb,r⟩
def RdLL (C:Nat) (w:World) (o:Option Addr) (ll:List (List Int)):Prop:=
 ∃hs:List Hd,hs.length=ll.length∧RdL Q0o C w o hs∧∀i,i < ll.length→(hs.getD i (none,0,0)).2.1=(ll.getD i []).length∧RdI C w (hs.getD i (none,0,0)).1 (ll.getD i [])
theorem RdLL.kept {C D:Nat} {w w':World} {o:Option Addr} {ll:List (List Int)} (h:RdLL C w o ll) (hb:Below D w w') (hc:C≤D):RdLL C w' o ll:=by
 obtain ⟨hs,hl,hr,hx⟩:=h
 exact ⟨hs,hl,hr.kept hb hc,fun i hi=> ⟨(hx i hi).1,(hx i hi).2.kept hb hc⟩⟩
theorem RdLL.le {C D:Nat} {w:World} {o:Option Addr} {ll:List (List Int)} (h:RdLL C w o ll) (hc:C≤D):RdLL D w o ll:=by
 obtain ⟨hs,hl,hr,hx⟩:=h
 exact ⟨hs,hl,hr.le hc,fun i hi=> ⟨(hx i hi).1,(hx i hi).2.le hc⟩⟩
theorem RdLL.at {C:Nat} {w:World} {o:Option Addr} {ll:List (List Int)} (h:RdLL C w o ll) (hC:C≤w.heap.size) (i:Nat) (hi:i < ll.length):
  ∃b off o' c',o=some ⟨b,off,none⟩∧b < w.heap.size∧w.cell? ⟨b,off+i,none⟩=some (.slice o' (ll.getD i []).length c')∧RdI w.heap.size w o' (ll.getD i []):=by
 obtain ⟨hs,hl,hr,hx⟩:=h
 rcases hr with hr|⟨b,off,ho,hb,r⟩
 ·subst hr;simp at hl;omega
 ·have:=RdL.head r i (by omega)
  rw [(hx i hi).1] at this
  exact ⟨b,off,_,_,ho,Kbq hb hC,this,(hx i hi).2.le hC⟩
theorem Q5v:(Tryz.prog.info? 60).map (fun i=> (i.zero,i.size,i.bytes))=some (some (.slice none 0 0),1,24):=by kernel_rfl
theorem QcY:Tryz.prog.cellsOf 3=1:=by kernel_rfl
theorem QdI:Tryz.prog.cellsOf 60=1:=by kernel_rfl
theorem Q6e {H:Type} {enc:TypeId × Value→H} {W:World} {fuel:Nat} {cs:List Value} {x:DataW H × List MemPlace} (h:DataW.trod enc Tryz.prog W 0 (fun _=> true) true fuel 60 cs=some x):
  ∃(o:Option Addr) (cap:Nat) (l:List Int),cs=[.slice o l.length cap]∧l.length≤maxLen∧RdI W.heap.size W o l:=by
 refine Q38 Q1q (by decide) Tryz.underlying60 QcY ?_ h
 intro n cs y hl hy
 obtain ⟨a,e0,_,_⟩:=DataW.trod_int Tryz.underlying3 hy
 exact ⟨a,e0⟩
theorem Q68 {H:Type} {enc:TypeId × Value→H} {W:World} {fuel:Nat} {cs:List Value} {x:DataW H × List MemPlace} (h:DataW.trod enc Tryz.prog W 0 (fun _=> true) true fuel 228 cs=some x):
  ∃(o:Option Addr) (cap:Nat) (ll:List (List Int)),cs=[.slice o ll.length cap]∧ll.length≤maxLen∧RdLL W.heap.size W o ll∧∀i,i < ll.length→(ll.getD i []).length≤maxLen:=by
 rcases Go.Deep.open_slice1 Tryz.underlying228 QdI h with ⟨hcs,_⟩|⟨a,len,cap,m,n,V,D,Pl,hcs,_,hl,hm,hmm,_,hx⟩
 ·exact ⟨none,0,[],hcs,Kcq _,⟨[],rfl,.inl rfl,fun i hi=> by cases hi⟩,fun i hi=> by cases hi⟩
 ·have hlm:len≤m:=by rw [hmm];split <;> omega
  have ex:∀i,i < len→∃y:Hd × List Int,V i=.slice y.1.1 y.1.2.1 y.1.2.2∧y.1.2.1=y.2.length∧y.2.length≤maxLen∧RdI W.heap.size W y.1.1 y.2:=fun i hi=> by
   obtain ⟨o',c',l',e,hl',hr⟩:=Q6e (hx i (by omega)).2
   simp at e
   exact ⟨((o',l'.length,c'),l'),e,rfl,hl',hr⟩
  have hne:Inhabited (Hd × List Int):=⟨((none,0,0),[])⟩
  obtain ⟨f,hf⟩:=Go.Deep.choose_lt ex
  have gd:∀i,i < len→((List.range len).map (fun i=> (f i).2)).getD i []=(f i).2:=fun i hi=> by simp [hi]
  have gh:∀i,i < len→((List.range len).map (fun i=> (f i).1)).getD i (none,0,0)=(f i).1:=fun i hi=> by simp [hi]
  refine ⟨some a,cap,(List.range len).map (fun i=> (f i).2),by simpa using hcs,by simp;omega,⟨(List.range len).map (fun i=> (f i).1),by simp, ?_,fun i hi=> ?_⟩,fun i hi=> ?_⟩
  ·by_cases h0:len=0
   ·left;simp [h0]
   ·right
    obtain ⟨b,off,spot⟩:=a
    have hc:=(hx 0 (by omega)).1
    have hspot:spot=none:=by simpa [Addr.add] using World.cell?_spot hc
    subst hspot
    have e2:∀j,(⟨b,off,none⟩:Addr).add j=⟨b,off+j,none⟩:=fun j=> by by_cases h:j=0 <;> simp [Addr.add,h]
    refine ⟨b,off,rfl, ?_,fun i hi j hj=> ?_⟩
    ·rw [e2] at hc
     rcases Nat.lt_or_ge b W.heap.size with h|h
     ·exact h
     ·simp [World.cell?,Array.getElem?_eq_none h] at hc
    ·have hi':i < len:=by simpa using hi
     have hj':j=0:=by have:j < 1:=hj;omega
     subst hj'
     have h1:=(hx i (by omega)).1
     rw [e2] at h1
     rw [show Q0o.d=(none,0,0) from rfl,gh i hi',show Q0o.k=1 from rfl,Nat.mul_one,Nat.add_zero,h1,(hf i hi').1]
     rfl
  ·have hi':i < len:=by simpa using hi
   rw [gd i hi',gh i hi']
   exact ⟨(hf i hi').2.1,(hf i hi').2.2.2⟩
  ·have hi':i < len:=by simpa using hi
   rw [gd i hi']
   exact (hf i hi').2.2.1
theorem Q6k (v1 v2:Value) (l:List Int) (w:World) (h1:RdV Q1q w.heap.size w v1 l) (h2:RdV Q1q w.heap.size w v2 l) (hl:l.length≤1048576):
  Calls Tryz.prog 19 #[v1,v2] w fun e w'=> e=.returned (.bool true)∧Below w.heap.size w w':=by
 obtain ⟨o1,c1,rfl,r1⟩:=h1
 obtain ⟨o2,c2,rfl,r2⟩:=h2
 exact Q6m o1 o2 c1 c2 l w r1 r2 hl
theorem Q5Z (v:Value) (n C:Nat) (k:Int) (w:World) (hR:RdV Q1q C w v (Q2O k n)) (h0:0≤k) (h1:k≤1073741824) (hlen:n≤1048576):
  Calls Tryz.prog 32 #[v,.int .i64 k] w fun e w'=> e=.returned (.int .i64 (k+(n:Int)))∧w=w':=by
 obtain ⟨o,c,e,r⟩:=hR
 rw [e,Q1K]
 exact Q97 o c n C k w r h0 h1 hlen
theorem Qaq (lo hi:Nat) (v:Value) (l:List Int) (k:Int) (w:World) (hv:InL Q1q 3 lo hi w v l) (h0:0≤k) (h1:k≤1073741824) (hlen:l.length≤1048576):
  Calls Tryz.prog 20 #[v,.int .i64 k] w fun e w'=> e=.returned (.int .i64 (k+l.length))∧InL Q1q 3 lo hi w' v (Q2O k l.length)∧w.grownBy w' v.ownBlock:=by
 refine (Q56 lo v l k w hv.1 h0 h1 hlen).mono ?_
 rintro e w' ⟨rfl,ho,hg⟩
 exact ⟨rfl,⟨ho,hv.2⟩,hg⟩
end Go.Proofs.YtgplppfbinfelaaGreat
