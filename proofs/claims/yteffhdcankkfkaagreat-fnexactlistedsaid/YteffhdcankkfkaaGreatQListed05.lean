/- Several texts in one: IntsA, Ints, ShInts. -/
import Derived.Test.YteffhdcankkfkaaGreatQListed03
import Derived.Test.YteffhdcankkfkaaGreatQListed04
namespace Go.Proofs.YteffhdcankkfkaaGreat
open Go.ChangeShapes Go.WideShapes Go.ChangeAt Go.RowKit Go.Joins
set_option linter.unusedVariables false
set_option linter.unusedSimpArgs false
set_option maxRecDepth 100000
set_option maxHeartbeats 40000000
def Q0T:Lay Int:=⟨1,fun a=> [.int .i64 a],0,fun _=>rfl⟩
abbrev RdI:=RdL Q0T
abbrev Q9o:=ownL Q0T 3
theorem RdL.int {w:World} {b a:Nat} {l:List Int} (h:∀i,i < l.length->∀j,j < Q0T.k->w.cell? ⟨b,a+i * Q0T.k+j,none⟩=(Q0T.cs (l.getD i Q0T.d))[j]?) (i:Nat) (hi:i < l.length):
  w.cell? ⟨b,a+i,none⟩=some (.int .i64 (l.getD i 0)):=by
 have:=h i hi 0 (by decide);rw[show Q0T.k=1 from rfl,Nat.mul_one,Nat.add_zero]at this;exact this
theorem Qbv:(Tryz.prog.info? 3).map (fun i=>(i.zero,i.size,i.bytes))=some (some (.int .i64 0),1,8):=by kernel_rfl
theorem Q6G (q r:Option Addr) (t u:Nat) (l:List Int) (w:World) (g:RdI w.heap.size w q l) (h2:RdI w.heap.size w r l) (B:l.length<=1048576):
  Calls Tryz.prog 12 #[.slice q l.length t,.slice r l.length u] w fun e z=>e=.returned (.bool true)/\Below w.heap.size w z:=by
 go_enter Tryz.func12,Tryz.ntmps12;go_wp2
 go_loopw [5] (fun i wr=> ∃k:Nat,k<=l.length/\i=.int .i64 k/\Below w.heap.size w wr)
  (fun i _=>l.length - (intOf i).toNat)
 case atStart=>exact⟨0,Kcq _,rfl,KBq⟩
 case round=>
  obtain⟨k,A,rfl,c⟩:=hrel
  by_cases hlt:k < l.length
  ·rcases g with g|⟨m,d,rfl,h,a⟩
   ·subst g;simp at hlt
   rcases h2 with h2|⟨n,f,rfl,j,b⟩
   ·subst h2;simp at hlt
   have v:wr.cell? ⟨m,d+k,none⟩=some (.int .i64 (l.getD k 0)):=(c.cell (p:=⟨m,d+k,none⟩) h).trans (RdL.int a k hlt);have y:wr.cell? ⟨n,f+k,none⟩=some (.int .i64 (l.getD k 0)):=(c.cell (p:=⟨n,f+k,none⟩) j).trans (RdL.int b k hlt);have s:=Q00 c;clear a b c
   have C:(k:Int) < (l.length:Int):=by omega
   generalize l.getD k 0=x at *;go_wp2
   go_quiet (fail)
   go_wp2;go_roundw
   case rel=>exact⟨k+1,by omega,by go_num,below_drewN s.out _⟩
   case measure=>simp[intOf];omega
  ·have e:k=l.length:=by omega
   subst e;go_wp2;go_ret;exact⟨rfl,c⟩
def Q3i (k:Int) (n:Nat):List Int:=(List.range n).map (fun (i:Nat)=>k+(i:Int))
theorem Q21 (k:Int) (n:Nat):(Q3i k n).length=n:=by simp[Q3i]
theorem QeO (k:Int) (n i:Nat) (h:i < n):(Q3i k n).getD i 0=k+(i:Int):=by simp[Q3i,h]
def Q1N (l:List Int) (k:Int) (i:Nat):List Int:=Q3i k i++l.drop i
theorem Q9y (l:List Int) (k:Int):Q1N l k 0=l:=by simp[Q1N,Q3i]
theorem QbV (l:List Int) (k:Int):Q1N l k l.length=Q3i k l.length:=by simp[Q1N]
theorem Q7g (l:List Int) (k:Int) (i:Nat) (h:i<=l.length):(Q1N l k i).length=l.length:=by simp[Q1N,Q3i];omega
theorem QbA (l:List Int) (k:Int) (i:Nat) (h:i < l.length):((Q1N l k i).flatMap Q0T.cs).set i (.int .i64 (k+(i:Int)))=(Q1N l k (i+1)).flatMap Q0T.cs:=by
 rw[Q3s Q0T rfl (a:=k+(i:Int)) rfl]
 congr 1
 have b:(Q3i k i).length=i:=Q21 k i;unfold Q1N;rw[List.drop_eq_getElem_cons h,List.set_append_right _ _ (by omega),b,Nat.sub_self,List.set_cons_zero]
 have c:Q3i k (i+1)=Q3i k i++[k+(i:Int)]:=by simp[Q3i,List.range_succ]
 rw[c,List.append_assoc]
 rfl
theorem QdH {w wr:World} {base g cap:Nat} {l:List Int} {k:Int} {i:Nat} (hi:i < l.length) (c:wr.ownsRow base 3 1 (.slice (some ⟨g,0,none⟩) l.length cap) l.length ((Q1N l k i).flatMap Q0T.cs))
  (a:w.grownBy wr (some g)):(wr.setCell ⟨g,i,none⟩ (.int .i64 (k+(i:Int)))).ownsRow base 3 1 (.slice (some ⟨g,0,none⟩) l.length cap) l.length ((Q1N l k (i+1)).flatMap Q0T.cs)/\
   w.grownBy (wr.setCell ⟨g,i,none⟩ (.int .i64 (k+(i:Int)))) (some g):=by
 have h:=c.stored i (.int .i64 (k+(i:Int)));rw[QbA l k i hi]at h;exact⟨h.1,⟨a.os,a.tape,a.output,by have:=h.2.size;have:=a.size;omega,fun j d b=>(h.2.block j (Kbq d a.size) b).trans (a.block j d b)⟩⟩
theorem Q5z (base:Nat) (v:Value) (l:List Int) (k:Int) (w:World) (hv:Q9o w base v l) (s:0<=k) (t:k<=1073741824) (h:l.length<=1048576):
  Calls Tryz.prog 13 #[v,.int .i64 k] w fun e n=>e=.returned (.int .i64 (k+l.length))/\Q9o n base v (Q3i k l.length)/\w.grownBy n v.ownBlock:=by
 rcases hv.2 with⟨rfl,h2⟩|⟨g,cap,q,rfl,x,_⟩
 ·have e:l=[]:=List.eq_nil_of_length_eq_zero h2
  subst e;go_enter Tryz.func13,Tryz.ntmps13;go_wp2;refine wp_loop_rounds 1 ?_;rw[rounds_succ];go_wp2;go_ret;exact⟨by simp,by simpa[Q3i]using hv,World.grownBy.refl _ _⟩
 ·go_enter Tryz.func13,Tryz.ntmps13
  go_wp2
  have d:w.ownsRow base 3 1 (.slice (some ⟨g,0,none⟩) l.length cap) l.length ((Q1N l k 0).flatMap Q0T.cs):=by rw[Q9y];exact hv
  go_loopw [1,5] (fun m j wr=> ∃i:Nat,i<=l.length/\j=.int .i64 i/\m=.int .i64 (k+(i:Int))/\wr.ownsRow base 3 1 (.slice (some ⟨g,0,none⟩) l.length cap) l.length ((Q1N l k i).flatMap Q0T.cs)/\w.grownBy wr (some g))
   (fun _ j _=>l.length - (intOf j).toNat)
  case atStart=>exact⟨0,Kcq _,rfl,by simp,d,World.grownBy.refl _ _⟩
  case round=>
   obtain⟨i,hi,rfl,rfl,a,b⟩:=hrel
   by_cases hlt:i < l.length
   ·have c:=a.cellAt i (by omega)
    have r:=a.frozenAt i
    have f:((Q1N l k i).flatMap Q0T.cs).length=l.length:=by rw[Q0f,Q7g l k i hi];exact Nat.mul_one _
    obtain⟨u,y⟩:∃u,wr.cell? ⟨g,i,none⟩=some u:=⟨_,c.trans (KGq (by omega))⟩;have R:=Q00 (QdH hlt a b);clear c a b hv d f;go_wp2;go_roundw
    case rel=>exact⟨i+1,by omega,by go_num,by go_num,R.out.1,R.out.2⟩
    case measure=>simp[intOf];omega
   ·have e:i=l.length:=by omega
    subst e;rw[QbV]at a;have p:=Q00 a;clear a;go_wp2;go_ret;exact⟨rfl,(by have:=p.out;unfold Q9o ownL;rw[Q21];exact this),b⟩
theorem Qaf (o:Option Addr) (cap n C:Nat) (k:Int) (w:World) (c:RdI C w o (Q3i k n)) (p:0<=k) (q:k<=1073741824) (d:n<=1048576):
  Calls Tryz.prog 27 #[.slice o n cap,.int .i64 k] w fun e l=>e=.returned (.int .i64 (k+n))/\w=l:=by
 go_enter Tryz.func27,Tryz.ntmps27;go_wp2
 go_loop [1,5] (fun m j=> ∃i:Nat,i<=n/\j=.int .i64 i/\m=.int .i64 (k+(i:Int)))
  (fun _ j=>n - (intOf j).toNat)
 case atStart=>exact⟨0,Kcq _,rfl,by simp⟩
 case round=>
  obtain⟨i,hi,rfl,rfl⟩:=hrel
  by_cases hlt:i < n
  ·rcases c with c|⟨b,h,rfl,f,a⟩
   ·have:=Q21 k n;rw[c]at this;simp at this;omega
   have g:=RdL.int a i (by rw[Q21];exact hlt);rw[QeO k n i hlt]at g;clear a;go_wp2
   go_round
   case rel=>exact⟨i+1,by omega,by go_num,by go_num⟩
   case measure=>simp[intOf];omega
  ·have e:i=n:=by omega
   subst e;go_wp2;go_ret;exact⟨rfl,rfl⟩
abbrev Hd:=Option Addr × Nat × Nat
def Q0q:Lay Hd:=⟨1,fun a=> [.slice a.1 a.2.1 a.2.2],(none,0,0),fun _=>rfl⟩
theorem RdL.head {w:World} {b a:Nat} {l:List Hd} (h:∀i,i < l.length->∀j,j < Q0q.k->w.cell? ⟨b,a+i * Q0q.k+j,none⟩=(Q0q.cs (l.getD i Q0q.d))[j]?) (i:Nat) (hi:i < l.length):
  w.cell? ⟨b,a+i,none⟩=some (.slice (l.getD i (none,0,0)).1 (l.getD i (none,0,0)).2.1 (l.getD i (none,0,0)).2.2):=by
 have:=h i hi 0 (by decide);rw[show Q0q.k=1 from rfl,Nat.mul_one,Nat.add_zero]at this;exact this
def RdLo {α:Type} (L:Lay α) (lo C:Nat) (w:World) (o:Option Addr) (l:List α):Prop:=
 l=[]\/∃b off,o=some ⟨b,off,none⟩/\lo<=b/\b < C/\∀i,i < l.length->∀j,j < L.k->w.cell? ⟨b,off+i * L.k+j,none⟩=(L.cs (l.getD i L.d))[j]?
theorem RdLo.rd {α:Type} {L:Lay α} {lo C:Nat} {w:World} {o:Option Addr} {l:List α} (h:RdLo L lo C w o l):RdL L C w o l:=by
 rcases h with h|⟨b,a,d,_,c,r⟩
 ·exact .inl h
 ·exact .inr ⟨b,a,d,c,r⟩
def RdLL (C:Nat) (w:World) (o:Option Addr) (ll:List (List Int)):Prop:=
 ∃hs:List Hd,hs.length=ll.length/\RdL Q0q C w o hs/\∀i,i < ll.length->(hs.getD i (none,0,0)).2.1=(ll.getD i []).length/\RdI C w (hs.getD i (none,0,0)).1 (ll.getD i [])
theorem RdLL.kept {C D:Nat} {w f:World} {o:Option Addr} {d:List (List Int)} (h:RdLL C w o d) (a:Below D w f) (b:C<=D):RdLL C f o d:=by
 obtain⟨hs,g,j,c⟩:=h;exact⟨hs,g,j.kept a b,fun i hi=>⟨(c i hi).1,(c i hi).2.kept a b⟩⟩
theorem RdLL.le {C D:Nat} {w:World} {o:Option Addr} {c:List (List Int)} (h:RdLL C w o c) (a:C<=D):RdLL D w o c:=by
 obtain⟨hs,d,f,b⟩:=h;exact⟨hs,d,f.le a,fun i hi=>⟨(b i hi).1,(b i hi).2.le a⟩⟩
theorem RdLL.at {C:Nat} {w:World} {o:Option Addr} {c:List (List Int)} (h:RdLL C w o c) (f:C<=w.heap.size) (i:Nat) (hi:i < c.length):
  ∃b a j k,o=some ⟨b,a,none⟩/\b < w.heap.size/\w.cell? ⟨b,a+i,none⟩=some (.slice j (c.getD i []).length k)/\RdI w.heap.size w j (c.getD i []):=by
 obtain⟨hs,m,d,g⟩:=h
 rcases d with d|⟨b,a,n,l,r⟩
 ·subst d;simp at m;omega
 ·have:=RdL.head r i (by omega)
  rw[(g i hi).1]at this;exact⟨b,a,_,_,n,Kbq l f,this,(g i hi).2.le f⟩
theorem Q63:(Tryz.prog.info? 22).map (fun i=>(i.zero,i.size,i.bytes))=some (some (.slice none 0 0),1,24):=by kernel_rfl
theorem Qee:Tryz.prog.cellsOf 3=1:=by kernel_rfl
theorem QdW:Tryz.prog.cellsOf 22=1:=by kernel_rfl
theorem Q6M {H:Type} {enc:TypeId × Value->H} {W:World} {b:Nat} {cs:List Value} {x:DataW H × List MemPlace} (h:DataW.trod enc Tryz.prog W 0 (fun _=>true) true b 22 cs=some x):
  ∃(o:Option Addr) (cap:Nat) (l:List Int),cs=[.slice o l.length cap]/\l.length<=maxLen/\RdI W.heap.size W o l:=by
 refine Q3w Q0T (by decide) Tryz.underlying22 Qee ?_ h;intro n cs y f d;obtain⟨a,c,_,_⟩:=DataW.trod_int Tryz.underlying3 d;exact⟨a,c⟩
theorem Q6n {H:Type} {enc:TypeId × Value->H} {W:World} {q:Nat} {cs:List Value} {x:DataW H × List MemPlace} (h:DataW.trod enc Tryz.prog W 0 (fun _=>true) true q 206 cs=some x):
  ∃(o:Option Addr) (cap:Nat) (r:List (List Int)),cs=[.slice o r.length cap]/\r.length<=maxLen/\RdLL W.heap.size W o r/\∀i,i < r.length->(r.getD i []).length<=maxLen:=by
 rcases Go.Deep.open_slice1 Tryz.underlying206 QdW h with⟨g,_⟩|⟨a,len,cap,m,n,V,D,Pl,g,_,R,T,z,_,A⟩
 ·exact⟨none,0,[],g,Kcq _,⟨[],rfl,.inl rfl,fun i hi=>by cases hi⟩,fun i hi=>by cases hi⟩
 ·have M:len<=m:=by rw[z];split <;> omega
  have J:∀i,i < len->∃y:Hd × List Int,V i=.slice y.1.1 y.1.2.1 y.1.2.2/\y.1.2.1=y.2.length/\y.2.length<=maxLen/\RdI W.heap.size W y.1.1 y.2:=fun i hi=>by
   obtain⟨P,I,G,e,w,O⟩:=Q6M (A i (by omega)).2;simp at e;exact⟨((P,G.length,I),G),e,rfl,w,O⟩
  have N:Inhabited (Hd × List Int):=⟨((none,0,0),[])⟩;obtain⟨f,t⟩:=Go.Deep.choose_lt J
  have C:∀i,i < len->((List.range len).map (fun i=>(f i).2)).getD i []=(f i).2:=fun i hi=>by simp[hi]
  have E:∀i,i < len->((List.range len).map (fun i=>(f i).1)).getD i (none,0,0)=(f i).1:=fun i hi=>by simp[hi]
  refine⟨some a,cap,(List.range len).map (fun i=>(f i).2),by simpa using g,by simp;omega,⟨(List.range len).map (fun i=>(f i).1),by simp, ?_,fun i hi=>?_⟩,fun i hi=>?_⟩
  ·by_cases h0:len=0
   ·left;simp[h0]
   ·right
    obtain⟨b,p,s⟩:=a;have u:=(A 0 (by omega)).1
    have l:s=none:=by simpa[Addr.add]using World.cell?_spot u
    subst l
    have B:∀j,(⟨b,p,none⟩:Addr).add j=⟨b,p+j,none⟩:=fun j=>by by_cases h:j=0 <;> simp[Addr.add,h]
    refine⟨b,p,rfl, ?_,fun i hi j L=>?_⟩
    ·rw[B]at u
     rcases Nat.lt_or_ge b W.heap.size with h|h
     ·exact h
     ·simp[World.cell?,Array.getElem?_eq_none h]at u
    ·have c:i < len:=by simpa using hi
     have v:j=0:=by have:j < 1:=L;omega
     subst v;have F:=(A i (by omega)).1;rw[B]at F;rw[show Q0q.d=(none,0,0)from rfl,E i c,show Q0q.k=1 from rfl,Nat.mul_one,Nat.add_zero,F,(t i c).1]
     rfl
  ·have c:i < len:=by simpa using hi
   rw[C i c,E i c];exact⟨(t i c).2.1,(t i c).2.2.2⟩
  ·have c:i < len:=by simpa using hi
   rw[C i c];exact(t i c).2.2.1
theorem Q6m (a b:Value) (l:List Int) (w:World) (f:RdV Q0T w.heap.size w a l) (h2:RdV Q0T w.heap.size w b l) (g:l.length<=1048576):
  Calls Tryz.prog 12 #[a,b] w fun e m=>e=.returned (.bool true)/\Below w.heap.size w m:=by
 obtain⟨h,c,rfl,j⟩:=f;obtain⟨i,d,rfl,k⟩:=h2;exact Q6G h i c d l w j k g
theorem Q6a (v:Value) (n C:Nat) (k:Int) (w:World) (f:RdV Q0T C w v (Q3i k n)) (b:0<=k) (d:k<=1073741824) (a:n<=1048576):
  Calls Tryz.prog 27 #[v,.int .i64 k] w fun e g=>e=.returned (.int .i64 (k+(n:Int)))/\w=g:=by
 obtain⟨o,c,e,r⟩:=f;rw[e,Q21];exact Qaf o c n C k w r b d a
theorem Qbe (lo hi:Nat) (v:Value) (l:List Int) (k:Int) (w:World) (hv:InL Q0T 3 lo hi w v l) (c:0<=k) (d:k<=1073741824) (a:l.length<=1048576):
  Calls Tryz.prog 13 #[v,.int .i64 k] w fun e b=>e=.returned (.int .i64 (k+l.length))/\InL Q0T 3 lo hi b v (Q3i k l.length)/\w.grownBy b v.ownBlock:=by
 refine(Q5z lo v l k w hv.1 c d a).mono ?_;rintro e b ⟨rfl,g,f⟩;exact⟨rfl,⟨g,hv.2⟩,f⟩
end Go.Proofs.YteffhdcankkfkaaGreat
