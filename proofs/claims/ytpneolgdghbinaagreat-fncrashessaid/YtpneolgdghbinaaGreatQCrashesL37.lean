/- Hints that are due go: the program's dropDue over hints. -/
import Derived.Test.YtpneolgdghbinaaGreatQCrashesL36
import Derived.Test.YtpneolgdghbinaaGreatQCrashesL34
namespace Go.Proofs.YtpneolgdghbinaaGreat
open Go.ChangeShapes Go.WideShapes Go.ChangeAt Go.RowKit Go.Joins
set_option linter.unusedVariables false
set_option linter.unusedSimpArgs false
set_option maxRecDepth 100000
set_option maxHeartbeats 40000000
theorem atE (l:List Sl) (i:Nat):at' l i=atN l i:=rfl
theorem QfW {l:List Sl} {now:Int} {j:Nat} (b:l.length<=16) (h:Q8B l now j) (c:lvT l now j<=now):Q4d l now=some j:=by
 obtain⟨d,f,a⟩:=h;unfold lvT at c a;refine Qd3 d (fun i hi=>?_) ?_
 ·unfold QcG;simp only[atE]
  cases hui:(atN l i).u with
  |false=>rfl
  |true=>
   have:=a i (by omega) hui;simp only[Bool.true_and,decide_eq_false_iff_not];omega
 ·unfold QcG;simp only[atE]
  rw[f];simp only[Bool.true_and,decide_eq_true_eq];omega
theorem QgF {l:List Sl} {now:Int} {j:Nat} (b:l.length<=16) (h:Q8B l now j) (c:¬lvT l now j<=now):Q4d l now=none:=by
 obtain⟨d,f,a⟩:=h;unfold lvT at c a;refine Q8v (fun i hi=>?_);unfold QcG;simp only[atE]
 cases hui:(atN l i).u with
 |false=>rfl
 |true=>
  have:=a i hi hui;simp only[Bool.true_and,decide_eq_false_iff_not];omega
theorem QfJ {l:List Sl} {now:Int} (h:Q9R l):Q4d l now=none:=Q8v (fun i hi=>by unfold QcG;rw[h i hi];rfl)
def QfY (m:List Sl) (now u j:Int) (s:Bool):Prop:=(∃i:Nat,Q8B m now i/\u=lvT m now i/\j=(i:Int)/\s=true)\/(Q9R m/\s=false)
theorem Qfd {m:List Sl} {now:Int} {e:Ending} (h:(∃j,Q8B m now j/\e=.returned (.tuple #[.agg #[.int .i64 (lvT m now j),.int .i64 j],.bool true]))\/(Q9R m/\e=.returned (.tuple #[.agg #[.int .i64 0,.int .i64 0],.bool false]))):∃u j s,e=.returned (.tuple #[.agg #[.int .i64 u,.int .i64 j],.bool s])/\QfY m now u j s:=by
 rcases h with⟨j,h,rfl⟩|⟨h,rfl⟩
 ·exact⟨_,_,_,rfl,.inl ⟨j,h,rfl,rfl,rfl⟩⟩
 ·exact⟨_,_,_,rfl,.inr ⟨h,rfl⟩⟩
theorem Stp.then_new {lo hi P:Nat} {w a b:World} (h:Stp lo hi w a) (s:Stp P (P+1) a b) (f:w.heap.size<=P):Stp lo hi w b:=
 ⟨s.os.trans h.os,s.tape.trans h.tape,s.output.trans h.output,Kdq h.size s.size,fun k c d=>(s.block k (Kbq c h.size) (.inl (by omega))).trans (h.block k c d)⟩
theorem QhX {w d:World} {base g n c m P size:Nat} {e:TypeId} {f:List Value} (h:w.ownsRow base e size (.slice (some ⟨g,0,none⟩) n c) m f) (s:Stp P (P+1) w d) (p:g < P):d.ownsRow base e size (.slice (some ⟨g,0,none⟩) n c) m f:=by
 obtain⟨q,k|⟨j,cap,a,hv,l,b,r⟩⟩:=h
 ·exact absurd k.1 (by simp)
 ·have i:g=j:=by simp at hv;exact hv.1
  subst i;exact⟨q,.inr ⟨g,cap,a,hv,l,(s.block g (KEq b) (.inl p)).trans b,r⟩⟩
theorem Qaq (g c base n:Nat) (l:List Sl) (now:Int) (w:World) (hn:l.length=n) (al:Q0e l=true) (ho:w.ownsRow base Q1B 5 (.slice (some ⟨g,0,none⟩) n c) n (l.flatMap Q0g.cs)):
  Calls Tryz.prog 75 #[tab (.slice (some ⟨g,0,none⟩) n c),.int .i64 now] w fun e w'=>e=.returned (.int .i64 ((Q8x l now).2:Nat))/\w'.ownsRow base Q1B 5 (.slice (some ⟨g,0,none⟩) n c) n ((Q8x l now).1.flatMap Q0g.cs)/\Stp g (g+1) w w':=by
 have ay:=(ho.lt g rfl).2;have B:=Q02 ho
 have C:n<=16:=by have:=(Q0d.1 al).2.1;omega
 have q:=Q02 (ExpInv.start (now:=now) al);rw[hn]at q;clear ho;obtain⟨W0,T⟩:∃W,(w.alloc (.cells #[.slice (some ⟨g,0,none⟩) n c] 91))=W:=⟨_,rfl⟩;have t:=alb0v0v1 T;replace B:=Q02 (Q03 B.out t);have Y:=Q02 t;clear t;have b:=alz0v0v1 T
 have r:W0.cell? ⟨w.heap.size,0,none⟩=some (.slice (some ⟨g,0,none⟩) n c):=by rw[<-T];simp[go_sem]
 have E:=Q6A g 0 c n l now W0 hn C (B.out.lt g rfl).2 (Q1i B.out hn.symm);go_enter Tryz.func75,Tryz.ntmps75;go_wp2_with fail;refine(E).mono ?_;rintro e v1 ⟨ht,hb⟩;obtain⟨u1,j1,s1,rfl,am⟩:=Qfd ht;replace r:=bKq0v0v0 hb r b;replace b:w.heap.size < v1.heap.size:=Kbq b hb.size;replace B:=Q02 (Q03 B.out hb);replace Y:=Q02 (Y.out.trans (hb.mono Y.out.size));clear hb ht;obtain⟨W1,ah⟩:∃W,(v1.alloc (.cells #[.int .i64 u1,.int .i64 j1] 172))=W:=⟨_,rfl⟩;have a:=alb0v0v1 ah;have ao:=alx0v0v1 ah
 have ad:Hid (∃(m:List Sl) (d:Nat) (K:Nat) (u j:Int) (s:Bool),Value.int .i64 0=.int .i64 d/\Value.pointer (some ⟨v1.heap.size,0,none⟩)=.pointer (some ⟨K,0,none⟩)/\Value.bool s1=.bool s/\Hid (QfY m now u j s)/\Hid (W1.heap[K]? =some (.cells #[.int .i64 u,.int .i64 j] 172 (0,0)))/\w.heap.size < K/\Hid (ExpInv n now (Q8x l now) (cnt l) m d)/\Hid (W1.ownsRow base Q1B 5 (.slice (some ⟨g,0,none⟩) n c) n (m.flatMap Q0g.cs))/\Hid (W1.cell? ⟨w.heap.size,0,none⟩=some (.slice (some ⟨g,0,none⟩) n c))/\w.heap.size < W1.heap.size/\Hid (Stp g (g+1) w W1)):=
  ⟨l,0,v1.heap.size,u1,j1,s1,rfl,rfl,rfl,am,ao,b,q.out,Q03 B.out a,(a.cell (p:=⟨w.heap.size,0,none⟩) b).trans r,Kbq b a.size,Stp.of (Y.out.trans (a.mono Y.out.size))⟩
 clear E ao a q B Y am;go_wp2
 go_loopg [5,6,7] (cnt l) (fun gk dv pv sv wr=> ∃(m:List Sl) (d:Nat) (K:Nat) (u j:Int) (s:Bool),dv=.int .i64 d/\pv=.pointer (some ⟨K,0,none⟩)/\sv=.bool s/\Hid (QfY m now u j s)/\Hid (wr.heap[K]? =some (.cells #[.int .i64 u,.int .i64 j] 172 (0,0)))/\w.heap.size < K/\Hid (ExpInv n now (Q8x l now) gk m d)/\Hid (wr.ownsRow base Q1B 5 (.slice (some ⟨g,0,none⟩) n c) n (m.flatMap Q0g.cs))/\Hid (wr.cell? ⟨w.heap.size,0,none⟩=some (.slice (some ⟨g,0,none⟩) n c))/\w.heap.size < wr.heap.size/\Hid (Stp g (g+1) w wr))
 case atStart=>exact ad.out
 case round=>
  clear ad r b;obtain⟨m,d,K,u,j,s,rfl,rfl,rfl,I,HK,hK,HI,B,HC,b,O⟩:=hrel;have r:=HC.out;have F:=Q02 HI.out.len
  have ku:wr.cell? ⟨K,0,none⟩=some (.int .i64 u):=by simp[World.cell?,HK.out]
  have kj:wr.cell? ⟨K,1,none⟩=some (.int .i64 j):=by simp[World.cell?,HK.out]
  have k:Hid (Q4d m now=none->(Q8x l now)=(m,d)):=fun h=>HI.out.done h
  rcases I.out with⟨i,R,rfl,rfl,rfl⟩|⟨R,rfl⟩
  ·by_cases hd:lvT m now i<=now
   ·have N:=QfW (by rw[F.out];exact C) R hd
    obtain⟨hg,av,hu,aw,ag⟩:=HI.out.step N;have HN:=Q02 ag;have HF:=Q02 (Q28 HI.out.ok);obtain⟨uu,H⟩:∃x,lvT m now i=x:=⟨_,rfl⟩;rw[H]at ku hd HK;have ar:=Q02 (KEq HK.out);clear ag hu N R I H k;go_wp2_with fail;refine(Qdy g c base n i m wr F.out C av HF.out B.out).mono ?_;rintro e f ⟨⟨v,rfl⟩,V,G⟩;have au:=Q02 V;have L:=Q02 (O.out.trans G)
    have ax:K≠g:=by omega
    have X:f.heap[K]? =some (.cells #[.int .i64 uu,.int .i64 (i:Int)] 172 (0,0)):=(G.block K ar.out (by omega)).trans HK.out
    have aF:f.cell? ⟨K,0,none⟩=some (.int .i64 uu):=by simp[World.cell?,X]
    have aE:f.cell? ⟨K,1,none⟩=some (.int .i64 (i:Int)):=by simp[World.cell?,X]
    have ae:f.cell? ⟨w.heap.size,0,none⟩=some (.slice (some ⟨g,0,none⟩) n c):=G.cell r b (.inr (by omega));have y:w.heap.size < f.heap.size:=Kbq b G.size;obtain⟨W3,U⟩:∃W,(f.alloc (.cells #[.int .i64 uu,.int .i64 (i:Int)] 172))=W:=⟨_,rfl⟩;have D:=alb0v0v1 U;have ap:=alx0v0v1 U;have af:=bKq0v0v0 D ae y;have J:=Q03 V D;have E:=Q6A g 0 c n (Q1u m i) now W3 (by rw[Q1p,F.out]) C (J.lt g rfl).2 (Q1i J (by rw[Q1p,F.out]));have ac:=Q02 J;have ab:=Q02 ap;have M:=Q02 (L.out.trans (Stp.of D))
    have aq:w.heap.size < W3.heap.size:=Kbq y D.size;have aj:=alz0v0v1 U;clear V G r X J ap D au L ku kj;go_wp2_with fail;refine E.mono ?_;rintro e P ⟨ht,z⟩;obtain⟨u4,j4,s4,rfl,an⟩:=Qfd ht;have A:=(z.block f.heap.size aj).trans ab.out
    have aC:P.frozen? ⟨f.heap.size,0,none⟩=false:=by simp[World.frozen?,A]
    have aD:P.frozen? ⟨f.heap.size,1,none⟩=false:=by simp[World.frozen?,A]
    have aA:P.cell? ⟨f.heap.size,0,none⟩=some (.int .i64 uu):=by simp[World.cell?,A]
    have aB:P.cell? ⟨f.heap.size,1,none⟩=some (.int .i64 (i:Int)):=by simp[World.cell?,A]
    obtain⟨Z,ai⟩:∃W,((P.setCell ⟨f.heap.size,0,none⟩ (.int .i64 u4)).setCell ⟨f.heap.size,1,none⟩ (.int .i64 j4))=W:=⟨_,rfl⟩
    have aa:Hid (∃(m9:List Sl) (d9:Nat) (K:Nat) (u j:Int) (s:Bool),Value.int .i64 ((d:Int)+1)=.int .i64 d9/\Value.pointer (some ⟨f.heap.size,0,none⟩)=.pointer (some ⟨K,0,none⟩)/\Value.bool s4=.bool s/\Hid (QfY m9 now u j s)/\Hid (Z.heap[K]? =some (.cells #[.int .i64 u,.int .i64 j] 172 (0,0)))/\w.heap.size < K/\Hid (ExpInv n now (Q8x l now) (gk - 1) m9 d9)/\Hid (Z.ownsRow base Q1B 5 (.slice (some ⟨g,0,none⟩) n c) n (m9.flatMap Q0g.cs))/\Hid (Z.cell? ⟨w.heap.size,0,none⟩=some (.slice (some ⟨g,0,none⟩) n c))/\w.heap.size < Z.heap.size/\Hid (Stp g (g+1) w Z)):=by
     have az:=z.size
     have ss:Stp f.heap.size (f.heap.size+1) P Z:=by rw[<-ai];exact(Q36 P f.heap.size 0 _).trans (Q36 _ f.heap.size 1 _)
     refine⟨Q1u m i,d+1,f.heap.size,u4,j4,s4,by simp,rfl,rfl,an, ?_,y,HN.out, ?_, ?_, ?_, ?_⟩
     ·unfold Hid
      rw[<-ai];have h1:=block_setCell (i:=0) A (.int .i64 u4);have h2:=block_setCell (i:=1) h1 (.int .i64 j4);exact h2
     ·exact QhX (Q03 ac.out z) ss (by omega)
     ·exact ss.cell ((z.cell (p:=⟨w.heap.size,0,none⟩) aq).trans af) (by omega) (.inl y)
     ·have:=ss.size;omega
     ·exact(M.out.trans (Stp.of z)).then_new ss (by omega)
    clear z E ae af A an ht ac ab M;go_wp2
    go_roundg (gk - 1)
    case measure=>omega
    case rel=>exact aa.out
   ·have ak:=QgF (by rw[F.out];exact C) R hd
    have HD:=Q02 (k.out ak);obtain⟨uu,H⟩:∃x,lvT m now i=x:=⟨_,rfl⟩;rw[H]at ku hd;clear ak R I k H;go_wp2;go_ret;exact⟨by rw[HD.out];rfl,by rw[HD.out];exact B.out,O.out⟩
  ·have HD:=Q02 (k.out (QfJ R))
   clear R I k;go_wp2;go_ret;exact⟨by rw[HD.out];rfl,by rw[HD.out];exact B.out,O.out⟩
end Go.Proofs.YtpneolgdghbinaaGreat
