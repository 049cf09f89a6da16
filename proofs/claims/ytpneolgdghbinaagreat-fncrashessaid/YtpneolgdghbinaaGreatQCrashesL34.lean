/- Several texts in one: SDropI, SDropS, SExp2, ExpMath0. -/
import Derived.Deep.LoopGhost
import Derived.Test.YtpneolgdghbinaaGreatQCrashesL29
namespace Go.Proofs.YtpneolgdghbinaaGreat
open Go.ChangeShapes Go.WideShapes Go.ChangeAt Go.RowKit Go.Joins
set_option linter.unusedVariables false
set_option linter.unusedSimpArgs false
set_option maxRecDepth 100000
set_option maxHeartbeats 40000000
theorem Qcq {e:TypeId} {w:World} {base g n c:Nat} {m:List Sl} (h:w.ownsRow base e 5 (.slice (some ⟨g,0,none⟩) n c) n (m.flatMap Q0g.cs)) (d:n=m.length) (i:Nat) (hi:i < n):
  w.cell? ⟨g,i * 5,none⟩=some (.bool (m.getD i sl0).u)/\w.cell? ⟨g,i * 5+1,none⟩=some (.int .i64 (m.getD i sl0).a)/\w.cell? ⟨g,i * 5+2,none⟩=some (.int .i64 (m.getD i sl0).p)/\w.cell? ⟨g,i * 5+3,none⟩=some (.int .i64 (m.getD i sl0).v)/\w.cell? ⟨g,i * 5+4,none⟩=some (.int .i64 (m.getD i sl0).t):=by
 have b:=Q1i h d;have h2:=RdL.slot (C:=w.heap.size) b i (by omega)
 simpa only[Nat.zero_add]using h2
theorem Qdy (g c base n d:Nat) (l:List Sl) (w:World) (hn:l.length=n) (be:n<=16) (aZ:d < n) (aL:Q4o l) (a:w.ownsRow base Q1B 5 (.slice (some ⟨g,0,none⟩) n c) n (l.flatMap Q0g.cs)):
  Calls Tryz.prog 111 #[tab (.slice (some ⟨g,0,none⟩) n c),.int .i64 d] w fun e w'=>(∃v,e=.returned v)/\w'.ownsRow base Q1B 5 (.slice (some ⟨g,0,none⟩) n c) n ((Q1u l d).flatMap Q0g.cs)/\Stp g (g+1) w w':=by
 have aX:=(a.lt g rfl).2;have HO:=Q02 a;clear a;obtain⟨C,aj⟩:∃W,(w.alloc (.cells #[.slice (some ⟨g,0,none⟩) n c] 89))=W:=⟨_,rfl⟩;have r:=alb0v0v1 aj;replace HO:=Q02 (Q03 HO.out r);have HB:=Q02 r;clear r;have M:=alz0v0v1 aj
 have O:C.cell? ⟨w.heap.size,0,none⟩=some (.slice (some ⟨g,0,none⟩) n c):=by rw[<-aj];simp[go_sem]
 have a:C.ownsRow base Q1B 5 (.slice (some ⟨g,0,none⟩) n c) n (l.flatMap Q0g.cs):=HO.out
 have am:(l.flatMap Q0g.cs).length=n * 5:=by rw[Q0l,hn];rfl
 obtain⟨u0,ao⟩:∃u,C.cell? ⟨g,d * 5,none⟩=some u:=⟨_,(a.cellAt (d * 5) (by omega)).trans (KGq (by omega))⟩;have ae:=a.frozenAt (d * 5);obtain⟨u1,ap⟩:∃u,C.cell? ⟨g,d * 5+1,none⟩=some u:=⟨_,(a.cellAt (d * 5+1) (by omega)).trans (KGq (by omega))⟩;have af:=a.frozenAt (d * 5+1);obtain⟨u2,aq⟩:∃u,C.cell? ⟨g,d * 5+2,none⟩=some u:=⟨_,(a.cellAt (d * 5+2) (by omega)).trans (KGq (by omega))⟩;have ag:=a.frozenAt (d * 5+2)
 obtain⟨u3,ar⟩:∃u,C.cell? ⟨g,d * 5+3,none⟩=some u:=⟨_,(a.cellAt (d * 5+3) (by omega)).trans (KGq (by omega))⟩;have ah:=a.frozenAt (d * 5+3);obtain⟨u4,au⟩:∃u,C.cell? ⟨g,d * 5+4,none⟩=some u:=⟨_,(a.cellAt (d * 5+4) (by omega)).trans (KGq (by omega))⟩;have ai:=a.frozenAt (d * 5+4);obtain⟨W1,ak⟩:∃W,(((((C.setCell ⟨g,d * 5,none⟩ (.bool false)).setCell ⟨g,d * 5+1,none⟩ (.int .i64 0)).setCell ⟨g,d * 5+2,none⟩ (.int .i64 0)).setCell ⟨g,d * 5+3,none⟩ (.int .i64 0)).setCell ⟨g,d * 5+4,none⟩ (.int .i64 0))=W:=⟨_,rfl⟩
 have aA:Hid (W1.ownsRow base Q1B 5 (.slice (some ⟨g,0,none⟩) n c) n ((l.set d sl0).flatMap Q0g.cs)):=by rw[<-ak];exact(Q3Q (k:=d) sl0 (Kaq g) a (Below.refl g C)).1
 have y:Hid (Stp g (g+1) C W1):=by rw[<-ak];exact Q3H C g d sl0
 have bh:g < C.heap.size:=(a.lt g rfl).2;have aF:W1.cell? ⟨w.heap.size,0,none⟩=some (.slice (some ⟨g,0,none⟩) n c):=y.out.cell O M (.inr (by omega));have aa:w.heap.size < W1.heap.size:=Kbq M y.out.size
 have i1:(d:Int) < (n:Int):=by omega
 have q:=Q02 (DropInv.start (l:=l) (i:=d) (by omega) (by omega) aL);rw[hn]at q;clear a am aL;go_enter Tryz.func111,Tryz.ntmps111;go_wp2_with fail;refine(Q4J (some ⟨g,0,none⟩) n c d W1 (by omega) (by omega) aZ).mono ?_;rintro e W2 ⟨rfl,I⟩;have aB:=Q02 (Q03 aA.out I);have aG:=bKq0v0v0 I aF aa;have U:=Q02 ((Stp.of (lo:=g) (hi:=g+1) HB.out).trans (y.out.trans (Stp.of I)));have ab:w.heap.size < W2.heap.size:=Kbq aa I.size;clear I ao ae ap af aq ag ar ah au ai ak O aF HO aA y;go_wp2
 go_loopg [1,4] (Qf9 (l.set d sl0) d ((d+1) % n)) (fun gk hv kv wr=> ∃(m:List Sl) (i k:Nat),hv=.int .i64 i/\kv=.int .i64 k/\Hid (DropInv n (Q1u l d) gk m i k)/\Hid (wr.ownsRow base Q1B 5 (.slice (some ⟨g,0,none⟩) n c) n (m.flatMap Q0g.cs))/\Hid (wr.cell? ⟨w.heap.size,0,none⟩=some (.slice (some ⟨g,0,none⟩) n c))/\w.heap.size < wr.heap.size/\Hid (Stp g (g+1) w wr))
 case atStart=>exact⟨_,d,(d+1) % n,rfl,by simp,q,aB,aG,ab,U⟩
 case round=>
  obtain⟨m,i,k,rfl,rfl,T,HO,HC,M,aD⟩:=hrel;clear q aB aG ab U HB;have an:=T.out.len;have a0:=T.out.hi;have L:=T.out.hk;have a:wr.ownsRow base Q1B 5 (.slice (some ⟨g,0,none⟩) n c) n (m.flatMap Q0g.cs):=HO.out;have O:=HC.out;have bg:g < wr.heap.size:=(a.lt g rfl).2;obtain⟨s,ax⟩:∃s,m.getD k sl0=s:=⟨_,rfl⟩;have t:=Qcq a an.symm k L;rw[ax]at t;have e0:=t.1;have e1:=t.2.1;have e2:=t.2.2.1;have e3:=t.2.2.2.1;have e4:=t.2.2.2.2
  have bj:(k:Int) < (n:Int):=by omega
  have bi:(i:Int) < (n:Int):=by omega
  have Y:=Q02 ax;clear t ax;obtain⟨su,z,A,R,st⟩:=s;simp only at e0 e1 e2 e3 e4
  cases su with
  |false=>
   have HD:=Q02 (T.out.done (by rw[Y.out]));clear a;go_wp2
   go_end0
   exact⟨⟨_,rfl⟩,by rw[<-HD.out];exact HO.out,aD.out⟩
  |true=>
  have aW:Q0o z A=true:=by have h:=T.out.ok k (by omega) (by rw[Y.out]);rw[Y.out]at h;exact h
  have bk:i≠k:=fun e=>by have h:=T.out.free;rw[e,Y.out]at h;cases h
  obtain⟨W3,al⟩:∃W,wr.alloc (.cells #[.bool true,.int .i64 z,.int .i64 A,.int .i64 R,.int .i64 st] 165)=W:=⟨_,rfl⟩;have J:=alb0v0v1 al;have aQ:=bKq0v0v0 J O M;have N:w.heap.size < W3.heap.size:=Kbq M J.size;have x:=alz0v0v1 al;obtain⟨s0,s1,s2,s3,s4⟩:=alc5v0v1 al;have aC:=Q02 (Q03 a J);have V:=Q02 (aD.out.trans (Stp.of J));clear J;have G0:=Grown.cell aQ N;have G1:=Grown.cell s1 x;have G2:=Grown.cell s2 x;have aY:=Q1v (show 0 < n by omega) z A
  have hA:=fun (P:Grown W3)=>Q1w P (Qcm (some ⟨g,0,none⟩) n c z A P.v (by omega) (by omega) aW)
  have Z:Q4O n m i k=decide (Q1t n i k<=Q1t n (Q12 n z A) k):=by unfold Q4O;rw[Y.out]
  have az:=Q02 Z;clear Z;generalize Q12 n z A=hm at *
  have hB:=fun (P:Grown W3)=>Q1w P (Qff (some ⟨g,0,none⟩) n c hm k P.v (by omega) aY L)
  have hC:=fun (P:Grown W3)=>Q1w P (Qff (some ⟨g,0,none⟩) n c i k P.v (by omega) a0 L)
  generalize Q1t n hm k=d1 at *;generalize Q1t n i k=d2 at *
  by_cases hmv:(d2:Int)<=(d1:Int)
  ·skip
   have B:=Q02 (T.out.move (by rw[Y.out]) (by rw[az.out];exact decide_eq_true (by omega)));rw[Y.out]at B;clear a;have Gs0:=Grown.cell s0 x;have Gs1:=Grown.cell s1 x;have Gs2:=Grown.cell s2 x;have Gs3:=Grown.cell s3 x;have Gs4:=Grown.cell s4 x;go_wp2
   (refine Q09 (by kernel_rfl) (by kernel_rfl) ?_;intro aK;(repeat (go_big_quiet_step ((first|(go_at_call 157;exact hA _)|(go_at_call 156;first|with_reducible exact hB _|with_reducible exact hC _)))));(with_reducible refine wpQuiet_nil ?_);intro _ aw;obtain⟨f,av⟩:=aw;subst av)
   have a:f.v.ownsRow base Q1B 5 (.slice (some ⟨g,0,none⟩) n c) n (m.flatMap Q0g.cs):=Q03 aC.out f.b;have H:f.v.cell? ⟨w.heap.size,0,none⟩=some (.slice (some ⟨g,0,none⟩) n c):=G0 f;have zp:w.heap.size < f.v.heap.size:=Kbq N f.b.size;have G:=Q02 (V.out.trans (Stp.of f.b));have a6:f.v.cell? ⟨wr.heap.size,0,none⟩=some (.bool true):=Gs0 f;have a7:f.v.cell? ⟨wr.heap.size,1,none⟩=some (.int .i64 z):=Gs1 f;have a8:f.v.cell? ⟨wr.heap.size,2,none⟩=some (.int .i64 A):=Gs2 f;have a9:f.v.cell? ⟨wr.heap.size,3,none⟩=some (.int .i64 R):=Gs3 f
   have ba:f.v.cell? ⟨wr.heap.size,4,none⟩=some (.int .i64 st):=Gs4 f
   have am:(m.flatMap Q0g.cs).length=n * 5:=by rw[Q0l,an];rfl
   obtain⟨u0,ao⟩:∃u,f.v.cell? ⟨g,i * 5,none⟩=some u:=⟨_,(a.cellAt (i * 5) (by omega)).trans (KGq (by omega))⟩;have ae:=a.frozenAt (i * 5);obtain⟨u1,ap⟩:∃u,f.v.cell? ⟨g,i * 5+1,none⟩=some u:=⟨_,(a.cellAt (i * 5+1) (by omega)).trans (KGq (by omega))⟩;have af:=a.frozenAt (i * 5+1);obtain⟨u2,aq⟩:∃u,f.v.cell? ⟨g,i * 5+2,none⟩=some u:=⟨_,(a.cellAt (i * 5+2) (by omega)).trans (KGq (by omega))⟩;have ag:=a.frozenAt (i * 5+2)
   obtain⟨u3,ar⟩:∃u,f.v.cell? ⟨g,i * 5+3,none⟩=some u:=⟨_,(a.cellAt (i * 5+3) (by omega)).trans (KGq (by omega))⟩;have ah:=a.frozenAt (i * 5+3);obtain⟨u4,au⟩:∃u,f.v.cell? ⟨g,i * 5+4,none⟩=some u:=⟨_,(a.cellAt (i * 5+4) (by omega)).trans (KGq (by omega))⟩;have ai:=a.frozenAt (i * 5+4);obtain⟨D,aH⟩:∃W,(((((f.v.setCell ⟨g,i * 5,none⟩ (.bool true)).setCell ⟨g,i * 5+1,none⟩ (.int .i64 z)).setCell ⟨g,i * 5+2,none⟩ (.int .i64 A)).setCell ⟨g,i * 5+3,none⟩ (.int .i64 R)).setCell ⟨g,i * 5+4,none⟩ (.int .i64 st))=W:=⟨_,rfl⟩
   have j:D.ownsRow base Q1B 5 (.slice (some ⟨g,0,none⟩) n c) n ((m.set i ⟨true,z,A,R,st⟩).flatMap Q0g.cs):=by rw[<-aH];exact(Q3Q (k:=i) ⟨true,z,A,R,st⟩ (Kaq g) a (Below.refl g f.v)).1
   have X:Hid (Stp g (g+1) f.v D):=by rw[<-aH];exact Q3H f.v g i ⟨true,z,A,R,st⟩
   have aJ:((m.set i ⟨true,z,A,R,st⟩).flatMap Q0g.cs).length=n * 5:=by rw[Q0l,List.length_set,an];rfl
   obtain⟨y0,a1⟩:∃u,D.cell? ⟨g,k * 5,none⟩=some u:=⟨_,(j.cellAt (k * 5) (by omega)).trans (KGq (by omega))⟩;have aR:=j.frozenAt (k * 5);obtain⟨y1,a2⟩:∃u,D.cell? ⟨g,k * 5+1,none⟩=some u:=⟨_,(j.cellAt (k * 5+1) (by omega)).trans (KGq (by omega))⟩;have aS:=j.frozenAt (k * 5+1);obtain⟨y2,a3⟩:∃u,D.cell? ⟨g,k * 5+2,none⟩=some u:=⟨_,(j.cellAt (k * 5+2) (by omega)).trans (KGq (by omega))⟩;have aT:=j.frozenAt (k * 5+2)
   obtain⟨y3,a4⟩:∃u,D.cell? ⟨g,k * 5+3,none⟩=some u:=⟨_,(j.cellAt (k * 5+3) (by omega)).trans (KGq (by omega))⟩;have aU:=j.frozenAt (k * 5+3);obtain⟨y4,a5⟩:∃u,D.cell? ⟨g,k * 5+4,none⟩=some u:=⟨_,(j.cellAt (k * 5+4) (by omega)).trans (KGq (by omega))⟩;have aV:=j.frozenAt (k * 5+4);obtain⟨W5,aI⟩:∃W,(((((D.setCell ⟨g,k * 5,none⟩ (.bool false)).setCell ⟨g,k * 5+1,none⟩ (.int .i64 0)).setCell ⟨g,k * 5+2,none⟩ (.int .i64 0)).setCell ⟨g,k * 5+3,none⟩ (.int .i64 0)).setCell ⟨g,k * 5+4,none⟩ (.int .i64 0))=W:=⟨_,rfl⟩
   have aN:Hid (W5.ownsRow base Q1B 5 (.slice (some ⟨g,0,none⟩) n c) n (((m.set i ⟨true,z,A,R,st⟩).set k sl0).flatMap Q0g.cs)):=by rw[<-aI];exact(Q3Q (k:=k) sl0 (Kaq g) j (Below.refl g D)).1
   have aE:Hid (Stp g (g+1) D W5):=by rw[<-aI];exact Q3H D g k sl0
   have F:=Q02 (X.out.trans aE.out);have bf:g < w.heap.size:=aX;have bd:D.cell? ⟨w.heap.size,0,none⟩=some (.slice (some ⟨g,0,none⟩) n c):=X.out.cell H zp (.inr (by omega));have aP:W5.cell? ⟨w.heap.size,0,none⟩=some (.slice (some ⟨g,0,none⟩) n c):=F.out.cell H zp (.inr (by omega));have aM:w.heap.size < W5.heap.size:=Kbq zp F.out.size;clear a j am aJ G0 G1 G2 hA hB hC Gs0 Gs1 Gs2 Gs3 Gs4;go_wp2
   go_region
   go_wp2_with fail;refine(Q4J (some ⟨g,0,none⟩) n c k _ (by omega) (by omega) L).mono ?_;rintro e W6 ⟨rfl,p⟩;have ad:Hid (W6.ownsRow base Q1B 5 (.slice (some ⟨g,0,none⟩) n c) n (((m.set i ⟨true,z,A,R,st⟩).set k sl0).flatMap Q0g.cs)):=Q03 (show World.ownsRow W5.drew _ _ _ _ _ _ from aN.out) p;have ac:=bKq0v0v0 p aP aM;have ay:w.heap.size < W6.heap.size:=Kbq aM p.size;have E:=Q02 (G.out.trans ((F.out.drew).trans (Stp.of p)));clear p ao ae a1 aR a6 ap af a2 aS a7 aq ag a3 aT a8 ar ah a4 aU a9 au ai a5 aV ba;go_wp2
   go_roundg (gk - 1)
   case measure=>have:=B.out.1;omega
   case rel=>exact⟨_,k,(k+1) % n,rfl,by simp,B.out.2,ad,ac,ay,E⟩
  ·skip
   have B:=Q02 (T.out.stay (by rw[Y.out]) (by rw[az.out];exact decide_eq_false (by omega)));have bb:decide (d2<=d1)=false:=decide_eq_false (by omega);have bc:decide ((d2:Int)<=(d1:Int))=false:=decide_eq_false hmv;clear a;go_wp2
   (refine Q09 (by kernel_rfl) (by kernel_rfl) ?_;intro aK;(repeat (go_big_quiet_step ((first|(go_at_call 157;exact hA _)|(go_at_call 156;first|with_reducible exact hB _|with_reducible exact hC _)))));(with_reducible refine wpQuiet_nil ?_);intro _ aw;obtain⟨f,av⟩:=aw;subst av)
   have aO:=Q02 (Q03 aC.out f.b);have H:f.v.cell? ⟨w.heap.size,0,none⟩=some (.slice (some ⟨g,0,none⟩) n c):=G0 f;have zp:w.heap.size < f.v.heap.size:=Kbq N f.b.size;have G:=Q02 (V.out.trans (Stp.of f.b));clear G0 G1 G2 hA hB hC;go_wp2_with fail;refine(Q4J (some ⟨g,0,none⟩) n c k _ (by omega) (by omega) L).mono ?_;rintro e W6 ⟨rfl,p⟩;have ad:Hid (W6.ownsRow base Q1B 5 (.slice (some ⟨g,0,none⟩) n c) n (m.flatMap Q0g.cs)):=Q03 aO.out p;have ac:=bKq0v0v0 p H zp;have ay:w.heap.size < W6.heap.size:=Kbq zp p.size;have E:=Q02 (G.out.trans (Stp.of p))
   clear p H;go_wp2
   go_roundg (gk - 1)
   case measure=>have:=B.out.1;omega
   case rel=>exact⟨m,i,(k+1) % n,rfl,by simp,B.out.2,ad,ac,ay,E⟩
theorem Q7N (b off c:Nat) (l:List Sl) (a p:Int) (w:World) (hn:0 < l.length) (aW:l.length<=16) (hf:Q0o a p=true) (a2:Q4o l) (T:b < w.heap.size) (hc:∀i,i < l.length->∀j,j < Q0g.k->w.cell? ⟨b,off+i * Q0g.k+j,none⟩=(Q0g.cs (l.getD i Q0g.d))[j]?):
  Calls Tryz.prog 168 #[tab (.slice (some ⟨b,off,none⟩) l.length c),Qb3 a p] w fun e w'=> ∃b' ag c',e=.returned (.tuple #[tab (.slice (some ⟨b',ag,none⟩) l.length c'),.bool (Q1n l a p).2])/\b' < w'.heap.size/\(∀i,i < (Q3R l a p).length->∀j,j < Q0g.k->w'.cell? ⟨b',ag+i * Q0g.k+j,none⟩=(Q0g.cs ((Q3R l a p).getD i Q0g.d))[j]?)/\Below w.heap.size w w'/\(b'=b\/w.heap.size<=b'):=by
 have HC:=Q02 hc
 have hl:l.length<=1048576:=by omega
 clear hc;obtain⟨W0,M⟩:∃W,(((w.alloc (.cells #[.slice (some ⟨b,off,none⟩) l.length c] 32)).alloc (.cells #[.int .i64 a,.int .i64 p] 36)).alloc (.cells #[.slice none 0 0] 32))=W:=⟨_,rfl⟩;have aa:=alb0v0v3 M;have B:=Q02 aa;clear aa;have A:=alz0v0v3 M
 have H:W0.cell? ⟨w.heap.size,0,none⟩=some (.slice (some ⟨b,off,none⟩) l.length c):=by rw[<-M];simp[go_sem]
 have r:=alz0v1v3 M;obtain⟨F,G⟩:=alc2v1v3 M;have f:=alz0v2v3 M
 have C:W0.cell? ⟨w.heap.size+1+1,0,none⟩=some (.slice none 0 0):=by rw[<-M];simp[go_sem]
 have t:W0.frozen? ⟨w.heap.size+1+1,0,none⟩=false:=by rw[<-M];simp[go_sem]
 have I:=Q96 (some ⟨b,off,none⟩) c l a p W0 (.inr ⟨b,off,rfl,Kbq T B.out.size,(fun i hi j hj=>(B.out.cell (p:=⟨b,off+i * Q0g.k+j,none⟩) T).trans (HC.out i hi j hj))⟩) hn hl hf;have HZ:=Q02 f
 rcases Q2g l hn a p with P|⟨x,aZ,⟨P,_⟩|⟨P,_⟩⟩
 ·skip
  have HP:=Q02 (Q6S (l:=l) (a:=a) (p:=p) (by rw[P]));have HD:=Q02 (show(Q1n l a p).2=false by rw[P]);rw[P]at I;clear P;go_enter Tryz.func168,Tryz.ntmps168;go_wp2_with fail;refine(I).mono ?_;rintro e E ⟨rfl,q⟩;replace H:=bKq0v0v0 q H A;replace A:w.heap.size < E.heap.size:=Kbq A q.size;replace F:=bKq0v0v0 q F r;replace G:=bKq0v0v0 q G r;replace r:w.heap.size+1 < E.heap.size:=Kbq r q.size;replace C:=bKq0v0v0 q C f;replace t:E.frozen? ⟨w.heap.size+1+1,0,none⟩=false:=(q.frozen (p:=⟨w.heap.size+1+1,0,none⟩) f).trans t
  replace f:w.heap.size+1+1 < E.heap.size:=Kbq f q.size;replace B:=Q02 (B.out.trans (q.mono B.out.size));clear q;clear I;go_wp2;refine bodyPost_ret (v:=.tuple #[tab (.slice (some ⟨b,off,none⟩) l.length c),.bool false]) (by simp[results,Tryz.results168,go_sem,C]) rfl ⟨b,off,c,by rw[HD.out], ?_, ?_, ?_,.inl rfl⟩
  ·have:=B.out.size;simp;omega
  ·rw[HP.out]
   intro i hi j hj;have ai:=B.out.setCell (p:=⟨w.heap.size+1+1,0,none⟩) (by simp <;> omega) (.slice (some ⟨b,off,none⟩) l.length c);exact(ai.cell (p:=⟨b,off+i * Q0g.k+j,none⟩) T).trans (HC.out i hi j hj)
  ·exact B.out.setCell (p:=⟨w.heap.size+1+1,0,none⟩) (by simp <;> omega) _
 ·skip
  have HP:=Q02 (Q6S (l:=l) (a:=a) (p:=p) (by rw[P]));have HD:=Q02 (show(Q1n l a p).2=false by rw[P]);rw[P]at I;clear P;go_enter Tryz.func168,Tryz.ntmps168;go_wp2_with fail;refine(I).mono ?_;rintro e E ⟨rfl,q⟩;replace H:=bKq0v0v0 q H A;replace A:w.heap.size < E.heap.size:=Kbq A q.size;replace F:=bKq0v0v0 q F r;replace G:=bKq0v0v0 q G r;replace r:w.heap.size+1 < E.heap.size:=Kbq r q.size;replace C:=bKq0v0v0 q C f;replace t:E.frozen? ⟨w.heap.size+1+1,0,none⟩=false:=(q.frozen (p:=⟨w.heap.size+1+1,0,none⟩) f).trans t
  replace f:w.heap.size+1+1 < E.heap.size:=Kbq f q.size;replace B:=Q02 (B.out.trans (q.mono B.out.size));clear q;clear I;go_wp2;refine bodyPost_ret (v:=.tuple #[tab (.slice (some ⟨b,off,none⟩) l.length c),.bool false]) (by simp[results,Tryz.results168,go_sem,C]) rfl ⟨b,off,c,by rw[HD.out], ?_, ?_, ?_,.inl rfl⟩
  ·have:=B.out.size;simp;omega
  ·rw[HP.out]
   intro i hi j hj;have ai:=B.out.setCell (p:=⟨w.heap.size+1+1,0,none⟩) (by simp <;> omega) (.slice (some ⟨b,off,none⟩) l.length c);exact(ai.cell (p:=⟨b,off+i * Q0g.k+j,none⟩) T).trans (HC.out i hi j hj)
  ·exact B.out.setCell (p:=⟨w.heap.size+1+1,0,none⟩) (by simp <;> omega) _
 ·skip
  have HP:=Q02 (Qar P);have HD:=Q02 (show(Q1n l a p).2=true by rw[P]);rw[P]at I;clear P;have U:=Q02 (DropInv.start (l:=l) (i:=x) aW aZ a2)
  have i1:(x:Int) < (l.length:Int):=by omega
  go_enter Tryz.func168,Tryz.ntmps168;go_wp2_with fail;refine(I).mono ?_;rintro e E ⟨rfl,q⟩;replace H:=bKq0v0v0 q H A;replace A:w.heap.size < E.heap.size:=Kbq A q.size;replace F:=bKq0v0v0 q F r;replace G:=bKq0v0v0 q G r;replace r:w.heap.size+1 < E.heap.size:=Kbq r q.size;replace C:=bKq0v0v0 q C f;replace t:E.frozen? ⟨w.heap.size+1+1,0,none⟩=false:=(q.frozen (p:=⟨w.heap.size+1+1,0,none⟩) f).trans t;replace f:w.heap.size+1+1 < E.heap.size:=Kbq f q.size;replace B:=Q02 (B.out.trans (q.mono B.out.size));clear q;go_wp2_with fail
  refine(Q5B b off c l E (Kbq T B.out.size) (fun i hi j hj=>(B.out.cell (p:=⟨b,off+i * Q0g.k+j,none⟩) T).trans (HC.out i hi j hj)) hl).mono ?_;rintro e v2 ⟨o2,c2,rfl,ab,q⟩;have aT:=Q02 f
  obtain⟨g,c3,a3⟩:∃g c3,Value.slice o2 l.length c2=.slice (some ⟨g,0,none⟩) l.length c3:=by
   rcases ab.2 with⟨_,h0⟩|⟨g,c3,_,h0,_⟩
   ·exact absurd h0 (by omega)
   ·exact⟨g,c3,h0⟩
  injection a3 with hv1 hv2 hv3;subst hv1 hv3;have HO:=Q02 ab;clear ab;replace H:=bKq0v0v0 q H A;replace A:w.heap.size < v2.heap.size:=Kbq A q.size;replace F:=bKq0v0v0 q F r;replace G:=bKq0v0v0 q G r;replace r:w.heap.size+1 < v2.heap.size:=Kbq r q.size;replace C:=bKq0v0v0 q C f;replace t:v2.frozen? ⟨w.heap.size+1+1,0,none⟩=false:=(q.frozen (p:=⟨w.heap.size+1+1,0,none⟩) f).trans t;replace f:w.heap.size+1+1 < v2.heap.size:=Kbq f q.size;replace B:=Q02 (B.out.trans (q.mono B.out.size));clear q;have aR:=HO
  obtain⟨L,aj⟩:∃W,(v2.alloc (.cells #[.slice (some ⟨g,0,none⟩) l.length c2] 32))=W:=⟨_,rfl⟩;have n:=alb0v0v1 aj;replace H:=bKq0v0v0 n H A;replace A:w.heap.size < L.heap.size:=Kbq A n.size;replace F:=bKq0v0v0 n F r;replace G:=bKq0v0v0 n G r;replace r:w.heap.size+1 < L.heap.size:=Kbq r n.size;replace C:=bKq0v0v0 n C f;replace t:L.frozen? ⟨w.heap.size+1+1,0,none⟩=false:=(n.frozen (p:=⟨w.heap.size+1+1,0,none⟩) f).trans t;replace f:w.heap.size+1+1 < L.heap.size:=Kbq f n.size;replace HO:=Q02 (Q03 HO.out n)
  replace B:=Q02 (B.out.trans (n.mono B.out.size));clear n;have ao:=alz0v0v1 aj
  have av:L.cell? ⟨v2.heap.size,0,none⟩=some (.slice (some ⟨g,0,none⟩) l.length c2):=by rw[<-aj];simp[go_sem]
  have aF:=(aR.out.lt g rfl);have bj:E.heap.size<=g:=aF.1;have al:g+1<=v2.heap.size:=aF.2;have a4:=aT.out;have aM:=ao;have J:L.ownsRow E.heap.size 101 5 (.slice (some ⟨g,0,none⟩) l.length c2) l.length (l.flatMap Q0g.cs):=HO.out
  have am:(l.flatMap Q0g.cs).length=l.length * 5:=by rw[Q0l];rfl
  obtain⟨u0,aH⟩:∃u,L.cell? ⟨g,x * 5,none⟩=some u:=⟨_,(J.cellAt (x * 5) (by omega)).trans (KGq (by omega))⟩;have ay:=J.frozenAt (x * 5);obtain⟨u1,aI⟩:∃u,L.cell? ⟨g,x * 5+1,none⟩=some u:=⟨_,(J.cellAt (x * 5+1) (by omega)).trans (KGq (by omega))⟩;have az:=J.frozenAt (x * 5+1);obtain⟨u2,aJ⟩:∃u,L.cell? ⟨g,x * 5+2,none⟩=some u:=⟨_,(J.cellAt (x * 5+2) (by omega)).trans (KGq (by omega))⟩;have aA:=J.frozenAt (x * 5+2)
  obtain⟨u3,aK⟩:∃u,L.cell? ⟨g,x * 5+3,none⟩=some u:=⟨_,(J.cellAt (x * 5+3) (by omega)).trans (KGq (by omega))⟩;have aB:=J.frozenAt (x * 5+3);obtain⟨u4,aL⟩:∃u,L.cell? ⟨g,x * 5+4,none⟩=some u:=⟨_,(J.cellAt (x * 5+4) (by omega)).trans (KGq (by omega))⟩;have aC:=J.frozenAt (x * 5+4);obtain⟨W3,ak⟩:∃W,(((((L.setCell ⟨g,x * 5,none⟩ (.bool false)).setCell ⟨g,x * 5+1,none⟩ (.int .i64 0)).setCell ⟨g,x * 5+2,none⟩ (.int .i64 0)).setCell ⟨g,x * 5+3,none⟩ (.int .i64 0)).setCell ⟨g,x * 5+4,none⟩ (.int .i64 0))=W:=⟨_,rfl⟩
  have aq:Hid (W3.ownsRow E.heap.size 101 5 (.slice (some ⟨g,0,none⟩) l.length c2) l.length ((l.set x sl0).flatMap Q0g.cs)):=by rw[<-ak];exact(Q3Q (k:=x) sl0 (Kaq g) J (Below.refl g L)).1
  have X:Hid (Stp g (g+1) L W3):=by rw[<-ak];exact Q3H L g x sl0
  have aU:=X.out.cell av ao (.inr al);have a1:=Q5v l.length x;have a9:((l.length:Int)==0)=false:=beq_eq_false_iff_ne.2 (by omega);clear J am I;go_wp2
  go_loopg [6,10] (Qf9 (l.set x sl0) x ((x+1) % l.length)) (fun gk iv kv wr=> ∃(m:List Sl) (i k:Nat),iv=.int .i64 i/\kv=.int .i64 k/\Hid (DropInv l.length (Q1u l x) gk m i k)/\Hid (wr.ownsRow E.heap.size 101 5 (.slice (some ⟨g,0,none⟩) l.length c2) l.length (m.flatMap Q0g.cs))/\Hid (Stp g (g+1) L wr))
  case atStart=>exact⟨_,x,(x+1) % l.length,rfl,by simp,U,aq,X⟩
  case round=>
   clear aU aq X ak U aH ay aI az aJ aA aK aB aL aC a1;obtain⟨m,i,k,rfl,rfl,HI,V,N⟩:=hrel;have O:=Q02 HI.out.len;have a0:=HI.out.hi;have ad:=HI.out.hk;have J:wr.ownsRow E.heap.size 101 5 (.slice (some ⟨g,0,none⟩) l.length c2) l.length (m.flatMap Q0g.cs):=V.out;have ba:L.heap.size<=wr.heap.size:=N.out.size;have aw:=N.out.cell av ao (.inr al);have crr:=N.out.cell C f (.inl (show w.heap.size+1+1 < g by omega));have ax:=N.out.frozen t f (.inl (show w.heap.size+1+1 < g by omega))
   have bl:(k:Int) < (l.length:Int):=by omega
   have bk:(i:Int) < (l.length:Int):=by omega
   obtain⟨s,an⟩:∃s,m.getD k sl0=s:=⟨_,rfl⟩;have z:=Qcq J O.out.symm k ad;rw[an]at z;have e0:=z.1;have e1:=z.2.1;have e2:=z.2.2.1;have e3:=z.2.2.2.1;have e4:=z.2.2.2.2;have HX:=Q02 an;clear z an;have af:w.heap.size+1+1 < E.heap.size:=a4
   by_cases hki:k=i
   ·have ah:=Q02 (HI.out.done (by rw[hki];exact HI.out.free))
    subst hki;clear J;go_wp2;refine bodyPost_ret (v:=.tuple #[tab (.slice (some ⟨g,0,none⟩) l.length c2),.bool true]) (by simp[results,Tryz.results168,go_sem,crr]) rfl ⟨g,0,c2,by rw[HD.out], ?_, ?_, ?_,.inr (by omega)⟩
    ·have h:=(V.out.lt g rfl).2;simpa using h
    ·rw[HP.out,<-ah.out]
     have h:=ownsRow_setCell_below V.out (a:=⟨w.heap.size+1+1,0,none⟩) af (.slice (some ⟨g,0,none⟩) l.length c2);exact Q1i h O.out.symm
    ·exact(B.out.trans (N.out.below (by omega) (by omega))).setCell (p:=⟨w.heap.size+1+1,0,none⟩) (by simp <;> omega) _
   ·have a5:((k:Int)==(i:Int))=false:=beq_eq_false_iff_ne.2 (by omega)
    have a6:¬(k:Int)=(i:Int):=by omega
    obtain⟨su,sa,sp,sv,st⟩:=s;simp only at e0 e1 e2 e3 e4
    cases su with
    |false=>
     have ah:=Q02 (HI.out.done (by rw[HX.out]));clear J;go_wp2;refine bodyPost_ret (v:=.tuple #[tab (.slice (some ⟨g,0,none⟩) l.length c2),.bool true]) (by simp[results,Tryz.results168,go_sem,crr]) rfl ⟨g,0,c2,by rw[HD.out], ?_, ?_, ?_,.inr (by omega)⟩
     ·have h:=(V.out.lt g rfl).2;simpa using h
     ·rw[HP.out,<-ah.out]
      have h:=ownsRow_setCell_below V.out (a:=⟨w.heap.size+1+1,0,none⟩) af (.slice (some ⟨g,0,none⟩) l.length c2);exact Q1i h O.out.symm
     ·exact(B.out.trans (N.out.below (by omega) (by omega))).setCell (p:=⟨w.heap.size+1+1,0,none⟩) (by simp <;> omega) _
    |true=>
     have aX:Q0o sa sp=true:=by have h:=HI.out.ok k (by have:=O.out;omega) (by rw[HX.out]);rw[HX.out]at h;exact h
     have aY:=Q1v hn sa sp;have ap:=Q02 (show Q4O l.length m i k=decide (Q1t l.length i k<=Q1t l.length (Q12 l.length sa sp) k)by unfold Q4O;rw[HX.out]);have aS:=Q02 J;clear J;go_wp2_with fail;refine(Q8F l.length sa sp wr hn hl aX).mono ?_;rintro e W6 ⟨rfl,ac⟩;generalize Q12 l.length sa sp=hm at *
     have bm:(hm:Int) < (l.length:Int):=by omega
     have bh:=Q9z aY ad;have bi:=Q9z a0 ad;have bn:=Q5v l.length k;have y:W6.ownsRow E.heap.size 101 5 (.slice (some ⟨g,0,none⟩) l.length c2) l.length (m.flatMap Q0g.cs):=Q03 aS.out ac
     have aO:v2.heap.size < wr.heap.size:=by omega
     have aV:=bKq0v0v0 ac aw aO;have Y:=Q02 (N.out.trans (Stp.of ac));clear ac aw crr ax;generalize Q1t l.length hm k=d1 at *;generalize Q1t l.length i k=d2 at *
     by_cases hmv:(d2:Int)<=(d1:Int)
     ·skip
      have R:=Q02 (HI.out.move (by rw[HX.out]) (by rw[ap.out];exact decide_eq_true (by omega)));rw[HX.out]at R
      have am:(m.flatMap Q0g.cs).length=l.length * 5:=by rw[Q0l,O.out];rfl
      have z:=Qcq y O.out.symm k ad;rw[HX.out]at z;have g0:=z.1;have g1:=z.2.1;have g2:=z.2.2.1;have g3:=z.2.2.2.1;have g4:=z.2.2.2.2;simp only at g0 g1 g2 g3 g4;clear z e0 e1 e2 e3 e4;obtain⟨u0,aH⟩:∃u,W6.cell? ⟨g,i * 5,none⟩=some u:=⟨_,(y.cellAt (i * 5) (by omega)).trans (KGq (by omega))⟩;have ay:=y.frozenAt (i * 5);obtain⟨u1,aI⟩:∃u,W6.cell? ⟨g,i * 5+1,none⟩=some u:=⟨_,(y.cellAt (i * 5+1) (by omega)).trans (KGq (by omega))⟩;have az:=y.frozenAt (i * 5+1)
      obtain⟨u2,aJ⟩:∃u,W6.cell? ⟨g,i * 5+2,none⟩=some u:=⟨_,(y.cellAt (i * 5+2) (by omega)).trans (KGq (by omega))⟩;have aA:=y.frozenAt (i * 5+2);obtain⟨u3,aK⟩:∃u,W6.cell? ⟨g,i * 5+3,none⟩=some u:=⟨_,(y.cellAt (i * 5+3) (by omega)).trans (KGq (by omega))⟩;have aB:=y.frozenAt (i * 5+3);obtain⟨u4,aL⟩:∃u,W6.cell? ⟨g,i * 5+4,none⟩=some u:=⟨_,(y.cellAt (i * 5+4) (by omega)).trans (KGq (by omega))⟩;have aC:=y.frozenAt (i * 5+4)
      obtain⟨Z,aD⟩:∃W,(((((W6.setCell ⟨g,i * 5,none⟩ (.bool true)).setCell ⟨g,i * 5+1,none⟩ (.int .i64 sa)).setCell ⟨g,i * 5+2,none⟩ (.int .i64 sp)).setCell ⟨g,i * 5+3,none⟩ (.int .i64 sv)).setCell ⟨g,i * 5+4,none⟩ (.int .i64 st))=W:=⟨_,rfl⟩
      have D:Z.ownsRow E.heap.size 101 5 (.slice (some ⟨g,0,none⟩) l.length c2) l.length ((m.set i ⟨true,sa,sp,sv,st⟩).flatMap Q0g.cs):=by rw[<-aD];exact(Q3Q (k:=i) ⟨true,sa,sp,sv,st⟩ (Kaq g) y (Below.refl g W6)).1
      have ae:Hid (Stp g (g+1) W6 Z):=by rw[<-aD];exact Q3H W6 g i ⟨true,sa,sp,sv,st⟩
      have aG:((m.set i ⟨true,sa,sp,sv,st⟩).flatMap Q0g.cs).length=l.length * 5:=by rw[Q0l,List.length_set,O.out];rfl
      have aN:v2.heap.size < W6.heap.size:=Kbq aM Y.out.size;have bb:=ae.out.cell aV aN (.inr al);obtain⟨y0,bo⟩:∃u,Z.cell? ⟨g,k * 5,none⟩=some u:=⟨_,(D.cellAt (k * 5) (by omega)).trans (KGq (by omega))⟩;have bc:=D.frozenAt (k * 5);obtain⟨y1,bp⟩:∃u,Z.cell? ⟨g,k * 5+1,none⟩=some u:=⟨_,(D.cellAt (k * 5+1) (by omega)).trans (KGq (by omega))⟩;have bd:=D.frozenAt (k * 5+1);obtain⟨y2,bq⟩:∃u,Z.cell? ⟨g,k * 5+2,none⟩=some u:=⟨_,(D.cellAt (k * 5+2) (by omega)).trans (KGq (by omega))⟩
      have be:=D.frozenAt (k * 5+2);obtain⟨y3,bs⟩:∃u,Z.cell? ⟨g,k * 5+3,none⟩=some u:=⟨_,(D.cellAt (k * 5+3) (by omega)).trans (KGq (by omega))⟩;have bf:=D.frozenAt (k * 5+3);obtain⟨y4,bt⟩:∃u,Z.cell? ⟨g,k * 5+4,none⟩=some u:=⟨_,(D.cellAt (k * 5+4) (by omega)).trans (KGq (by omega))⟩;have bg:=D.frozenAt (k * 5+4)
      obtain⟨W5,aE⟩:∃W,(((((Z.setCell ⟨g,k * 5,none⟩ (.bool false)).setCell ⟨g,k * 5+1,none⟩ (.int .i64 0)).setCell ⟨g,k * 5+2,none⟩ (.int .i64 0)).setCell ⟨g,k * 5+3,none⟩ (.int .i64 0)).setCell ⟨g,k * 5+4,none⟩ (.int .i64 0))=W:=⟨_,rfl⟩
      have aP:Hid (W5.ownsRow E.heap.size 101 5 (.slice (some ⟨g,0,none⟩) l.length c2) l.length (((m.set i ⟨true,sa,sp,sv,st⟩).set k sl0).flatMap Q0g.cs)):=by rw[<-aE];exact(Q3Q (k:=k) sl0 (Kaq g) D (Below.refl g Z)).1
      have ar:Hid (Stp g (g+1) Z W5):=by rw[<-aE];exact Q3H Z g k sl0
      have au:=Q02 (Y.out.trans (ae.out.trans ar.out));clear y D am aG;go_wp2
      go_region
      go_wp2
      go_region
      go_wp2
      go_roundg (gk - 1)
      case measure=>have:=R.out.1;omega
      case rel=>exact⟨_,k,(k+1) % l.length,rfl,by simp,R.out.2,aP,au.out.drew.drew⟩
     ·skip
      have R:=Q02 (HI.out.stay (by rw[HX.out]) (by rw[ap.out];exact decide_eq_false (by omega)));have a7:decide (d2<=d1)=false:=decide_eq_false (by omega);have a8:decide ((d2:Int)<=(d1:Int))=false:=decide_eq_false hmv;have aQ:=Q02 y;clear y;go_wp2
      go_region
      go_wp2
      go_roundg (gk - 1)
      case measure=>have:=R.out.1;omega
      case rel=>exact⟨m,i,(k+1) % l.length,rfl,by simp,R.out.2,aQ,Y.out.drew⟩
theorem Qdi {W:World} {B b off n c:Nat} {o:Option Addr} {T:TypeId} {m:List Sl} (hm:0 < m.length) (a:W.heap[B]? =some (.cells #[.slice o n c] T (0,0))) (f:(∀i,i < m.length->∀j,j < Q0g.k->W.cell? ⟨b,off+i * Q0g.k+j,none⟩=(Q0g.cs (m.getD i Q0g.d))[j]?)):b≠B:=by
 rintro rfl;have h:W.cell? ⟨b,off+0 * Q0g.k+0,none⟩=some (.bool (m.getD 0 Q0g.d).u):=f 0 hm 0 (by decide);simp only[World.cell?,a,Nat.zero_mul,Nat.add_zero]at h
 rcases off with _|off <;> simp at h
theorem QcH {m:List Sl} {now:Int} (h:Q4d m now=none) (j:Nat) (b:j < m.length):QcG (at' m j) now=false:=by
 unfold Q4d at h;have a:=List.find?_eq_none.1 h j (List.mem_range.2 b)
 cases hd:QcG (at' m j) now with
 |false=>rfl
 |true=>exact absurd hd a
theorem QhM {n:Nat} {now:Int} {R:List Sl × Nat}:∀(g:Nat) (m:List Sl) (c:Nat),ExpInv n now R g m c->Q0e R.1=true/\cnt R.1+R.2=cnt m+c/\∀s:Sl,s.u=true->(QgP R.1 s↔(QgP m s/\now < s.t)):=by
 intro g
 induction g with
 |zero=>
  intro m c h
  cases hd:Q4d m now with
  |none=>
   have k:=h.done hd;rw[k];refine⟨h.ok,rfl,fun s hs=>⟨fun b=>⟨b, ?_⟩,fun b=>b.1⟩⟩;obtain⟨j,d,e⟩:=b;have:=QcH hd j d;rw[e]at this;unfold QcG at this;rw[hs]at this;simp at this;exact this
  |some i=>
   have:=(h.step hd).1;omega
 |succ g ih=>
  intro m c h
  cases hd:Q4d m now with
  |none=>
   have k:=h.done hd;rw[k];refine⟨h.ok,rfl,fun s hs=>⟨fun b=>⟨b, ?_⟩,fun b=>b.1⟩⟩;obtain⟨j,d,e⟩:=b;have:=QcH hd j d;rw[e]at this;unfold QcG at this;rw[hs]at this;simp at this;exact this
  |some i=>
   obtain⟨_,x,y,_,v⟩:=h.step hd;obtain⟨q,h2,r⟩:=ih (Q1u m i) (c+1) v;have f:=(Q66 hd).1;have a:=(Q66 hd).2;have w:=Q8N h.ok f y;refine⟨q,by omega,fun s hs=>?_⟩;rw[r s hs,QcW h.ok f hs]
   constructor
   ·rintro⟨⟨j,d,_,e⟩,p⟩
    exact⟨⟨j,d,e⟩,p⟩
   ·rintro⟨⟨j,d,e⟩,p⟩
    refine⟨⟨j,d,fun l=>?_,e⟩,p⟩;subst l;rw[e]at a;unfold QcG at a;rw[hs]at a;simp at a;omega
theorem Qep {m:List Sl} (now:Int) (h:Q0e m=true):Q0e (Q8x m now).1=true/\cnt (Q8x m now).1+(Q8x m now).2=cnt m/\∀s:Sl,s.u=true->(QgP (Q8x m now).1 s↔(QgP m s/\now < s.t)):=by
 have:=QhM _ _ _ (ExpInv.start (now:=now) h)
 simpa using this
end Go.Proofs.YtpneolgdghbinaaGreat
