/- Several texts in one: SDropI, SDropS, SExp2. -/
import Derived.Deep.LoopGhost
import Derived.Test.YtpneolgdghbinaaGreatQLearnsL30
namespace Go.Proofs.YtpneolgdghbinaaGreat
open Go.ChangeShapes Go.WideShapes Go.ChangeAt Go.RowKit Go.Joins
set_option linter.unusedVariables false
set_option linter.unusedSimpArgs false
set_option maxRecDepth 100000
set_option maxHeartbeats 40000000
theorem Qcm {e:TypeId} {w:World} {base g n c:Nat} {m:List Sl} (h:w.ownsRow base e 5 (.slice (some ⟨g,0,none⟩) n c) n (m.flatMap Q0g.cs)) (b:n=m.length) (i:Nat) (hi:i < n):
  w.cell? ⟨g,i * 5,none⟩=some (.bool (m.getD i sl0).u)∧w.cell? ⟨g,i * 5+1,none⟩=some (.int .i64 (m.getD i sl0).a)∧w.cell? ⟨g,i * 5+2,none⟩=some (.int .i64 (m.getD i sl0).p)∧w.cell? ⟨g,i * 5+3,none⟩=some (.int .i64 (m.getD i sl0).v)∧w.cell? ⟨g,i * 5+4,none⟩=some (.int .i64 (m.getD i sl0).t):=by
 have d:=Q1t h b;have h2:=RdL.slot (C:=w.heap.size) d i (by omega)
 simpa only [Nat.zero_add] using h2
theorem QdB (g c base n d:Nat) (l:List Sl) (w:World) (hn:l.length=n) (bi:n≤16) (a2:d < n) (aE:Q4m l) (a:w.ownsRow base Q1H 5 (.slice (some ⟨g,0,none⟩) n c) n (l.flatMap Q0g.cs)):
  Calls Tryz.prog 111 #[tab (.slice (some ⟨g,0,none⟩) n c),.int .i64 d] w fun e w'=> (∃v,e=.returned v)∧w'.ownsRow base Q1H 5 (.slice (some ⟨g,0,none⟩) n c) n ((Q1F l d).flatMap Q0g.cs)∧Stp g (g+1) w w':=by
 have a9:=(a.lt g rfl).2;have HO:=Q01 a;clear a;obtain ⟨C,aq⟩:∃W,(w.alloc (.cells #[.slice (some ⟨g,0,none⟩) n c] 89))=W:=⟨_,rfl⟩;have q:=alb0v0v1 aq;replace HO:=Q01 (Q03 HO.out q);have HB:=Q01 q;clear q;have I:=alz0v0v1 aq
 have O:C.cell? ⟨w.heap.size,0,none⟩=some (.slice (some ⟨g,0,none⟩) n c):=by rw [←aq];simp [go_sem]
 have a:C.ownsRow base Q1H 5 (.slice (some ⟨g,0,none⟩) n c) n (l.flatMap Q0g.cs):=HO.out
 have al:(l.flatMap Q0g.cs).length=n * 5:=by rw [Q0n,hn];rfl
 obtain ⟨u0,ay⟩:∃u,C.cell? ⟨g,d * 5,none⟩=some u:=⟨_,(a.cellAt (d * 5) (by omega)).trans (List.getElem?_eq_getElem (by omega))⟩;have ad:=a.frozenAt (d * 5);obtain ⟨u1,ak⟩:∃u,C.cell? ⟨g,d * 5+1,none⟩=some u:=⟨_,(a.cellAt (d * 5+1) (by omega)).trans (List.getElem?_eq_getElem (by omega))⟩;have an:=a.frozenAt (d * 5+1);obtain ⟨u2,ar⟩:∃u,C.cell? ⟨g,d * 5+2,none⟩=some u:=⟨_,(a.cellAt (d * 5+2) (by omega)).trans (List.getElem?_eq_getElem (by omega))⟩;have ac:=a.frozenAt (d * 5+2)
 obtain ⟨u3,ag⟩:∃u,C.cell? ⟨g,d * 5+3,none⟩=some u:=⟨_,(a.cellAt (d * 5+3) (by omega)).trans (List.getElem?_eq_getElem (by omega))⟩;have ap:=a.frozenAt (d * 5+3);obtain ⟨u4,ao⟩:∃u,C.cell? ⟨g,d * 5+4,none⟩=some u:=⟨_,(a.cellAt (d * 5+4) (by omega)).trans (List.getElem?_eq_getElem (by omega))⟩;have ai:=a.frozenAt (d * 5+4);obtain ⟨W1,am⟩:∃W,(((((C.setCell ⟨g,d * 5,none⟩ (.bool false)).setCell ⟨g,d * 5+1,none⟩ (.int .i64 0)).setCell ⟨g,d * 5+2,none⟩ (.int .i64 0)).setCell ⟨g,d * 5+3,none⟩ (.int .i64 0)).setCell ⟨g,d * 5+4,none⟩ (.int .i64 0))=W:=⟨_,rfl⟩
 have aI:Hid (W1.ownsRow base Q1H 5 (.slice (some ⟨g,0,none⟩) n c) n ((l.set d sl0).flatMap Q0g.cs)):=by rw [←am];exact (Q3o (k:=d) sl0 (Kaq g) a (Below.refl g C)).1
 have y:Hid (Stp g (g+1) C W1):=by rw [←am];exact Q3i C g d sl0
 have be:g < C.heap.size:=(a.lt g rfl).2;have aH:W1.cell? ⟨w.heap.size,0,none⟩=some (.slice (some ⟨g,0,none⟩) n c):=y.out.cell O I (.inr (by omega));have Y:w.heap.size < W1.heap.size:=Kbq I y.out.size
 have i1:(d:Int) < (n:Int):=by omega
 have t:=Q01 (DropInv.start (l:=l) (i:=d) (by omega) (by omega) aE);rw [hn] at t;clear a al aE;go_enter Tryz.func111,Tryz.ntmps111;go_wp2_with fail;refine (Q4R (some ⟨g,0,none⟩) n c d W1 (by omega) (by omega) a2).mono ?_;rintro e W2 ⟨rfl,L⟩;have aC:=Q01 (Q03 aI.out L);have aB:=bKq0v0v0 L aH Y;have ab:=Q01 ((Stp.of (lo:=g) (hi:=g+1) HB.out).trans (y.out.trans (Stp.of L)));have aa:w.heap.size < W2.heap.size:=Kbq Y L.size;clear L ay ad ak an ar ac ag ap ao ai am O aH HO aI y;go_wp2
 go_loopg [1,4] (QfU (l.set d sl0) d ((d+1) % n)) (fun gk hv kv wr=> ∃(m:List Sl) (i k:Nat),hv=.int .i64 i∧kv=.int .i64 k∧Hid (DropInv n (Q1F l d) gk m i k)∧Hid (wr.ownsRow base Q1H 5 (.slice (some ⟨g,0,none⟩) n c) n (m.flatMap Q0g.cs))∧Hid (wr.cell? ⟨w.heap.size,0,none⟩=some (.slice (some ⟨g,0,none⟩) n c))∧w.heap.size < wr.heap.size∧Hid (Stp g (g+1) w wr))
 case atStart=> exact ⟨_,d,(d+1) % n,rfl,by simp,t,aC,aB,aa,ab⟩
 case round=>
  obtain ⟨m,i,k,rfl,rfl,X,HO,HC,I,aK⟩:=hrel;clear t aC aB aa ab HB;have ax:=X.out.len;have aV:=X.out.hi;have H:=X.out.hk;have a:wr.ownsRow base Q1H 5 (.slice (some ⟨g,0,none⟩) n c) n (m.flatMap Q0g.cs):=HO.out;have O:=HC.out;have bk:g < wr.heap.size:=(a.lt g rfl).2;obtain ⟨s,ah⟩:∃s,m.getD k sl0=s:=⟨_,rfl⟩;have x:=Qcm a ax.symm k H;rw [ah] at x;have e0:=x.1;have e1:=x.2.1;have e2:=x.2.2.1;have e3:=x.2.2.2.1;have e4:=x.2.2.2.2
  have bj:(k:Int) < (n:Int):=by omega
  have bd:(i:Int) < (n:Int):=by omega
  have V:=Q01 ah;clear x ah;obtain ⟨su,A,z,R,st⟩:=s;simp only at e0 e1 e2 e3 e4
  cases su with
  |false=>
   have HD:=Q01 (X.out.done (by rw [V.out]));clear a;go_wp2
   go_end0
   exact ⟨⟨_,rfl⟩,by rw [←HD.out];exact HO.out,aK.out⟩
  |true=>
  have aX:Q0h A z=true:=by have h:=X.out.ok k (by omega) (by rw [V.out]);rw [V.out] at h;exact h
  have bh:i≠k:=fun e=> by have h:=X.out.free;rw [e,V.out] at h;cases h
  obtain ⟨W3,au⟩:∃W,wr.alloc (.cells #[.bool true,.int .i64 A,.int .i64 z,.int .i64 R,.int .i64 st] 165)=W:=⟨_,rfl⟩;have J:=alb0v0v1 au;have a7:=bKq0v0v0 J O I;have F:w.heap.size < W3.heap.size:=Kbq I J.size;have r:=alz0v0v1 au;obtain ⟨s0,s1,s2,s3,s4⟩:=alc5v0v1 au;have aF:=Q01 (Q03 a J);have T:=Q01 (aK.out.trans (Stp.of J));clear J;have G0:=Grown.cell a7 F;have G1:=Grown.cell s1 r;have G2:=Grown.cell s2 r;have aR:=Q1o (show 0 < n by omega) A z
  have hA:=fun (P:Grown W3)=> Q14 P (QcD (some ⟨g,0,none⟩) n c A z P.v (by omega) (by omega) aX)
  have U:Q4X n m i k=decide (Q1C n i k≤Q1C n (Q0S n A z) k):=by unfold Q4X;rw [V.out]
  have aG:=Q01 U;clear U;generalize Q0S n A z=hm at *
  have hB:=fun (P:Grown W3)=> Q14 P (Qen (some ⟨g,0,none⟩) n c hm k P.v (by omega) aR H)
  have hC:=fun (P:Grown W3)=> Q14 P (Qen (some ⟨g,0,none⟩) n c i k P.v (by omega) aV H)
  generalize Q1C n hm k=d1 at *;generalize Q1C n i k=d2 at *
  by_cases hmv:(d2:Int)≤(d1:Int)
  ·skip
   have B:=Q01 (X.out.move (by rw [V.out]) (by rw [aG.out];exact decide_eq_true (by omega)));rw [V.out] at B;clear a;have Gs0:=Grown.cell s0 r;have Gs1:=Grown.cell s1 r;have Gs2:=Grown.cell s2 r;have Gs3:=Grown.cell s3 r;have Gs4:=Grown.cell s4 r;go_wp2
   (refine Q0b (by kernel_rfl) (by kernel_rfl) ?_;intro aL;(repeat (go_big_quiet_step ((first|(go_at_call 157;exact hA _)|(go_at_call 156;first|with_reducible exact hB _|with_reducible exact hC _)))));(with_reducible refine wpQuiet_nil ?_);intro _ aj;obtain ⟨f,av⟩:=aj;subst av)
   have a:f.v.ownsRow base Q1H 5 (.slice (some ⟨g,0,none⟩) n c) n (m.flatMap Q0g.cs):=Q03 aF.out f.b;have G:f.v.cell? ⟨w.heap.size,0,none⟩=some (.slice (some ⟨g,0,none⟩) n c):=G0 f;have zp:w.heap.size < f.v.heap.size:=Kbq F f.b.size;have N:=Q01 (T.out.trans (Stp.of f.b));have aQ:f.v.cell? ⟨wr.heap.size,0,none⟩=some (.bool true):=Gs0 f;have a1:f.v.cell? ⟨wr.heap.size,1,none⟩=some (.int .i64 A):=Gs1 f;have a8:f.v.cell? ⟨wr.heap.size,2,none⟩=some (.int .i64 z):=Gs2 f;have aU:f.v.cell? ⟨wr.heap.size,3,none⟩=some (.int .i64 R):=Gs3 f
   have aZ:f.v.cell? ⟨wr.heap.size,4,none⟩=some (.int .i64 st):=Gs4 f
   have al:(m.flatMap Q0g.cs).length=n * 5:=by rw [Q0n,ax];rfl
   obtain ⟨u0,ay⟩:∃u,f.v.cell? ⟨g,i * 5,none⟩=some u:=⟨_,(a.cellAt (i * 5) (by omega)).trans (List.getElem?_eq_getElem (by omega))⟩;have ad:=a.frozenAt (i * 5);obtain ⟨u1,ak⟩:∃u,f.v.cell? ⟨g,i * 5+1,none⟩=some u:=⟨_,(a.cellAt (i * 5+1) (by omega)).trans (List.getElem?_eq_getElem (by omega))⟩;have an:=a.frozenAt (i * 5+1);obtain ⟨u2,ar⟩:∃u,f.v.cell? ⟨g,i * 5+2,none⟩=some u:=⟨_,(a.cellAt (i * 5+2) (by omega)).trans (List.getElem?_eq_getElem (by omega))⟩;have ac:=a.frozenAt (i * 5+2)
   obtain ⟨u3,ag⟩:∃u,f.v.cell? ⟨g,i * 5+3,none⟩=some u:=⟨_,(a.cellAt (i * 5+3) (by omega)).trans (List.getElem?_eq_getElem (by omega))⟩;have ap:=a.frozenAt (i * 5+3);obtain ⟨u4,ao⟩:∃u,f.v.cell? ⟨g,i * 5+4,none⟩=some u:=⟨_,(a.cellAt (i * 5+4) (by omega)).trans (List.getElem?_eq_getElem (by omega))⟩;have ai:=a.frozenAt (i * 5+4);obtain ⟨D,aM⟩:∃W,(((((f.v.setCell ⟨g,i * 5,none⟩ (.bool true)).setCell ⟨g,i * 5+1,none⟩ (.int .i64 A)).setCell ⟨g,i * 5+2,none⟩ (.int .i64 z)).setCell ⟨g,i * 5+3,none⟩ (.int .i64 R)).setCell ⟨g,i * 5+4,none⟩ (.int .i64 st))=W:=⟨_,rfl⟩
   have j:D.ownsRow base Q1H 5 (.slice (some ⟨g,0,none⟩) n c) n ((m.set i ⟨true,A,z,R,st⟩).flatMap Q0g.cs):=by rw [←aM];exact (Q3o (k:=i) ⟨true,A,z,R,st⟩ (Kaq g) a (Below.refl g f.v)).1
   have Z:Hid (Stp g (g+1) f.v D):=by rw [←aM];exact Q3i f.v g i ⟨true,A,z,R,st⟩
   have az:((m.set i ⟨true,A,z,R,st⟩).flatMap Q0g.cs).length=n * 5:=by rw [Q0n,List.length_set,ax];rfl
   obtain ⟨y0,aN⟩:∃u,D.cell? ⟨g,k * 5,none⟩=some u:=⟨_,(j.cellAt (k * 5) (by omega)).trans (List.getElem?_eq_getElem (by omega))⟩;have a5:=j.frozenAt (k * 5);obtain ⟨y1,ba⟩:∃u,D.cell? ⟨g,k * 5+1,none⟩=some u:=⟨_,(j.cellAt (k * 5+1) (by omega)).trans (List.getElem?_eq_getElem (by omega))⟩;have aT:=j.frozenAt (k * 5+1);obtain ⟨y2,aW⟩:∃u,D.cell? ⟨g,k * 5+2,none⟩=some u:=⟨_,(j.cellAt (k * 5+2) (by omega)).trans (List.getElem?_eq_getElem (by omega))⟩;have a3:=j.frozenAt (k * 5+2)
   obtain ⟨y3,a6⟩:∃u,D.cell? ⟨g,k * 5+3,none⟩=some u:=⟨_,(j.cellAt (k * 5+3) (by omega)).trans (List.getElem?_eq_getElem (by omega))⟩;have a4:=j.frozenAt (k * 5+3);obtain ⟨y4,aP⟩:∃u,D.cell? ⟨g,k * 5+4,none⟩=some u:=⟨_,(j.cellAt (k * 5+4) (by omega)).trans (List.getElem?_eq_getElem (by omega))⟩;have aS:=j.frozenAt (k * 5+4);obtain ⟨W5,aD⟩:∃W,(((((D.setCell ⟨g,k * 5,none⟩ (.bool false)).setCell ⟨g,k * 5+1,none⟩ (.int .i64 0)).setCell ⟨g,k * 5+2,none⟩ (.int .i64 0)).setCell ⟨g,k * 5+3,none⟩ (.int .i64 0)).setCell ⟨g,k * 5+4,none⟩ (.int .i64 0))=W:=⟨_,rfl⟩
   have aO:Hid (W5.ownsRow base Q1H 5 (.slice (some ⟨g,0,none⟩) n c) n (((m.set i ⟨true,A,z,R,st⟩).set k sl0).flatMap Q0g.cs)):=by rw [←aD];exact (Q3o (k:=k) sl0 (Kaq g) j (Below.refl g D)).1
   have aA:Hid (Stp g (g+1) D W5):=by rw [←aD];exact Q3i D g k sl0
   have M:=Q01 (Z.out.trans aA.out);have bf:g < w.heap.size:=a9;have bg:D.cell? ⟨w.heap.size,0,none⟩=some (.slice (some ⟨g,0,none⟩) n c):=Z.out.cell G zp (.inr (by omega));have aY:W5.cell? ⟨w.heap.size,0,none⟩=some (.slice (some ⟨g,0,none⟩) n c):=M.out.cell G zp (.inr (by omega));have aJ:w.heap.size < W5.heap.size:=Kbq zp M.out.size;clear a j al az G0 G1 G2 hA hB hC Gs0 Gs1 Gs2 Gs3 Gs4;go_wp2
   go_region
   go_wp2_with fail;refine (Q4R (some ⟨g,0,none⟩) n c k _ (by omega) (by omega) H).mono ?_;rintro e W6 ⟨rfl,p⟩;have ae:Hid (W6.ownsRow base Q1H 5 (.slice (some ⟨g,0,none⟩) n c) n (((m.set i ⟨true,A,z,R,st⟩).set k sl0).flatMap Q0g.cs)):=Q03 (show World.ownsRow W5.drew _ _ _ _ _ _ from aO.out) p;have aw:=bKq0v0v0 p aY aJ;have af:w.heap.size < W6.heap.size:=Kbq aJ p.size;have E:=Q01 (N.out.trans ((M.out.drew).trans (Stp.of p)));clear p ay ad aN a5 aQ ak an ba aT a1 ar ac aW a3 a8 ag ap a6 a4 aU ao ai aP aS aZ;go_wp2
   go_roundg (gk - 1)
   case measure=> have:=B.out.1;omega
   case rel=> exact ⟨_,k,(k+1) % n,rfl,by simp,B.out.2,ae,aw,af,E⟩
  ·skip
   have B:=Q01 (X.out.stay (by rw [V.out]) (by rw [aG.out];exact decide_eq_false (by omega)));have bb:decide (d2≤d1)=false:=decide_eq_false (by omega);have bc:decide ((d2:Int)≤(d1:Int))=false:=decide_eq_false hmv;clear a;go_wp2
   (refine Q0b (by kernel_rfl) (by kernel_rfl) ?_;intro aL;(repeat (go_big_quiet_step ((first|(go_at_call 157;exact hA _)|(go_at_call 156;first|with_reducible exact hB _|with_reducible exact hC _)))));(with_reducible refine wpQuiet_nil ?_);intro _ aj;obtain ⟨f,av⟩:=aj;subst av)
   have a0:=Q01 (Q03 aF.out f.b);have G:f.v.cell? ⟨w.heap.size,0,none⟩=some (.slice (some ⟨g,0,none⟩) n c):=G0 f;have zp:w.heap.size < f.v.heap.size:=Kbq F f.b.size;have N:=Q01 (T.out.trans (Stp.of f.b));clear G0 G1 G2 hA hB hC;go_wp2_with fail;refine (Q4R (some ⟨g,0,none⟩) n c k _ (by omega) (by omega) H).mono ?_;rintro e W6 ⟨rfl,p⟩;have ae:Hid (W6.ownsRow base Q1H 5 (.slice (some ⟨g,0,none⟩) n c) n (m.flatMap Q0g.cs)):=Q03 a0.out p;have aw:=bKq0v0v0 p G zp;have af:w.heap.size < W6.heap.size:=Kbq zp p.size;have E:=Q01 (N.out.trans (Stp.of p))
   clear p G;go_wp2
   go_roundg (gk - 1)
   case measure=> have:=B.out.1;omega
   case rel=> exact ⟨m,i,(k+1) % n,rfl,by simp,B.out.2,ae,aw,af,E⟩
theorem Q7E (b off c:Nat) (l:List Sl) (a p:Int) (w:World) (hn:0 < l.length) (a4:l.length≤16) (hf:Q0h a p=true) (aY:Q4m l) (R:b < w.heap.size) (hc:∀i,i < l.length→∀j,j < Q0g.k→w.cell? ⟨b,off+i * Q0g.k+j,none⟩=(Q0g.cs (l.getD i Q0g.d))[j]?):
  Calls Tryz.prog 168 #[tab (.slice (some ⟨b,off,none⟩) l.length c),Q6c a p] w fun e w'=> ∃b' af c',e=.returned (.tuple #[tab (.slice (some ⟨b',af,none⟩) l.length c'),.bool (Q0Z l a p).2])∧b' < w'.heap.size∧(∀i,i < (Q43 l a p).length→∀j,j < Q0g.k→w'.cell? ⟨b',af+i * Q0g.k+j,none⟩=(Q0g.cs ((Q43 l a p).getD i Q0g.d))[j]?)∧Below w.heap.size w w'∧(b'=b∨w.heap.size≤b'):=by
 have HC:=Q01 hc
 have hl:l.length≤1048576:=by omega
 clear hc;obtain ⟨W0,M⟩:∃W,(((w.alloc (.cells #[.slice (some ⟨b,off,none⟩) l.length c] 32)).alloc (.cells #[.int .i64 a,.int .i64 p] 36)).alloc (.cells #[.slice none 0 0] 32))=W:=⟨_,rfl⟩;have V:=alb0v0v3 M;have B:=Q01 V;clear V;have z:=alz0v0v3 M
 have F:W0.cell? ⟨w.heap.size,0,none⟩=some (.slice (some ⟨b,off,none⟩) l.length c):=by rw [←M];simp [go_sem]
 have r:=alz0v1v3 M;obtain ⟨G,H⟩:=alc2v1v3 M;have f:=alz0v2v3 M
 have C:W0.cell? ⟨w.heap.size+1+1,0,none⟩=some (.slice none 0 0):=by rw [←M];simp [go_sem]
 have t:W0.frozen? ⟨w.heap.size+1+1,0,none⟩=false:=by rw [←M];simp [go_sem]
 have I:=Q9O (some ⟨b,off,none⟩) c l a p W0 (.inr ⟨b,off,rfl,Kbq R B.out.size,(fun i hi j hj=> (B.out.cell (p:=⟨b,off+i * Q0g.k+j,none⟩) R).trans (HC.out i hi j hj))⟩) hn hl hf;have HZ:=Q01 f
 rcases Q1f l hn a p with P|⟨x,a1,⟨P,_⟩|⟨P,_⟩⟩
 ·skip
  have HP:=Q01 (Q6S (l:=l) (a:=a) (p:=p) (by rw [P]));have HD:=Q01 (show (Q0Z l a p).2=false by rw [P]);rw [P] at I;clear P;go_enter Tryz.func168,Tryz.ntmps168;go_wp2_with fail;refine (I).mono ?_;rintro e E ⟨rfl,q⟩;replace F:=bKq0v0v0 q F z;replace z:w.heap.size < E.heap.size:=Kbq z q.size;replace G:=bKq0v0v0 q G r;replace H:=bKq0v0v0 q H r;replace r:w.heap.size+1 < E.heap.size:=Kbq r q.size;replace C:=bKq0v0v0 q C f;replace t:E.frozen? ⟨w.heap.size+1+1,0,none⟩=false:=(q.frozen (p:=⟨w.heap.size+1+1,0,none⟩) f).trans t
  replace f:w.heap.size+1+1 < E.heap.size:=Kbq f q.size;replace B:=Q01 (B.out.trans (q.mono B.out.size));clear q;clear I;go_wp2;refine bodyPost_ret (v:=.tuple #[tab (.slice (some ⟨b,off,none⟩) l.length c),.bool false]) (by simp [results,Tryz.results168,go_sem,C]) rfl ⟨b,off,c,by rw [HD.out], ?_, ?_, ?_,.inl rfl⟩
  ·have:=B.out.size;simp;omega
  ·rw [HP.out]
   intro i hi j hj;have ai:=B.out.setCell (p:=⟨w.heap.size+1+1,0,none⟩) (by simp <;> omega) (.slice (some ⟨b,off,none⟩) l.length c);exact (ai.cell (p:=⟨b,off+i * Q0g.k+j,none⟩) R).trans (HC.out i hi j hj)
  ·exact B.out.setCell (p:=⟨w.heap.size+1+1,0,none⟩) (by simp <;> omega) _
 ·skip
  have HP:=Q01 (Q6S (l:=l) (a:=a) (p:=p) (by rw [P]));have HD:=Q01 (show (Q0Z l a p).2=false by rw [P]);rw [P] at I;clear P;go_enter Tryz.func168,Tryz.ntmps168;go_wp2_with fail;refine (I).mono ?_;rintro e E ⟨rfl,q⟩;replace F:=bKq0v0v0 q F z;replace z:w.heap.size < E.heap.size:=Kbq z q.size;replace G:=bKq0v0v0 q G r;replace H:=bKq0v0v0 q H r;replace r:w.heap.size+1 < E.heap.size:=Kbq r q.size;replace C:=bKq0v0v0 q C f;replace t:E.frozen? ⟨w.heap.size+1+1,0,none⟩=false:=(q.frozen (p:=⟨w.heap.size+1+1,0,none⟩) f).trans t
  replace f:w.heap.size+1+1 < E.heap.size:=Kbq f q.size;replace B:=Q01 (B.out.trans (q.mono B.out.size));clear q;clear I;go_wp2;refine bodyPost_ret (v:=.tuple #[tab (.slice (some ⟨b,off,none⟩) l.length c),.bool false]) (by simp [results,Tryz.results168,go_sem,C]) rfl ⟨b,off,c,by rw [HD.out], ?_, ?_, ?_,.inl rfl⟩
  ·have:=B.out.size;simp;omega
  ·rw [HP.out]
   intro i hi j hj;have ai:=B.out.setCell (p:=⟨w.heap.size+1+1,0,none⟩) (by simp <;> omega) (.slice (some ⟨b,off,none⟩) l.length c);exact (ai.cell (p:=⟨b,off+i * Q0g.k+j,none⟩) R).trans (HC.out i hi j hj)
  ·exact B.out.setCell (p:=⟨w.heap.size+1+1,0,none⟩) (by simp <;> omega) _
 ·skip
  have HP:=Q01 (Q5H P);have HD:=Q01 (show (Q0Z l a p).2=true by rw [P]);rw [P] at I;clear P;have ab:=Q01 (DropInv.start (l:=l) (i:=x) a4 a1 aY)
  have i1:(x:Int) < (l.length:Int):=by omega
  go_enter Tryz.func168,Tryz.ntmps168;go_wp2_with fail;refine (I).mono ?_;rintro e E ⟨rfl,q⟩;replace F:=bKq0v0v0 q F z;replace z:w.heap.size < E.heap.size:=Kbq z q.size;replace G:=bKq0v0v0 q G r;replace H:=bKq0v0v0 q H r;replace r:w.heap.size+1 < E.heap.size:=Kbq r q.size;replace C:=bKq0v0v0 q C f;replace t:E.frozen? ⟨w.heap.size+1+1,0,none⟩=false:=(q.frozen (p:=⟨w.heap.size+1+1,0,none⟩) f).trans t;replace f:w.heap.size+1+1 < E.heap.size:=Kbq f q.size;replace B:=Q01 (B.out.trans (q.mono B.out.size));clear q;go_wp2_with fail
  refine (Q5Q b off c l E (Kbq R B.out.size) (fun i hi j hj=> (B.out.cell (p:=⟨b,off+i * Q0g.k+j,none⟩) R).trans (HC.out i hi j hj)) hl).mono ?_;rintro e v2 ⟨o2,c2,rfl,aa,q⟩;have aX:=Q01 f
  obtain ⟨g,c3,aU⟩:∃g c3,Value.slice o2 l.length c2=.slice (some ⟨g,0,none⟩) l.length c3:=by
   rcases aa.2 with ⟨_,h0⟩|⟨g,c3,_,h0,_⟩
   ·exact absurd h0 (by omega)
   ·exact ⟨g,c3,h0⟩
  injection aU with hv1 hv2 hv3;subst hv1 hv3;have HO:=Q01 aa;clear aa;replace F:=bKq0v0v0 q F z;replace z:w.heap.size < v2.heap.size:=Kbq z q.size;replace G:=bKq0v0v0 q G r;replace H:=bKq0v0v0 q H r;replace r:w.heap.size+1 < v2.heap.size:=Kbq r q.size;replace C:=bKq0v0v0 q C f;replace t:v2.frozen? ⟨w.heap.size+1+1,0,none⟩=false:=(q.frozen (p:=⟨w.heap.size+1+1,0,none⟩) f).trans t;replace f:w.heap.size+1+1 < v2.heap.size:=Kbq f q.size;replace B:=Q01 (B.out.trans (q.mono B.out.size));clear q;have a3:=HO
  obtain ⟨L,ak⟩:∃W,(v2.alloc (.cells #[.slice (some ⟨g,0,none⟩) l.length c2] 32))=W:=⟨_,rfl⟩;have n:=alb0v0v1 ak;replace F:=bKq0v0v0 n F z;replace z:w.heap.size < L.heap.size:=Kbq z n.size;replace G:=bKq0v0v0 n G r;replace H:=bKq0v0v0 n H r;replace r:w.heap.size+1 < L.heap.size:=Kbq r n.size;replace C:=bKq0v0v0 n C f;replace t:L.frozen? ⟨w.heap.size+1+1,0,none⟩=false:=(n.frozen (p:=⟨w.heap.size+1+1,0,none⟩) f).trans t;replace f:w.heap.size+1+1 < L.heap.size:=Kbq f n.size;replace HO:=Q01 (Q03 HO.out n)
  replace B:=Q01 (B.out.trans (n.mono B.out.size));clear n;have ah:=alz0v0v1 ak
  have aB:L.cell? ⟨v2.heap.size,0,none⟩=some (.slice (some ⟨g,0,none⟩) l.length c2):=by rw [←ak];simp [go_sem]
  have aH:=(a3.out.lt g rfl);have bq:E.heap.size≤g:=aH.1;have aj:g+1≤v2.heap.size:=aH.2;have aW:=aX.out;have aC:=ah;have J:L.ownsRow E.heap.size 101 5 (.slice (some ⟨g,0,none⟩) l.length c2) l.length (l.flatMap Q0g.cs):=HO.out
  have am:(l.flatMap Q0g.cs).length=l.length * 5:=by rw [Q0n];rfl
  obtain ⟨u0,aO⟩:∃u,L.cell? ⟨g,x * 5,none⟩=some u:=⟨_,(J.cellAt (x * 5) (by omega)).trans (List.getElem?_eq_getElem (by omega))⟩;have ar:=J.frozenAt (x * 5);obtain ⟨u1,az⟩:∃u,L.cell? ⟨g,x * 5+1,none⟩=some u:=⟨_,(J.cellAt (x * 5+1) (by omega)).trans (List.getElem?_eq_getElem (by omega))⟩;have aE:=J.frozenAt (x * 5+1);obtain ⟨u2,aJ⟩:∃u,L.cell? ⟨g,x * 5+2,none⟩=some u:=⟨_,(J.cellAt (x * 5+2) (by omega)).trans (List.getElem?_eq_getElem (by omega))⟩;have ap:=J.frozenAt (x * 5+2)
  obtain ⟨u3,ax⟩:∃u,L.cell? ⟨g,x * 5+3,none⟩=some u:=⟨_,(J.cellAt (x * 5+3) (by omega)).trans (List.getElem?_eq_getElem (by omega))⟩;have aI:=J.frozenAt (x * 5+3);obtain ⟨u4,aF⟩:∃u,L.cell? ⟨g,x * 5+4,none⟩=some u:=⟨_,(J.cellAt (x * 5+4) (by omega)).trans (List.getElem?_eq_getElem (by omega))⟩;have ay:=J.frozenAt (x * 5+4);obtain ⟨W3,an⟩:∃W,(((((L.setCell ⟨g,x * 5,none⟩ (.bool false)).setCell ⟨g,x * 5+1,none⟩ (.int .i64 0)).setCell ⟨g,x * 5+2,none⟩ (.int .i64 0)).setCell ⟨g,x * 5+3,none⟩ (.int .i64 0)).setCell ⟨g,x * 5+4,none⟩ (.int .i64 0))=W:=⟨_,rfl⟩
  have aA:Hid (W3.ownsRow E.heap.size 101 5 (.slice (some ⟨g,0,none⟩) l.length c2) l.length ((l.set x sl0).flatMap Q0g.cs)):=by rw [←an];exact (Q3o (k:=x) sl0 (Kaq g) J (Below.refl g L)).1
  have U:Hid (Stp g (g+1) L W3):=by rw [←an];exact Q3i L g x sl0
  have a0:=U.out.cell aB ah (.inr aj);have aZ:=Q5w l.length x;have ba:((l.length:Int)==0)=false:=beq_eq_false_iff_ne.2 (by omega);clear J am I;go_wp2
  go_loopg [6,10] (QfU (l.set x sl0) x ((x+1) % l.length)) (fun gk iv kv wr=> ∃(m:List Sl) (i k:Nat),iv=.int .i64 i∧kv=.int .i64 k∧Hid (DropInv l.length (Q1F l x) gk m i k)∧Hid (wr.ownsRow E.heap.size 101 5 (.slice (some ⟨g,0,none⟩) l.length c2) l.length (m.flatMap Q0g.cs))∧Hid (Stp g (g+1) L wr))
  case atStart=> exact ⟨_,x,(x+1) % l.length,rfl,by simp,ab,aA,U⟩
  case round=>
   clear a0 aA U an ab aO ar az aE aJ ap ax aI aF ay aZ;obtain ⟨m,i,k,rfl,rfl,HI,Z,N⟩:=hrel;have O:=Q01 HI.out.len;have aT:=HI.out.hi;have ac:=HI.out.hk;have J:wr.ownsRow E.heap.size 101 5 (.slice (some ⟨g,0,none⟩) l.length c2) l.length (m.flatMap Q0g.cs):=Z.out;have a8:L.heap.size≤wr.heap.size:=N.out.size;have aM:=N.out.cell aB ah (.inr aj);have crr:=N.out.cell C f (.inl (show w.heap.size+1+1 < g by omega));have av:=N.out.frozen t f (.inl (show w.heap.size+1+1 < g by omega))
   have bt:(k:Int) < (l.length:Int):=by omega
   have bc:(i:Int) < (l.length:Int):=by omega
   obtain ⟨s,al⟩:∃s,m.getD k sl0=s:=⟨_,rfl⟩;have A:=Qcm J O.out.symm k ac;rw [al] at A;have e0:=A.1;have e1:=A.2.1;have e2:=A.2.2.1;have e3:=A.2.2.2.1;have e4:=A.2.2.2.2;have HX:=Q01 al;clear A al;have ag:w.heap.size+1+1 < E.heap.size:=aW
   by_cases hki:k=i
   ·have ao:=Q01 (HI.out.done (by rw [hki];exact HI.out.free))
    subst hki;clear J;go_wp2;refine bodyPost_ret (v:=.tuple #[tab (.slice (some ⟨g,0,none⟩) l.length c2),.bool true]) (by simp [results,Tryz.results168,go_sem,crr]) rfl ⟨g,0,c2,by rw [HD.out], ?_, ?_, ?_,.inr (by omega)⟩
    ·have h:=(Z.out.lt g rfl).2;simpa using h
    ·rw [HP.out,←ao.out]
     have h:=ownsRow_setCell_below Z.out (a:=⟨w.heap.size+1+1,0,none⟩) ag (.slice (some ⟨g,0,none⟩) l.length c2);exact Q1t h O.out.symm
    ·exact (B.out.trans (N.out.below (by omega) (by omega))).setCell (p:=⟨w.heap.size+1+1,0,none⟩) (by simp <;> omega) _
   ·have a7:((k:Int)==(i:Int))=false:=beq_eq_false_iff_ne.2 (by omega)
    have a5:¬(k:Int)=(i:Int):=by omega
    obtain ⟨su,sa,sp,sv,st⟩:=s;simp only at e0 e1 e2 e3 e4
    cases su with
    |false=>
     have ao:=Q01 (HI.out.done (by rw [HX.out]));clear J;go_wp2;refine bodyPost_ret (v:=.tuple #[tab (.slice (some ⟨g,0,none⟩) l.length c2),.bool true]) (by simp [results,Tryz.results168,go_sem,crr]) rfl ⟨g,0,c2,by rw [HD.out], ?_, ?_, ?_,.inr (by omega)⟩
     ·have h:=(Z.out.lt g rfl).2;simpa using h
     ·rw [HP.out,←ao.out]
      have h:=ownsRow_setCell_below Z.out (a:=⟨w.heap.size+1+1,0,none⟩) ag (.slice (some ⟨g,0,none⟩) l.length c2);exact Q1t h O.out.symm
     ·exact (B.out.trans (N.out.below (by omega) (by omega))).setCell (p:=⟨w.heap.size+1+1,0,none⟩) (by simp <;> omega) _
    |true=>
     have aV:Q0h sa sp=true:=by have h:=HI.out.ok k (by have:=O.out;omega) (by rw [HX.out]);rw [HX.out] at h;exact h
     have aQ:=Q1o hn sa sp;have aD:=Q01 (show Q4X l.length m i k=decide (Q1C l.length i k≤Q1C l.length (Q0S l.length sa sp) k) by unfold Q4X;rw [HX.out]);have a2:=Q01 J;clear J;go_wp2_with fail;refine (Q8n l.length sa sp wr hn hl aV).mono ?_;rintro e Y ⟨rfl,ad⟩;generalize Q0S l.length sa sp=hm at *
     have bh:(hm:Int) < (l.length:Int):=by omega
     have be:=Q94 aQ ac;have bj:=Q94 aT ac;have bk:=Q5w l.length k;have y:Y.ownsRow E.heap.size 101 5 (.slice (some ⟨g,0,none⟩) l.length c2) l.length (m.flatMap Q0g.cs):=Q03 a2.out ad
     have aG:v2.heap.size < wr.heap.size:=by omega
     have aR:=bKq0v0v0 ad aM aG;have X:=Q01 (N.out.trans (Stp.of ad));clear ad aM crr av;generalize Q1C l.length hm k=d1 at *;generalize Q1C l.length i k=d2 at *
     by_cases hmv:(d2:Int)≤(d1:Int)
     ·skip
      have T:=Q01 (HI.out.move (by rw [HX.out]) (by rw [aD.out];exact decide_eq_true (by omega)));rw [HX.out] at T
      have am:(m.flatMap Q0g.cs).length=l.length * 5:=by rw [Q0n,O.out];rfl
      have A:=Qcm y O.out.symm k ac;rw [HX.out] at A;have g0:=A.1;have g1:=A.2.1;have g2:=A.2.2.1;have g3:=A.2.2.2.1;have g4:=A.2.2.2.2;simp only at g0 g1 g2 g3 g4;clear A e0 e1 e2 e3 e4;obtain ⟨u0,aO⟩:∃u,Y.cell? ⟨g,i * 5,none⟩=some u:=⟨_,(y.cellAt (i * 5) (by omega)).trans (List.getElem?_eq_getElem (by omega))⟩;have ar:=y.frozenAt (i * 5);obtain ⟨u1,az⟩:∃u,Y.cell? ⟨g,i * 5+1,none⟩=some u:=⟨_,(y.cellAt (i * 5+1) (by omega)).trans (List.getElem?_eq_getElem (by omega))⟩;have aE:=y.frozenAt (i * 5+1)
      obtain ⟨u2,aJ⟩:∃u,Y.cell? ⟨g,i * 5+2,none⟩=some u:=⟨_,(y.cellAt (i * 5+2) (by omega)).trans (List.getElem?_eq_getElem (by omega))⟩;have ap:=y.frozenAt (i * 5+2);obtain ⟨u3,ax⟩:∃u,Y.cell? ⟨g,i * 5+3,none⟩=some u:=⟨_,(y.cellAt (i * 5+3) (by omega)).trans (List.getElem?_eq_getElem (by omega))⟩;have aI:=y.frozenAt (i * 5+3);obtain ⟨u4,aF⟩:∃u,Y.cell? ⟨g,i * 5+4,none⟩=some u:=⟨_,(y.cellAt (i * 5+4) (by omega)).trans (List.getElem?_eq_getElem (by omega))⟩;have ay:=y.frozenAt (i * 5+4)
      obtain ⟨W4,aN⟩:∃W,(((((Y.setCell ⟨g,i * 5,none⟩ (.bool true)).setCell ⟨g,i * 5+1,none⟩ (.int .i64 sa)).setCell ⟨g,i * 5+2,none⟩ (.int .i64 sp)).setCell ⟨g,i * 5+3,none⟩ (.int .i64 sv)).setCell ⟨g,i * 5+4,none⟩ (.int .i64 st))=W:=⟨_,rfl⟩
      have D:W4.ownsRow E.heap.size 101 5 (.slice (some ⟨g,0,none⟩) l.length c2) l.length ((m.set i ⟨true,sa,sp,sv,st⟩).flatMap Q0g.cs):=by rw [←aN];exact (Q3o (k:=i) ⟨true,sa,sp,sv,st⟩ (Kaq g) y (Below.refl g Y)).1
      have ae:Hid (Stp g (g+1) Y W4):=by rw [←aN];exact Q3i Y g i ⟨true,sa,sp,sv,st⟩
      have aq:((m.set i ⟨true,sa,sp,sv,st⟩).flatMap Q0g.cs).length=l.length * 5:=by rw [Q0n,List.length_set,O.out];rfl
      have aK:v2.heap.size < Y.heap.size:=Kbq aC X.out.size;have bl:=ae.out.cell aR aK (.inr aj);obtain ⟨y0,bb⟩:∃u,W4.cell? ⟨g,k * 5,none⟩=some u:=⟨_,(D.cellAt (k * 5) (by omega)).trans (List.getElem?_eq_getElem (by omega))⟩;have bo:=D.frozenAt (k * 5);obtain ⟨y1,bs⟩:∃u,W4.cell? ⟨g,k * 5+1,none⟩=some u:=⟨_,(D.cellAt (k * 5+1) (by omega)).trans (List.getElem?_eq_getElem (by omega))⟩;have bg:=D.frozenAt (k * 5+1);obtain ⟨y2,bi⟩:∃u,W4.cell? ⟨g,k * 5+2,none⟩=some u:=⟨_,(D.cellAt (k * 5+2) (by omega)).trans (List.getElem?_eq_getElem (by omega))⟩
      have bm:=D.frozenAt (k * 5+2);obtain ⟨y3,bp⟩:∃u,W4.cell? ⟨g,k * 5+3,none⟩=some u:=⟨_,(D.cellAt (k * 5+3) (by omega)).trans (List.getElem?_eq_getElem (by omega))⟩;have bn:=D.frozenAt (k * 5+3);obtain ⟨y4,bd⟩:∃u,W4.cell? ⟨g,k * 5+4,none⟩=some u:=⟨_,(D.cellAt (k * 5+4) (by omega)).trans (List.getElem?_eq_getElem (by omega))⟩;have bf:=D.frozenAt (k * 5+4)
      obtain ⟨W5,aw⟩:∃W,(((((W4.setCell ⟨g,k * 5,none⟩ (.bool false)).setCell ⟨g,k * 5+1,none⟩ (.int .i64 0)).setCell ⟨g,k * 5+2,none⟩ (.int .i64 0)).setCell ⟨g,k * 5+3,none⟩ (.int .i64 0)).setCell ⟨g,k * 5+4,none⟩ (.int .i64 0))=W:=⟨_,rfl⟩
      have aP:Hid (W5.ownsRow E.heap.size 101 5 (.slice (some ⟨g,0,none⟩) l.length c2) l.length (((m.set i ⟨true,sa,sp,sv,st⟩).set k sl0).flatMap Q0g.cs)):=by rw [←aw];exact (Q3o (k:=k) sl0 (Kaq g) D (Below.refl g W4)).1
      have au:Hid (Stp g (g+1) W4 W5):=by rw [←aw];exact Q3i W4 g k sl0
      have aL:=Q01 (X.out.trans (ae.out.trans au.out));clear y D am aq;go_wp2
      go_region
      go_wp2
      go_region
      go_wp2
      go_roundg (gk - 1)
      case measure=> have:=T.out.1;omega
      case rel=> exact ⟨_,k,(k+1) % l.length,rfl,by simp,T.out.2,aP,aL.out.drew.drew⟩
     ·skip
      have T:=Q01 (HI.out.stay (by rw [HX.out]) (by rw [aD.out];exact decide_eq_false (by omega)));have a6:decide (d2≤d1)=false:=decide_eq_false (by omega);have a9:decide ((d2:Int)≤(d1:Int))=false:=decide_eq_false hmv;have aS:=Q01 y;clear y;go_wp2
      go_region
      go_wp2
      go_roundg (gk - 1)
      case measure=> have:=T.out.1;omega
      case rel=> exact ⟨m,i,(k+1) % l.length,rfl,by simp,T.out.2,aS,X.out.drew⟩
theorem Qdf {W:World} {B b off n c:Nat} {o:Option Addr} {T:TypeId} {m:List Sl} (hm:0 < m.length) (a:W.heap[B]? =some (.cells #[.slice o n c] T (0,0))) (f:(∀i,i < m.length→∀j,j < Q0g.k→W.cell? ⟨b,off+i * Q0g.k+j,none⟩=(Q0g.cs (m.getD i Q0g.d))[j]?)):b≠B:=by
 rintro rfl;have h:W.cell? ⟨b,off+0 * Q0g.k+0,none⟩=some (.bool (m.getD 0 Q0g.d).u):=f 0 hm 0 (by decide);simp only [World.cell?,a,Nat.zero_mul,Nat.add_zero] at h
 rcases off with _|off <;> simp at h
end Go.Proofs.YtpneolgdghbinaaGreat
