/- Hints out of a table: the program's hintsFrom. -/
import Derived.Test.YteffhdcankkfkaaGreatQListed37
namespace Go.Proofs.YteffhdcankkfkaaGreat
open Go.ChangeShapes Go.WideShapes Go.ChangeAt Go.RowKit Go.Joins
set_option linter.unusedVariables false
set_option linter.unusedSimpArgs false
set_option maxRecDepth 100000
set_option maxHeartbeats 40000000
def isV (s:Sl):Bool:=decide (0<=s.v) && decide (s.v < 6)
def Q7D (l:List Sl):Bool:=Q0k l && l.all isV
theorem Qf6 (l:List Sl) (k:Nat) (h:k < l.length):(l.take (k+1)).all isV=((l.take k).all isV && isV (l.getD k sl0)):=by
 rw[List.take_succ_eq_append_getElem h,List.all_append];simp[h]
theorem Q9g (o:Option Addr) (n c:Nat) (l:List Sl) (w:World) (hn:n=l.length) (hR:RdS w.heap.size w o l) (hl:l.length<=1048576):
  Calls Tryz.prog 160 #[tab (.slice o n c)] w fun e w'=> ∃o' n' c',e=.returned (.tuple #[tab (.slice o' n' c'),.bool (Q7D l)])/\(Q0k l=true->∃g,o'=some ⟨g,0,none⟩/\n'=l.length/\c'=l.length/\ownL Q0u Q3m w' w.heap.size (.slice (some ⟨g,0,none⟩) l.length l.length) l)/\Below w.heap.size w w':=by
 have ab:=Q00 (fun W (x:Below w.heap.size w W)=>Q4r o c l W ((hR.kept x (Kaq _)).le x.size) hl);have R:=Q00 (show Q7D l=(Q0k l && l.all isV)from rfl);rw[<-hn]at ab;have HN:=Q00 hn;clear hR hn;obtain⟨W0,j⟩:∃W,((w.alloc (.cells #[.slice o n c] 32)).alloc (.cells #[.slice none 0 0] 121))=W:=⟨_,rfl⟩;have C:=alb0v0v2 j;have H:=Q00 C;clear C;have Y:=alz0v0v2 j
 have z0:W0.cell? ⟨w.heap.size,0,none⟩=some (.slice o n c):=by rw[<-j];simp[go_sem]
 have F:=alz0v1v2 j
 have r0:W0.cell? ⟨w.heap.size+1,0,none⟩=some (.slice none 0 0):=by rw[<-j];simp[go_sem]
 have z:W0.frozen? ⟨w.heap.size+1,0,none⟩=false:=by rw[<-j];simp[go_sem]
 have af:=F;go_enter Tryz.func160,Tryz.ntmps160;go_wp2_with fail;refine(ab.out W0 H.out).mono ?_;rintro e y ⟨U,E,X,rfl,O,x⟩;have J:=Q00 O;clear O;have aq:=x.size;replace z0:=bKq0v0v0 x z0 Y;replace Y:w.heap.size < y.heap.size:=Kbq Y x.size;replace r0:=bKq0v0v0 x r0 F;replace z:y.frozen? ⟨w.heap.size+1,0,none⟩=false:=(x.frozen (p:=⟨w.heap.size+1,0,none⟩) F).trans z;replace F:w.heap.size+1 < y.heap.size:=Kbq F x.size;replace H:=Q00 (H.out.trans (x.mono H.out.size));clear x;obtain⟨V,B⟩:∃W,(y.alloc (.cells #[.slice U E X] 119))=W:=⟨_,rfl⟩
 have d:=alb0v0v1 B;replace z0:=bKq0v0v0 d z0 Y;replace Y:w.heap.size < V.heap.size:=Kbq Y d.size;replace r0:=bKq0v0v0 d r0 F;replace z:V.frozen? ⟨w.heap.size+1,0,none⟩=false:=(d.frozen (p:=⟨w.heap.size+1,0,none⟩) F).trans z;replace F:w.heap.size+1 < V.heap.size:=Kbq F d.size;replace H:=Q00 (H.out.trans (d.mono H.out.size));clear d;have zf:=alz0v0v1 B
 have f0:V.cell? ⟨y.heap.size,0,none⟩=some (.slice U E X):=by rw[<-B];simp[go_sem]
 have am:=alz0v0v1 B;have ae:=alb0v0v1 B;obtain⟨tk,T⟩:∃b,Q0k l=b:=⟨_,rfl⟩;rw[T]at J R ⊢;have al:=Q00 T;clear T
 have P:Hid ((tk && (l.take E).all isV)=Q7D l/\E<=l.length):=by
  rcases J.out with⟨h0,h1⟩|⟨g,G,i,M,q⟩
  ·rw[R.out,h0,h1];exact⟨rfl,Kcq _⟩
  ·rw[R.out,i,HN.out,List.take_length];exact⟨rfl,Kaq _⟩
 have ah:Hid (∀k,k < E->∃g,U=some ⟨g,0,none⟩/\g < y.heap.size/\y.cell? ⟨g,k * 5,none⟩=some (.bool (l.getD k sl0).u)/\y.cell? ⟨g,k * 5+1,none⟩=some (.int .i64 (l.getD k sl0).a)/\y.cell? ⟨g,k * 5+2,none⟩=some (.int .i64 (l.getD k sl0).p)/\y.cell? ⟨g,k * 5+3,none⟩=some (.int .i64 (l.getD k sl0).v)/\y.cell? ⟨g,k * 5+4,none⟩=some (.int .i64 (l.getD k sl0).t)):=by
  intro k hk
  rcases J.out with⟨h0,h1⟩|⟨g,G,i,M,q⟩
  ·omega
  ·refine⟨g,G,(q.lt g rfl).2, ?_⟩
   rcases ownL.rd (L:=Q0u) q with h|⟨b,ar,e,x,r⟩
   ·rw[i,HN.out,h]at hk;exact absurd hk (KMq _)
   ·injection e with e
    injection e with e1 e2 _;subst e1 e2
    have m:k < l.length:=by rw[<-HN.out,<-i];exact hk
    have q0:=r k m 0 (by decide);have q1:=r k m 1 (by decide);have q2:=r k m 2 (by decide);have q3:=r k m 3 (by decide);have q4:=r k m 4 (by decide);rw[Nat.zero_add]at q0 q1 q2 q3 q4;exact⟨q0,q1,q2,q3,q4⟩
 have ap:E<=1048576:=by have:=P.out.2;omega
 go_wp2
 go_loopw [5,16] (fun okv iv wr=> ∃k:Nat,k<=E/\iv=.int .i64 (k:Int)/\okv=.bool (tk && (l.take k).all isV)/\Hid (Below V.heap.size V wr))
  (fun _ iv _=>E - (intOf iv).toNat)
 case atStart=>exact⟨0,Kcq _,rfl,by simp,KBq⟩
 case round=>
  rename World=>wr
  obtain⟨k,m,rfl,rfl,f⟩:=hrel
  by_cases hlt:k < E
  ·have an:(k:Int) < (E:Int):=by omega
   obtain⟨g,rfl,G,a0,a1,a2,a3,a4⟩:=ah.out k hlt;have A:=Q00 (ae.trans (f.out.mono (KIq am)));replace a0:=(A.out.cell (p:=⟨g,k * 5,none⟩) G).trans a0;replace a1:=(A.out.cell (p:=⟨g,k * 5+1,none⟩) G).trans a1;replace a2:=(A.out.cell (p:=⟨g,k * 5+2,none⟩) G).trans a2;replace a3:=(A.out.cell (p:=⟨g,k * 5+3,none⟩) G).trans a3;replace a4:=(A.out.cell (p:=⟨g,k * 5+4,none⟩) G).trans a4;have aa:=Q00 (Qf6 l k (by have:=P.out.2;omega));generalize l.getD k sl0=s at *;obtain⟨su,sa,sp,N,st⟩:=s;dsimp only at a0 a1 a2 a3 a4
   obtain⟨ag,D⟩:∃b,(tk && (l.take k).all isV)=b:=⟨_,rfl⟩
   have Z:Hid ((tk && (l.take (k+1)).all isV)=(ag && isV ⟨su,sa,sp,N,st⟩)):=by unfold Hid;rw[aa.out,<-D,Bool.and_assoc]
   rw[D];clear D aa;obtain⟨W5,ac⟩:∃W,wr.alloc (.cells #[.bool su,.int .i64 sa,.int .i64 sp,.int .i64 N,.int .i64 st] 271)=W:=⟨_,rfl⟩;have ad:=alb0v0v1 ac
   have y3:W5.cell? ⟨wr.heap.size,3,none⟩=some (.int .i64 N):=by rw[<-ac];simp[go_sem]
   have I:=Q00 (f.out.trans (ad.mono f.out.size));clear ad
   cases ag with
   |false=>
    go_wp2;go_roundw
    case rel=>exact⟨k+1,by omega,by go_num,by rw[Z.out];rfl,I.out⟩
    case measure=>simp[intOf];omega
   |true=>
    have ai:=Q00 (Q1U N W5);have aj:=Q00 (show isV ⟨su,sa,sp,N,st⟩=(decide (0<=N) && decide (N < 6))from rfl);generalize (decide (0<=N) && decide (N < 6))=ib at *;go_wp2_with fail;refine ai.out.mono ?_;rintro e _ ⟨rfl,rfl⟩;go_wp2;go_roundw
    case rel=>exact⟨k+1,by omega,by go_num,by rw[Z.out,aj.out];rfl,I.out⟩
    case measure=>simp[intOf];omega
  ·have e:k=E:=by omega
   subst e;have I:=Q00 (H.out.trans (f.out.mono H.out.size));have y0:=(f.out.cell (p:=⟨y.heap.size,0,none⟩) zf).trans f0;have hr:=(f.out.cell (p:=⟨w.heap.size+1,0,none⟩) F).trans r0;have ao:=(f.out.frozen (p:=⟨w.heap.size+1,0,none⟩) F).trans z
   have ak:Hid (Q0k l=true->∃g,U=some ⟨g,0,none⟩/\k=l.length/\X=l.length/\ownL Q0u Q3m (wr.setCell ⟨w.heap.size+1,0,none⟩ (.slice U k X)) w.heap.size (.slice (some ⟨g,0,none⟩) l.length l.length) l):=by
    intro ht
    rcases J.out with⟨h0,h1⟩|⟨g,G,i,M,q⟩
    ·rw[<-al.out,ht]at h1;cases h1
    ·rw[HN.out]at i M q;exact⟨g,G,i,M,Q06 (ownsRow_setCell_below (Q0a (Q0a q ae) f.out) (show w.heap.size+1 < W0.heap.size from af) _) (KIq (Nat.lt_of_succ_lt af))⟩
   rw[P.out.1];go_wp2;refine bodyPost_ret (v:=.tuple #[tab (.slice U k X),.bool (Q7D l)]) (by simp[results,Tryz.results160,go_sem,hr]) rfl ⟨U,k,X,rfl,ak.out,I.out.setCell (p:=⟨w.heap.size+1,0,none⟩) (Nat.le_succ _) _⟩
end Go.Proofs.YteffhdcankkfkaaGreat
