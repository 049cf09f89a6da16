/- Hints out of a table: the program's hintsFrom. -/
import Derived.Test.YtpneolgdghbinaaGreatQLearnsL08
import Derived.Test.YtpneolgdghbinaaGreatQLearnsL10
namespace Go.Proofs.YtpneolgdghbinaaGreat
open Go.ChangeShapes Go.WideShapes Go.ChangeAt Go.RowKit Go.Joins
set_option linter.unusedVariables false
set_option linter.unusedSimpArgs false
set_option maxRecDepth 100000
set_option maxHeartbeats 40000000
def isV (s:Sl):Bool:=decide (0≤s.v) && decide (s.v < 6)
def Q6Q (l:List Sl):Bool:=Q0c l && l.all isV
theorem QdZ (l:List Sl) (k:Nat) (h:k < l.length):(l.take (k+1)).all isV=((l.take k).all isV && isV (l.getD k sl0)):=by
 rw [List.take_succ_eq_append_getElem h,List.all_append];simp [h]
theorem Q9M (o:Option Addr) (n c:Nat) (l:List Sl) (w:World) (hn:n=l.length) (hR:RdS w.heap.size w o l) (hl:l.length≤1048576):
  Calls Tryz.prog 85 #[tab (.slice o n c)] w fun e w'=> ∃o' n' c',e=.returned (.tuple #[tab (.slice o' n' c'),.bool (Q6Q l)])∧(Q0c l=true→∃g,o'=some ⟨g,0,none⟩∧n'=l.length∧c'=l.length∧ownL Q0g Q1H w' w.heap.size (.slice (some ⟨g,0,none⟩) l.length l.length) l)∧Below w.heap.size w w':=by
 have ad:=Q01 (fun W (x:Below w.heap.size w W)=> Q99 o c l W ((hR.kept x (Kaq _)).le x.size) hl);have R:=Q01 (show Q6Q l=(Q0c l && l.all isV) from rfl);rw [←hn] at ad;have HN:=Q01 hn;clear hR hn;obtain ⟨Z,m⟩:∃W,((w.alloc (.cells #[.slice o n c] 32)).alloc (.cells #[.slice none 0 0] 91))=W:=⟨_,rfl⟩;have z:=alb0v0v2 m;have N:=Q01 z;clear z;have Y:=alz0v0v2 m
 have z0:Z.cell? ⟨w.heap.size,0,none⟩=some (.slice o n c):=by rw [←m];simp [go_sem]
 have C:=alz0v1v2 m
 have r0:Z.cell? ⟨w.heap.size+1,0,none⟩=some (.slice none 0 0):=by rw [←m];simp [go_sem]
 have B:Z.frozen? ⟨w.heap.size+1,0,none⟩=false:=by rw [←m];simp [go_sem]
 have ac:=C;go_enter Tryz.func85,Tryz.ntmps85;go_wp2_with fail;refine (ad.out Z N.out).mono ?_;rintro e y ⟨P,D,X,rfl,O,x⟩;have J:=Q01 O;clear O;have ap:=x.size;replace z0:=bKq0v0v0 x z0 Y;replace Y:w.heap.size < y.heap.size:=Kbq Y x.size;replace r0:=bKq0v0v0 x r0 C;replace B:y.frozen? ⟨w.heap.size+1,0,none⟩=false:=(x.frozen (p:=⟨w.heap.size+1,0,none⟩) C).trans B;replace C:w.heap.size+1 < y.heap.size:=Kbq C x.size;replace N:=Q01 (N.out.trans (x.mono N.out.size));clear x;obtain ⟨V,E⟩:∃W,(y.alloc (.cells #[.slice P D X] 89))=W:=⟨_,rfl⟩
 have d:=alb0v0v1 E;replace z0:=bKq0v0v0 d z0 Y;replace Y:w.heap.size < V.heap.size:=Kbq Y d.size;replace r0:=bKq0v0v0 d r0 C;replace B:V.frozen? ⟨w.heap.size+1,0,none⟩=false:=(d.frozen (p:=⟨w.heap.size+1,0,none⟩) C).trans B;replace C:w.heap.size+1 < V.heap.size:=Kbq C d.size;replace N:=Q01 (N.out.trans (d.mono N.out.size));clear d;have zf:=alz0v0v1 E
 have f0:V.cell? ⟨y.heap.size,0,none⟩=some (.slice P D X):=by rw [←E];simp [go_sem]
 have ak:=alz0v0v1 E;have ag:=alb0v0v1 E;obtain ⟨tk,U⟩:∃b,Q0c l=b:=⟨_,rfl⟩;rw [U] at J R ⊢;have ai:=Q01 U;clear U
 have T:Hid ((tk && (l.take D).all isV)=Q6Q l∧D≤l.length):=by
  rcases J.out with ⟨h0,h1⟩|⟨g,G,i,I,j⟩
  ·rw [R.out,h0,h1];exact ⟨rfl,Kcq _⟩
  ·rw [R.out,i,HN.out,List.take_length];exact ⟨rfl,Kaq _⟩
 have am:Hid (∀k,k < D→∃g,P=some ⟨g,0,none⟩∧g < y.heap.size∧y.cell? ⟨g,k * 5,none⟩=some (.bool (l.getD k sl0).u)∧y.cell? ⟨g,k * 5+1,none⟩=some (.int .i64 (l.getD k sl0).a)∧y.cell? ⟨g,k * 5+2,none⟩=some (.int .i64 (l.getD k sl0).p)∧y.cell? ⟨g,k * 5+3,none⟩=some (.int .i64 (l.getD k sl0).v)∧y.cell? ⟨g,k * 5+4,none⟩=some (.int .i64 (l.getD k sl0).t)):=by
  intro k hk
  rcases J.out with ⟨h0,h1⟩|⟨g,G,i,I,j⟩
  ·omega
  ·refine ⟨g,G,(j.lt g rfl).2, ?_⟩
   rcases ownL.rd (L:=Q0g) j with h|⟨b,off,e,x,r⟩
   ·rw [i,HN.out,h] at hk;exact absurd hk (Nat.not_lt_zero _)
   ·injection e with e
    injection e with e1 e2 _;subst e1 e2
    have q:k < l.length:=by rw [←HN.out,←i];exact hk
    have q0:=r k q 0 (by decide);have q1:=r k q 1 (by decide);have q2:=r k q 2 (by decide);have q3:=r k q 3 (by decide);have q4:=r k q 4 (by decide);rw [Nat.zero_add] at q0 q1 q2 q3 q4;exact ⟨q0,q1,q2,q3,q4⟩
 have ar:D≤1048576:=by have:=T.out.2;omega
 go_wp2
 go_loopw [5,16] (fun okv iv wr=> ∃k:Nat,k≤D∧iv=.int .i64 (k:Int)∧okv=.bool (tk && (l.take k).all isV)∧Hid (Below V.heap.size V wr))
  (fun _ iv _=> D - (intOf iv).toNat)
 case atStart=> exact ⟨0,Kcq _,rfl,by simp,Below.refl _ _⟩
 case round=>
  rename World=> wr
  obtain ⟨k,q,rfl,rfl,f⟩:=hrel
  by_cases hlt:k < D
  ·have ao:(k:Int) < (D:Int):=by omega
   obtain ⟨g,rfl,G,a0,a1,a2,a3,a4⟩:=am.out k hlt;have F:=Q01 (ag.trans (f.out.mono (Nat.le_of_lt ak)));replace a0:=(F.out.cell (p:=⟨g,k * 5,none⟩) G).trans a0;replace a1:=(F.out.cell (p:=⟨g,k * 5+1,none⟩) G).trans a1;replace a2:=(F.out.cell (p:=⟨g,k * 5+2,none⟩) G).trans a2;replace a3:=(F.out.cell (p:=⟨g,k * 5+3,none⟩) G).trans a3;replace a4:=(F.out.cell (p:=⟨g,k * 5+4,none⟩) G).trans a4;have ah:=Q01 (QdZ l k (by have:=T.out.2;omega));generalize l.getD k sl0=s at *;obtain ⟨su,sa,sp,M,st⟩:=s;dsimp only at a0 a1 a2 a3 a4
   obtain ⟨ab,A⟩:∃b,(tk && (l.take k).all isV)=b:=⟨_,rfl⟩
   have aa:Hid ((tk && (l.take (k+1)).all isV)=(ab && isV ⟨su,sa,sp,M,st⟩)):=by unfold Hid;rw [ah.out,←A,Bool.and_assoc]
   rw [A];clear A ah;obtain ⟨W5,ae⟩:∃W,wr.alloc (.cells #[.bool su,.int .i64 sa,.int .i64 sp,.int .i64 M,.int .i64 st] 165)=W:=⟨_,rfl⟩;have af:=alb0v0v1 ae
   have y3:W5.cell? ⟨wr.heap.size,3,none⟩=some (.int .i64 M):=by rw [←ae];simp [go_sem]
   have H:=Q01 (f.out.trans (af.mono f.out.size));clear af
   cases ab with
   |false=>
    go_wp2;go_roundw
    case rel=> exact ⟨k+1,by omega,by go_num,by rw [aa.out];rfl,H.out⟩
    case measure=> simp [intOf];omega
   |true=>
    have an:=Q01 (Q2F M W5);have al:=Q01 (show isV ⟨su,sa,sp,M,st⟩=(decide (0≤M) && decide (M < 6)) from rfl);generalize (decide (0≤M) && decide (M < 6))=ib at *;go_wp2_with fail;refine an.out.mono ?_;rintro e _ ⟨rfl,rfl⟩;go_wp2;go_roundw
    case rel=> exact ⟨k+1,by omega,by go_num,by rw [aa.out,al.out];rfl,H.out⟩
    case measure=> simp [intOf];omega
  ·have e:k=D:=by omega
   subst e;have H:=Q01 (N.out.trans (f.out.mono N.out.size));have y0:=(f.out.cell (p:=⟨y.heap.size,0,none⟩) zf).trans f0;have hr:=(f.out.cell (p:=⟨w.heap.size+1,0,none⟩) C).trans r0;have aq:=(f.out.frozen (p:=⟨w.heap.size+1,0,none⟩) C).trans B
   have aj:Hid (Q0c l=true→∃g,P=some ⟨g,0,none⟩∧k=l.length∧X=l.length∧ownL Q0g Q1H (wr.setCell ⟨w.heap.size+1,0,none⟩ (.slice P k X)) w.heap.size (.slice (some ⟨g,0,none⟩) l.length l.length) l):=by
    intro ht
    rcases J.out with ⟨h0,h1⟩|⟨g,G,i,I,j⟩
    ·rw [←ai.out,ht] at h1;cases h1
    ·rw [HN.out] at i I j;exact ⟨g,G,i,I,Q04 (ownsRow_setCell_below (Q03 (Q03 j ag) f.out) (show w.heap.size+1 < Z.heap.size from ac) _) (Nat.le_of_lt (Nat.lt_of_succ_lt ac))⟩
   rw [T.out.1];go_wp2;refine bodyPost_ret (v:=.tuple #[tab (.slice P k X),.bool (Q6Q l)]) (by simp [results,Tryz.results85,go_sem,hr]) rfl ⟨P,k,X,rfl,aj.out,H.out.setCell (p:=⟨w.heap.size+1,0,none⟩) (Nat.le_succ _) _⟩
end Go.Proofs.YtpneolgdghbinaaGreat
