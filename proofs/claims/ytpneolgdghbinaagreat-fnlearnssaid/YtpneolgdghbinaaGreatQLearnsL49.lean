/- Several texts in one: SBTick, SLearnH, SBLearn, BalUse. -/
import Derived.Test.YtpneolgdghbinaaGreatQLearnsL43
import Derived.Test.YtpneolgdghbinaaGreatQLearnsL48
import Derived.Test.YtpneolgdghbinaaGreatQLearnsL42
namespace Go.Proofs.YtpneolgdghbinaaGreat
open Go.ChangeShapes Go.WideShapes Go.ChangeAt Go.RowKit Go.Joins
set_option linter.unusedVariables false
set_option linter.unusedSimpArgs false
set_option maxRecDepth 100000
set_option maxHeartbeats 40000000
theorem Bx.turn {lo:Nat} {w b:World} {g a:Nat} {k:Int} {i:Value} {c l:Int} {f d:Value} {m:Bm} {t:List Sl} (h:Bx lo w g a k i c l f d m) (s:Stp g (g+1) w b) (B:t.length=m.t.length) (base:Nat) (G:lo≤base) (y:b.ownsRow base Q1H 5 (.slice (some ⟨g,0,none⟩) m.t.length a) m.t.length (t.flatMap Q0g.cs)):Bx lo b g a k i c l f d ⟨m.j,m.p,t⟩:=by
 obtain ⟨H,h2,x,_,⟨u,F,r,v,z,J,E,I,A,D,q,n,C⟩⟩:=h;have hs:=s.size;exact ⟨H,h2,x,⟨base,G,by dsimp only;rw [B];exact y⟩,⟨u,F,r,v,z,by omega,E,by omega,A,D,q,n.step s (by omega),C.step s (by omega)⟩⟩
theorem Qj3 {lo:Nat} {w:World} {g a:Nat} {j:Int} {i:Value} {b f:Int} {d c:Value} {m:Bm} (h:Bx lo w g a j i b f d c m):∃base,lo≤base∧w.ownsRow base Q1H 5 (.slice (some ⟨g,0,none⟩) m.t.length a) m.t.length (m.t.flatMap Q0g.cs):=h.row
theorem QeR {l:List Sl} {a p:Int} (b:Q0c l=true) (h:(Q0Z l a p).1 < 0):¬Qfk l:=fun i=> by
 have j:=(Q07.1 b).1;have d:=Q1o (show 0 < l.length by omega) a p;have c:(l.getD (Q0S l.length a p) sl0).u=false:=i _ d;obtain ⟨n,g⟩:∃n,l.length=n+1:=⟨l.length - 1,by omega⟩
 have e:Q0Z l a p=((Q0S l.length a p:Int),false):=by
  unfold Q0Z;have:=Q2I (a:=a) (p:=p) (f:=n) c;rw [←g] at this;exact this
 rw [e] at h;dsimp only at h;omega
theorem Q8J (l:List Sl):∀k,k≤l.length→(Q4g l k=sl0∧∀j,j < k→(at' l j).u=false)∨∃j,j < k∧Q4g l k=at' l j∧(at' l j).u=true∧∀i,i < k→(at' l i).u=true→(at' l j).t < (at' l i).t∨((at' l j).t=(at' l i).t∧j≤i)
 |0,_=> .inl ⟨rfl,fun j g=> absurd g (Nat.not_lt_zero _)⟩
 |k+1,hk=> by
  have f:=Q8J l k (by omega);rw [Q59 (by omega)];have m:l.getD k sl0=at' l k:=rfl;rw [m]
  cases hu:(at' l k).u with
  |false=>
   rw [Q3W hu]
   rcases f with ⟨b,h2⟩|⟨j,b,h2,c,d⟩
   ·refine .inl ⟨b,fun j g=> ?_⟩
    rcases Nat.lt_or_ge j k with h|h
    ·exact h2 j h
    ·rw [show j=k by omega];exact hu
   ·refine .inr ⟨j,by omega,h2,c,fun i hi a=> ?_⟩
    rcases Nat.lt_or_ge i k with h|h
    ·exact d i h a
    ·rw [show i=k by omega] at a;rw [a] at hu;cases hu
  |true=>
   rcases f with ⟨b,h2⟩|⟨j,b,h2,c,d⟩
   ·rw [b,Q3n hu rfl]
    refine .inr ⟨k,by omega,rfl,hu,fun i hi a=> ?_⟩
    rcases Nat.lt_or_ge i k with h|h
    ·rw [h2 i h] at a;cases a
    ·rw [show i=k by omega];exact .inr ⟨rfl,Kaq _⟩
   ·rw [h2]
    by_cases hlt:(at' l k).t < (at' l j).t
    ·rw [Q3S hu hlt]
     refine .inr ⟨k,by omega,rfl,hu,fun i hi a=> ?_⟩
     rcases Nat.lt_or_ge i k with h|h
     ·have:=d i h a;left;omega
     ·rw [show i=k by omega];exact .inr ⟨rfl,Kaq _⟩
    ·rw [Q3Y c hlt]
     refine .inr ⟨j,by omega,rfl,c,fun i hi a=> ?_⟩
     rcases Nat.lt_or_ge i k with h|h
     ·exact d i h a
     ·rw [show i=k by omega];omega
theorem Qfc {l:List Sl} {j:Nat} (k:l.length≤16) (n:∀i,i < l.length→(at' l i).u=true→0≤(at' l i).t) (h:Qb4 l 0 j):Q2d l=at' l j:=by
 obtain ⟨d,b,p⟩:=h
 have a:∀i,i < l.length→(at' l i).u=true→lvT l 0 i=(at' l i).t:=fun i hi c=> by have:=n i hi c;unfold lvT;omega
 unfold Q2d
 rcases Q8J l l.length (Kaq _) with ⟨_,h2⟩|⟨i,g,h2,f,q⟩
 ·rw [h2 j d] at b;cases b
 ·rw [h2]
  have r:=q j d b;have m:=p i g f;rw [a j d b,a i g f] at m;rw [show i=j by omega]
theorem Qif {l:List Sl} (h:Q0c l=true):∀i,i < l.length→(at' l i).u=true→0≤(at' l i).t:=fun i hi b=> by
 have a:=(Q07.1 h).2.2 i hi;unfold Q3s at a;have h2:Q2g (at' l i)=true:=((Bool.and_eq_true _ _).mp a).1;exact ((Q3M b).1 h2).2.2.2.1
theorem Qdl {l:List Sl} {now a p v:Int} {j:Nat} (b:Q0c l=true) (d:(Q0Z l a p).1 < 0) (h:Qb4 l 0 j):Q1K l now a p v=Q4c (Q1F l j) a p v (now+50):=by
 have c:l.length≤16:=by have:=(Q07.1 b).2.1;omega
 unfold Q1K;rw [if_neg (by omega),Qfc c (Qif b) h,Q5H (Qf2 b h.1 h.2.1)]
theorem QdN {l:List Sl} {now a p v:Int} (hf:0≤(Q0Z l a p).1):Q1K l now a p v=Q4c l a p v (now+50):=by unfold Q1K;rw [if_pos hf]
theorem QdF (g c base n:Nat) (l:List Sl) (now a p v:Int) (w:World) (hn:l.length=n) (D:Q0c l=true) (hf:Q0h a p=true) (ai:0≤now∧now≤100000) (ho:w.ownsRow base Q1H 5 (.slice (some ⟨g,0,none⟩) n c) n (l.flatMap Q0g.cs)):
  Calls Tryz.prog 62 #[tab (.slice (some ⟨g,0,none⟩) n c),Q6c a p,.int .i64 v,.int .i64 now] w fun e w'=> e=.returned (.tuple #[])∧w'.ownsRow base Q1H 5 (.slice (some ⟨g,0,none⟩) n c) n ((Q1K l now a p v).flatMap Q0g.cs)∧Stp g (g+1) w w':=by
 have ar:=(ho.lt g rfl).2
 have ab:1≤n∧n≤16:=by have:=(Q07.1 D);omega
 obtain ⟨B,q⟩:∃W,(((w.alloc (.cells #[.slice (some ⟨g,0,none⟩) n c] 91)).alloc (.cells #[.int .i64 a,.int .i64 p] 36)).alloc (.cells #[.int .i64 v,.int .i64 (now+50)] 138))=W:=⟨_,rfl⟩
 have ap:B.heap.size=w.heap.size+3:=by rw [←q];simp
 have G:=alb0v0v3 q
 have z0:B.cell? ⟨w.heap.size,0,none⟩=some (.slice (some ⟨g,0,none⟩) n c):=by rw [←q];simp [go_sem]
 obtain ⟨z1,z2⟩:=alc2v1v3 q
 have z3:B.cell? ⟨w.heap.size+2,0,none⟩=some (.int .i64 v):=by rw [←q];simp [go_sem]
 have z4:B.cell? ⟨w.heap.size+2,1,none⟩=some (.int .i64 (now+50)):=by rw [←q];simp [go_sem]
 have HO:=Q01 (Q03 ho G);have m:=Q01 (Qe5 g c base l a p v (now+50) B (by omega) (by omega) hf (by rw [hn];exact HO.out));rw [hn] at m;have Y:=Q01 (Stp.of (lo:=g) (hi:=g+1) G);have F:=Q01 D;have R:=Q01 hn;have HF:=Q01 hf;clear ho G D hn hf;obtain ⟨r,hr⟩:∃r,decide (0≤(Q0Z l a p).1)=r:=⟨_,rfl⟩;have HR:=Q01 hr;rw [hr] at m;clear hr;go_enter Tryz.func62,Tryz.ntmps62;go_wp2_with fail;refine m.out.mono ?_;rintro e w1 ⟨rfl,i,b⟩
 have q0:w.heap.size < B.heap.size:=by omega
 have q1:w.heap.size+1 < B.heap.size:=by omega
 have q2:w.heap.size+2 < B.heap.size:=by omega
 have O:=b.cell z0 q0 (.inr (by omega));have J:=b.cell z1 q1 (.inr (by omega));have N:=b.cell z2 q1 (.inr (by omega));have M:=b.cell z3 q2 (.inr (by omega));have L:=b.cell z4 q2 (.inr (by omega));have aj:=b.size;have t:=Q01 (Y.out.trans b);have H:=Q01 i;clear m b i z0 z1 z2 z3 z4 HO Y
 cases r with
 |true=>
  have HL:=Q01 (QdN (now:=now) (v:=v) (of_decide_eq_true HR.out));go_wp2
  first|go_end0|refine bodyPost_ret (results_none rfl _ _ _) rfl ?_
  exact ⟨rfl,by rw [HL.out];exact H.out,t.out⟩
 |false=>
  have s:(Q0Z l a p).1 < 0:=by have:=of_decide_eq_false HR.out;omega
  have i:=H.out;rw [show Q4c l a p v (now+50)=l by unfold Q4c;rw [if_neg (by omega)]] at i;have aa:=Q01 (Qaq g 0 c n l 0 w1 R.out ab.2 (i.lt g rfl).2 (Q1t i R.out.symm));have U:=Q01 i;have ag:=Q01 (QeR F.out s);have ah:=Q01 (fun j (h:Qb4 l 0 j)=> Qdl (now:=now) (v:=v) F.out s h);clear i H s HR;go_wp2_with fail;refine aa.out.mono ?_;rintro e A ⟨ht,f⟩
  rcases ht with ⟨j,E,rfl⟩|⟨h,_⟩
  case inr=> exact absurd h ag.out
  have af:=Q01 E
  have ad:j < n:=by have:=E.1;have:=R.out;omega
  have r0:w.heap.size < w1.heap.size:=by omega
  have r1:w.heap.size+1 < w1.heap.size:=by omega
  have r2:w.heap.size+2 < w1.heap.size:=by omega
  replace O:=(f.cell (p:=⟨w.heap.size,0,none⟩) r0).trans O;replace J:=(f.cell (p:=⟨w.heap.size+1,0,none⟩) r1).trans J;replace N:=(f.cell (p:=⟨w.heap.size+1,1,none⟩) r1).trans N;replace M:=(f.cell (p:=⟨w.heap.size+2,0,none⟩) r2).trans M;replace L:=(f.cell (p:=⟨w.heap.size+2,1,none⟩) r2).trans L;have ao:=f.size;obtain ⟨lv,V⟩:∃x,lvT l 0 j=x:=⟨_,rfl⟩;rw [V];obtain ⟨W3,u⟩:∃W,(A.alloc (.cells #[.int .i64 lv,.int .i64 (j:Int)] 172))=W:=⟨_,rfl⟩;have k:=alb0v0v1 u;have al:=alz0v0v1 u
  have x1:W3.cell? ⟨A.heap.size,1,none⟩=some (.int .i64 (j:Int)):=by rw [←u];simp [go_sem]
  have x0:W3.cell? ⟨A.heap.size,0,none⟩=some (.int .i64 lv):=by rw [←u];simp [go_sem]
  replace O:=(k.cell (p:=⟨w.heap.size,0,none⟩) (show w.heap.size < A.heap.size by omega)).trans O;replace J:=(k.cell (p:=⟨w.heap.size+1,0,none⟩) (show w.heap.size+1 < A.heap.size by omega)).trans J;replace N:=(k.cell (p:=⟨w.heap.size+1,1,none⟩) (show w.heap.size+1 < A.heap.size by omega)).trans N;replace M:=(k.cell (p:=⟨w.heap.size+2,0,none⟩) (show w.heap.size+2 < A.heap.size by omega)).trans M;replace L:=(k.cell (p:=⟨w.heap.size+2,1,none⟩) (show w.heap.size+2 < A.heap.size by omega)).trans L;have P:=Q01 (Q03 (Q03 U.out f) k)
  have z:=Q01 ((t.out.trans (Stp.of f)).trans (Stp.of k));have T:=Q01 (QdB g c base n j l W3 R.out ab.2 ad (Q2j F.out) P.out);clear f k aa E U t V;go_wp2_with fail;refine T.out.mono ?_;rintro e w4 ⟨⟨v9,rfl⟩,Z,d⟩;have ak:=d.cell O (by omega) (.inr (by omega));have an:=d.cell J (by omega) (.inr (by omega));have au:=d.cell N (by omega) (.inr (by omega));have aq:=d.cell M (by omega) (.inr (by omega));have am:=d.cell L (by omega) (.inr (by omega))
  have I:(Q1F l j).length=n:=by rw [Q2t];exact R.out
  have m:=Q01 (Qe5 g c base (Q1F l j) a p v (now+50) w4 (by omega) (by omega) HF.out (by rw [I];exact Z));rw [I] at m;have y:=Q01 (z.out.trans d);clear I T Z d P z O J N M L x0 x1;go_wp2_with fail;refine m.out.mono ?_;rintro e w5 ⟨rfl,ac,C⟩;have ae:=Q01 ac;have X:=Q01 (y.out.trans C);have HL:=Q01 (ah.out j af.out);clear ac C m y;go_wp2
  first|go_end0|refine bodyPost_ret (results_none rfl _ _ _) rfl ?_
  exact ⟨rfl,by rw [HL.out];exact ae.out,X.out⟩
theorem Q9x (N:Int) (o:Option Addr) (nj c:Nat) (O E:Int) (ob:Option Addr) (np cb:Nat) (oR:Option Addr) (nr cR:Nat) (ot:Option Addr) (nt ct:Nat) (P:List Cd) (lb:List Bk) (R:List (List (List Int))) (lt:List Sl) (now a p v:Int) (w:World)
  (av:nj=P.length) (aw:nt=lt.length) (h1:RdC w.heap.size w o P) (aJ:o=none→c=0) (h2:Q86 w.heap.size w (plv E (.slice ob np cb) (.slice oR nr cR)) ⟨E,lb,R⟩) (h4:RdS w.heap.size w ot lt) (hf:Q6L ⟨⟨N,P,O⟩,⟨E,lb,R⟩,lt⟩):
  Calls Tryz.prog 22 #[Q13 N (.slice o nj c) O E (.slice ob np cb) (.slice oR nr cR) (.slice ot nt ct),.int .i64 now,Q6c a p,.int .i64 v] w fun e w'=> ∃v',e=.returned (.tuple #[v',.bool (Q5x ⟨⟨N,P,O⟩,⟨E,lb,R⟩,lt⟩ now a p v)])∧InBm w.heap.size w'.heap.size w' v' (Q2p ⟨⟨N,P,O⟩,⟨E,lb,R⟩,lt⟩ now a p v)∧Below w.heap.size w w':=by
 have aj:=Q01 (fun W (d:Below w.heap.size w W)=> Q2P N o nj c O E ob np cb oR nr cR ot nt ct P lb R lt W av aw ((h1.kept d (Kaq _)).le d.size) aJ ((h2.kept d (Kaq _)).le d.size) ((h4.kept d (Kaq _)).le d.size) hf);have f7:lt.length≤1048576:=hf.2.2;have ac:=Q01 (fun h=> Q40 (m:=⟨⟨N,P,O⟩,⟨E,lb,R⟩,lt⟩) h);have ad:=Q01 (fun h=> Q2x (m:=⟨⟨N,P,O⟩,⟨E,lb,R⟩,lt⟩) h);have ae:=Q01 (fun h=> Q1N (m:=⟨⟨N,P,O⟩,⟨E,lb,R⟩,lt⟩) h)
 have HM:=Q01 (show Q2p ⟨⟨N,P,O⟩,⟨E,lb,R⟩,lt⟩ now a p v=if (Q2h ⟨⟨N,P,O⟩,⟨E,lb,R⟩,lt⟩ && ((decide (0≤now) && decide (now≤100000)) && (Q0h a p && (decide (0≤v) && decide (v < 6)))))=true then ⟨⟨N,P,O⟩,⟨E,lb,R⟩,Q1K lt now a p v⟩ else bm0 from rfl);have Z:=Q01 (show Q5x ⟨⟨N,P,O⟩,⟨E,lb,R⟩,lt⟩ now a p v=(Q2h ⟨⟨N,P,O⟩,⟨E,lb,R⟩,lt⟩ && ((decide (0≤now) && decide (now≤100000)) && (Q0h a p && (decide (0≤v) && decide (v < 6))))) from rfl);dsimp only at ac ad ae;clear h1 h2 h4 av aw hf;obtain ⟨bb,ap⟩:∃x,Q2h ⟨⟨N,P,O⟩,⟨E,lb,R⟩,lt⟩=x:=⟨_,rfl⟩
 obtain ⟨mr,al⟩:∃r,Q2p ⟨⟨N,P,O⟩,⟨E,lb,R⟩,lt⟩ now a p v=r:=⟨_,rfl⟩;obtain ⟨Y,ak⟩:∃r,Q5x ⟨⟨N,P,O⟩,⟨E,lb,R⟩,lt⟩ now a p v=r:=⟨_,rfl⟩
 have ai:Hid ((decide (0≤now) && decide (now≤100000))=true→0≤now∧now≤100000):=fun h=> by simpa using h
 obtain ⟨sb,ax⟩:∃r,(decide (0≤now) && decide (now≤100000))=r:=⟨_,rfl⟩;have aE:Hid (Q0h a p=Q0h a p):=rfl;obtain ⟨fb,ar⟩:∃r,Q0h a p=r:=⟨_,rfl⟩;obtain ⟨aN,aB⟩:∃r,(decide (0≤v) && decide (v < 6))=r:=⟨_,rfl⟩;have au:=Q01 (fun W=> Q31 now W);have aD:=Q01 (fun W=> Q0N a p W);have aI:=Q01 (fun W=> Q2F v W);have ao:=Q01 (fun (g xc base:Nat) (W:World) (aa:Q0c lt=true) (aO:Q0h a p=true) (aF:0≤now∧now≤100000) (A:W.ownsRow base Q1H 5 (.slice (some ⟨g,0,none⟩) lt.length xc) lt.length (lt.flatMap Q0g.cs))=> QdF g xc base lt.length lt now a p v W rfl aa aO aF A);rw [al,ak]
 rw [ap] at aj ac ad ae HM Z;rw [al] at HM;rw [ak] at Z;rw [ax] at HM Z au ai;rw [ar] at HM Z aD ao;rw [aB] at HM Z aI;clear ap al ak ax ar aB aE;obtain ⟨W0,T⟩:∃W,(((w.alloc (.cells #[.int .i64 N,.slice o nj c,.int .i64 O,.int .i64 E,.slice ob np cb,.slice oR nr cR,.slice ot nt ct] 34)).alloc (.cells #[.int .i64 a,.int .i64 p] 36)).alloc (.cells #[.int .i64 0,.slice none 0 0,.int .i64 0,.int .i64 0,.slice none 0 0,.slice none 0 0,.slice none 0 0] 34))=W:=⟨_,rfl⟩;have X:=alb0v0v3 T;have k:=Q01 X;clear X;have i:=alz0v0v3 T
 obtain ⟨V,z1,z2,z3,z4,z5,z6⟩:=alc7v0v3 T;have B:=alz0v1v3 T;obtain ⟨c0,c1⟩:=alc2v1v3 T;have f:=alz0v2v3 T;obtain ⟨H,M,G,J,L,F,I⟩:=alc7v2v3 T;obtain ⟨u,q,y,t,l,s,n⟩:=alf7v2v3 T;have aZ:w.heap.size+1+1 < W0.heap.size:=f;go_enter Tryz.func22,Tryz.ntmps22;go_wp2_with fail;refine (aj.out W0 k.out).mono ?_;rintro e v1 ⟨xo,xn,xc,kq,yo,yn,yc,sq,kr,uo,un,uc,vo,vn,vc,rfl,ay,d⟩;have am:=Q01 ay;have aR:=d.size;clear ay aj;replace V:=bC d V i;replace z1:=bC d z1 i;replace z2:=bC d z2 i;replace z3:=bC d z3 i;replace z4:=bC d z4 i
 replace z5:=bC d z5 i;replace z6:=bC d z6 i;replace i:=Kbq i d.size;replace c0:=bC d c0 B;replace c1:=bC d c1 B;replace B:=Kbq B d.size;replace H:=bC d H f;replace M:=bC d M f;replace G:=bC d G f;replace J:=bC d J f;replace L:=bC d L f;replace F:=bC d F f;replace I:=bC d I f;replace u:=bF d u f;replace q:=bF d q f;replace y:=bF d y f;replace t:=bF d t f;replace l:=bF d l f;replace s:=bF d s f;replace n:=bF d n f;replace f:=Kbq f d.size;replace k:=Q01 (k.out.trans (d.mono k.out.size));clear d
 cases bb with
 |false=>
  obtain ⟨W2,C⟩:∃W,(v1.alloc (.cells #[.slice xo xn xc,.int .i64 kq,.slice yo yn yc,.int .i64 sq,.int .i64 kr,.slice uo un uc,.slice vo vn vc] 93))=W:=⟨_,rfl⟩;have b:=alb0v0v1 C;replace V:=bC b V i;replace z1:=bC b z1 i;replace z2:=bC b z2 i;replace z3:=bC b z3 i;replace z4:=bC b z4 i;replace z5:=bC b z5 i;replace z6:=bC b z6 i;replace i:=Kbq i b.size;replace c0:=bC b c0 B;replace c1:=bC b c1 B;replace B:=Kbq B b.size;replace H:=bC b H f;replace M:=bC b M f;replace G:=bC b G f;replace J:=bC b J f
  replace L:=bC b L f;replace F:=bC b F f;replace I:=bC b I f;replace u:=bF b u f;replace q:=bF b q f;replace y:=bF b y f;replace t:=bF b t f;replace l:=bF b l f;replace s:=bF b s f;replace n:=bF b n f;replace f:=Kbq f b.size;replace k:=Q01 (k.out.trans (b.mono k.out.size));clear b;have D:=alz0v0v1 C;obtain ⟨x0,x1,x2,x3,x4,x5,x6⟩:=alc7v0v1 C;clear am
  have e0:Y=false:=by rw [Z.out];simp
  subst e0;go_wp2;refine bodyPost_ret (v:=.tuple #[Q13 0 (.slice none 0 0) 0 0 (.slice none 0 0) (.slice none 0 0) (.slice none 0 0),.bool false]) (by simp [results,Tryz.results22,go_sem,H,M,G,J,L,F,I]) rfl ⟨_,rfl, ?_,Q0v k.out (by omega) _ _ _ _ _ _ _⟩;rw [HM.out,Q0C];exact Q6u _ _ _ (by have:=k.out.size;omega)
 |true=>
  have hn:=ac.out rfl;have aC:=ad.out rfl;have aa:=ae.out rfl;obtain ⟨g,rfl,rfl,a1,bx⟩:=Bx.of (am.out rfl) hn;rw [←aC] at bx;have z:=Q01 bx;have aH:=Q01 aa;clear bx am ac ad ae aC aa;obtain ⟨W2,C⟩:∃W,(v1.alloc (.cells #[.slice (some ⟨g,0,none⟩) lt.length xc,.int .i64 kq,.slice yo yn yc,.int .i64 sq,.int .i64 kr,.slice uo un uc,.slice vo vn vc] 93))=W:=⟨_,rfl⟩;have b:=alb0v0v1 C;replace V:=bC b V i;replace z1:=bC b z1 i;replace z2:=bC b z2 i;replace z3:=bC b z3 i;replace z4:=bC b z4 i;replace z5:=bC b z5 i;replace z6:=bC b z6 i
  replace i:=Kbq i b.size;replace c0:=bC b c0 B;replace c1:=bC b c1 B;replace B:=Kbq B b.size;replace H:=bC b H f;replace M:=bC b M f;replace G:=bC b G f;replace J:=bC b J f;replace L:=bC b L f;replace F:=bC b F f;replace I:=bC b I f;replace u:=bF b u f;replace q:=bF b q f;replace y:=bF b y f;replace t:=bF b t f;replace l:=bF b l f;replace s:=bF b s f;replace n:=bF b n f;replace f:=Kbq f b.size;replace k:=Q01 (k.out.trans (b.mono k.out.size))
  clear b;have D:=alz0v0v1 C;obtain ⟨x0,x1,x2,x3,x4,x5,x6⟩:=alc7v0v1 C;replace z:=Q01 (z.out.kept (show Below v1.heap.size v1 W2 by rw [←C];exact (Below.refl _ _).alloc (Kaq _) _));have aV:v1.heap.size < W2.heap.size:=D;have U:Hid _:=alx0v0v1 C;have ag:=au.out W2
  cases sb with
  |false=>
   go_wp2_with fail;refine ag.mono ?_;rintro e _ ⟨rfl,rfl⟩;clear ag z U
   have e0:Y=false:=by rw [Z.out];simp
   subst e0;go_wp2;refine bodyPost_ret (v:=.tuple #[Q13 0 (.slice none 0 0) 0 0 (.slice none 0 0) (.slice none 0 0) (.slice none 0 0),.bool false]) (by simp [results,Tryz.results22,go_sem,H,M,G,J,L,F,I]) rfl ⟨_,rfl, ?_,Q0v k.out (by omega) _ _ _ _ _ _ _⟩;rw [HM.out,Q0C];exact Q6u _ _ _ (by have:=k.out.size;omega)
  |true=>
   have ah:=aD.out W2;go_wp2_with fail;refine ag.mono ?_;rintro e _ ⟨rfl,rfl⟩;clear ag
   cases fb with
   |false=>
    go_wp2_with fail;refine (ah).mono ?_;rintro e v2 ⟨rfl,d⟩;clear z U;replace V:=bC d V i;replace z1:=bC d z1 i;replace z2:=bC d z2 i;replace z3:=bC d z3 i;replace z4:=bC d z4 i;replace z5:=bC d z5 i;replace z6:=bC d z6 i;replace i:=Kbq i d.size;replace c0:=bC d c0 B;replace c1:=bC d c1 B;replace B:=Kbq B d.size;replace H:=bC d H f;replace M:=bC d M f;replace G:=bC d G f;replace J:=bC d J f;replace L:=bC d L f;replace F:=bC d F f;replace I:=bC d I f;replace u:=bF d u f;replace q:=bF d q f;replace y:=bF d y f
    replace t:=bF d t f;replace l:=bF d l f;replace s:=bF d s f;replace n:=bF d n f;replace f:=Kbq f d.size;replace x0:=bC d x0 D;replace x1:=bC d x1 D;replace x2:=bC d x2 D;replace x3:=bC d x3 D;replace x4:=bC d x4 D;replace x5:=bC d x5 D;replace x6:=bC d x6 D;replace D:=Kbq D d.size;replace k:=Q01 (k.out.trans (d.mono k.out.size));clear d;clear ah
    have e0:Y=false:=by rw [Z.out];simp
    subst e0;go_wp2;refine bodyPost_ret (v:=.tuple #[Q13 0 (.slice none 0 0) 0 0 (.slice none 0 0) (.slice none 0 0) (.slice none 0 0),.bool false]) (by simp [results,Tryz.results22,go_sem,H,M,G,J,L,F,I]) rfl ⟨_,rfl, ?_,Q0v k.out (by omega) _ _ _ _ _ _ _⟩;rw [HM.out,Q0C];exact Q6u _ _ _ (by have:=k.out.size;omega)
   |true=>
    go_wp2_with fail;refine (ah).mono ?_;rintro e v2 ⟨rfl,d⟩;replace z:=Q01 (z.out.kept d);replace U:=Q01 ((d.block _ (by omega)).trans U.out);have aS:=d.size;replace V:=bC d V i;replace z1:=bC d z1 i;replace z2:=bC d z2 i;replace z3:=bC d z3 i;replace z4:=bC d z4 i;replace z5:=bC d z5 i;replace z6:=bC d z6 i;replace i:=Kbq i d.size;replace c0:=bC d c0 B;replace c1:=bC d c1 B;replace B:=Kbq B d.size;replace H:=bC d H f;replace M:=bC d M f;replace G:=bC d G f;replace J:=bC d J f;replace L:=bC d L f;replace F:=bC d F f
    replace I:=bC d I f;replace u:=bF d u f;replace q:=bF d q f;replace y:=bF d y f;replace t:=bF d t f;replace l:=bF d l f;replace s:=bF d s f;replace n:=bF d n f;replace f:=Kbq f d.size;replace x0:=bC d x0 D;replace x1:=bC d x1 D;replace x2:=bC d x2 D;replace x3:=bC d x3 D;replace x4:=bC d x4 D;replace x5:=bC d x5 D;replace x6:=bC d x6 D;replace D:=Kbq D d.size;replace k:=Q01 (k.out.trans (d.mono k.out.size));clear d;clear ah;have af:=aI.out v2
    cases aN with
    |false=>
     go_wp2_with fail;refine af.mono ?_;rintro e _ ⟨rfl,rfl⟩;clear af z U
     have e0:Y=false:=by rw [Z.out];simp
     subst e0;go_wp2;refine bodyPost_ret (v:=.tuple #[Q13 0 (.slice none 0 0) 0 0 (.slice none 0 0) (.slice none 0 0) (.slice none 0 0),.bool false]) (by simp [results,Tryz.results22,go_sem,H,M,G,J,L,F,I]) rfl ⟨_,rfl, ?_,Q0v k.out (by omega) _ _ _ _ _ _ _⟩;rw [HM.out,Q0C];exact Q6u _ _ _ (by have:=k.out.size;omega)
    |true=>
     go_wp2_with fail;refine af.mono ?_;rintro e _ ⟨rfl,rfl⟩;clear af;obtain ⟨base,aM,A⟩:=Qj3 z.out;dsimp only at A
     have a0:g≠v1.heap.size:=by
      intro h6
      rcases A.2 with ⟨h8,_⟩|⟨g9,c9,aQ,h8,_,h9,_⟩
      ·simp at h8
      ·simp at h8
       have aL:=U.out;rw [←h8.1,h6,aL] at h9;injection h9 with h9;injection h9 with _ h9 _;exact absurd h9 (by decide)
     have an:=Q01 (ao.out g xc base v2 aH.out (by trivial) (ai.out (by trivial)) A);have ab:=Q01 (Qde lt now a p v);have aU:=(A.lt g rfl).2;clear A U
     have aY:w.heap.size < W0.heap.size:=by omega
     have aW:w.heap.size+1+1 < v1.heap.size:=by omega
     have aP:W0.heap.size≤g:=by omega
     obtain ⟨rl,aG⟩:∃x,Q1K lt now a p v=x:=⟨_,rfl⟩;rw [aG] at an ab HM;clear aG ao
     have e0:Y=true:=by rw [Z.out];rfl
     subst e0;clear Z;go_wp2_with fail;refine (an.out).mono ?_;rintro e w5 ⟨rfl,az,s5⟩;have aT:=s5.size;replace x0:=s5.cellP x0 (by (try dsimp only);omega);replace x1:=s5.cellP x1 (by (try dsimp only);omega);replace x2:=s5.cellP x2 (by (try dsimp only);omega);replace x3:=s5.cellP x3 (by (try dsimp only);omega);replace x4:=s5.cellP x4 (by (try dsimp only);omega);replace x5:=s5.cellP x5 (by (try dsimp only);omega);replace x6:=s5.cellP x6 (by (try dsimp only);omega);replace H:=s5.cellP H (.inl (by (try dsimp only);omega));replace M:=s5.cellP M (.inl (by (try dsimp only);omega))
     replace G:=s5.cellP G (.inl (by (try dsimp only);omega));replace J:=s5.cellP J (.inl (by (try dsimp only);omega));replace L:=s5.cellP L (.inl (by (try dsimp only);omega));replace F:=s5.cellP F (.inl (by (try dsimp only);omega));replace I:=s5.cellP I (.inl (by (try dsimp only);omega));replace u:=Stp.frozen s5 u (by omega) (.inl (by (try dsimp only);omega));replace q:=Stp.frozen s5 q (by omega) (.inl (by (try dsimp only);omega));replace y:=Stp.frozen s5 y (by omega) (.inl (by (try dsimp only);omega))
     replace t:=Stp.frozen s5 t (by omega) (.inl (by (try dsimp only);omega));replace l:=Stp.frozen s5 l (by omega) (.inl (by (try dsimp only);omega));replace s:=Stp.frozen s5 s (by omega) (.inl (by (try dsimp only);omega));replace n:=Stp.frozen s5 n (by omega) (.inl (by (try dsimp only);omega));replace k:=Q01 (k.out.trans (s5.below (by omega) k.out.size));replace z:=Q01 (Bx.turn z.out s5 ab.out base aM az);clear az s5 an c0 c1 V z1 z2 z3 z4 z5 z6 D B C
     have aq:=Q01 (Q8H W0.heap.size g lt.length xc kq yo yn yc sq kr uo un uc vo vn vc ⟨⟨N,P,O⟩,⟨E,lb,R⟩,rl⟩ w5 ab.out.symm (by dsimp only;rw [ab.out];exact f7) (by omega) z.out);clear z;go_wp2_with fail;refine (aq.out).mono ?_;rintro e w6 ⟨tO,tn,tc,rfl,aA,j⟩;have aX:=j.size;replace H:=bC j H (by omega);replace M:=bC j M (by omega);replace G:=bC j G (by omega);replace J:=bC j J (by omega);replace L:=bC j L (by omega);replace F:=bC j F (by omega);replace I:=bC j I (by omega);replace u:=bF j u (by omega);replace q:=bF j q (by omega)
     replace y:=bF j y (by omega);replace t:=bF j t (by omega);replace l:=bF j l (by omega);replace s:=bF j s (by omega);replace n:=bF j n (by omega);replace k:=Q01 (k.out.trans (j.mono k.out.size));have aK:=Q01 aA;clear aA j aq x0 x1 x2 x3 x4 x5 x6;go_wp2;refine bodyPost_ret (v:=.tuple #[Q13 kq (.slice yo yn yc) sq kr (.slice uo un uc) (.slice vo vn vc) (.slice tO tn tc),.bool true]) (by simp [results,Tryz.results22,go_sem,H,M,G,J,L,F,I]) rfl ⟨_,rfl, ?_,Q0v k.out (by omega) _ _ _ _ _ _ _⟩;rw [HM.out,Q0C]
     exact (aK.out.step (Q1b _ _ _ _ _ _ _ _ _) (.inl (by omega))).mono (by omega) (Kaq _)
def BalRd (w:World) (v:Value) (m:Bm):Prop:=∃(o:Option Addr) (c:Nat) (ob:Option Addr) (np cb:Nat) (oR:Option Addr) (nr cR:Nat) (ot:Option Addr) (ct:Nat),v=Q13 m.j.key (.slice o m.j.l.length c) m.j.safe m.p.key (.slice ob np cb) (.slice oR nr cR) (.slice ot m.t.length ct)∧RdC w.heap.size w o m.j.l∧(o=none→c=0)∧Q86 w.heap.size w (plv m.p.key (.slice ob np cb) (.slice oR nr cR)) m.p∧RdS w.heap.size w ot m.t∧Q6L m
theorem BalRd.kept {w b:World} {v:Value} {m:Bm} (h:BalRd w v m) (a:Below w.heap.size w b):BalRd b v m:=by
 obtain ⟨o,c,r,p,i,j,n,l,t,k,rfl,q,s,d,f,g⟩:=h;exact ⟨o,c,r,p,i,j,n,l,t,k,rfl,(q.kept a (Kaq _)).le a.size,s,(d.kept a (Kaq _)).le a.size,(f.kept a (Kaq _)).le a.size,g⟩
theorem OrBr.brd {lo hi:Nat} {w:World} {r:Int} {o:Option Addr} {v c:Nat} {q u:Int} {n:Option Addr} {j a:Nat} {b:Option Addr} {i f:Nat} {p:Option Addr} {s d:Nat} {m:Bm} (h:OrBr lo hi w (Q13 r (.slice o v c) q u (.slice n j a) (.slice b i f) (.slice p s d)) m) (A:hi≤w.heap.size) (z:fitBm m∧m.t.length≤16):BalRd w (Q13 r (.slice o v c) q u (.slice n j a) (.slice b i f) (.slice p s d)) m:=by
 obtain ⟨D,lb,E,lt,rfl,g,k,B,C,x,y,l⟩:=h.use A z;exact ⟨o,c,n,j,a,b,i,f,p,d,by rw [g,k],B,C,x,y,l⟩
theorem InBm.brd {lo hi:Nat} {w:World} {v:Value} {m:Bm} (h:InBm lo hi w v m) (j:hi≤w.heap.size) (d:Q6L m):BalRd w v m:=by
 obtain ⟨o,c,n,f,g,k,q,i,rfl,l,p,a,b⟩:=Q6p h j;exact ⟨o,c,n,_,f,g,_,k,q,i,rfl,l,p,a,b,d⟩
theorem Qg2 {m:Bm} (h:Q2h m=true):Q6L m:=(Q7d h).b0
theorem BalRd.pool {w:World} {l:Int} {k:Value} {f d:Int} {b a n:Value} {m:Bm} (h:BalRd w (Q13 l k f d b a n) m):Q86 w.heap.size w (plv d b a) m.p:=by
 obtain ⟨o,c,B,z,t,u,y,x,D,v,e,A,C,i,r,s⟩:=h;simp only [Value.agg.injEq,Array.mk.injEq,List.cons.injEq,and_true,true_and,Value.int.injEq] at e;obtain ⟨_,_,_,j,g,q,_⟩:=e;rw [j,g,q];exact i
theorem BalRd.tab {w:World} {q:Int} {p:Value} {d s:Int} {g f:Value} {b:Option Addr} {a n:Nat} {m:Bm} (h:BalRd w (Q13 q p d s g f (.slice b a n)) m):a=m.t.length∧RdS w.heap.size w b m.t∧m.t.length≤1048576:=by
 obtain ⟨o,c,C,A,v,x,z,y,j,l,e,B,D,u,i,k⟩:=h;simp only [Value.agg.injEq,Array.mk.injEq,List.cons.injEq,and_true,true_and,Value.int.injEq] at e;obtain ⟨_,_,_,_,_,_,r⟩:=e;injection r with e1 e2 e3;rw [e1];exact ⟨e2,i,k.2.2⟩
theorem Q5b {v:Value} {m:Bm} {w:World} (a p:Int) (h:BalRd w v m):
  Calls Tryz.prog 16 #[v,Q6c a p] w fun e u=> e=.returned (.int .i64 (Q58 m a p))∧Below w.heap.size w u:=by
 obtain ⟨o,c,x,r,g,i,q,n,z,k,rfl,s,y,b,d,f⟩:=h;exact QaJ m.j.key o m.j.l.length c m.j.safe m.p.key x r g i q n z m.t.length k m.j.l m.p.l m.p.ring m.t a p w rfl rfl s y b d f
theorem Qa2 {v:Value} {m:Bm} {w:World} (h:BalRd w v m):
  Calls Tryz.prog 24 #[v] w fun e s=> e=.returned (.bool (Q2h m))∧Below w.heap.size w s:=by
 obtain ⟨o,c,u,q,f,g,n,k,y,i,rfl,r,x,a,b,d⟩:=h;exact Q9c m.j.key o m.j.l.length c m.j.safe m.p.key u q f g n k y m.t.length i m.j.l m.p.l m.p.ring m.t w rfl rfl r x a b d
theorem Q9U {v:Value} {m:Bm} {w:World} (now a p x:Int) (h:BalRd w v m):
  Calls Tryz.prog 22 #[v,.int .i64 now,Q6c a p,.int .i64 x] w fun e b=> ∃v',e=.returned (.tuple #[v',.bool (Q5x m now a p x)])∧InBm w.heap.size b.heap.size b v' (Q2p m now a p x)∧Below w.heap.size w b:=by
 obtain ⟨o,c,z,u,i,k,s,q,r,n,rfl,y,A,d,f,g⟩:=h;exact Q9x m.j.key o m.j.l.length c m.j.safe m.p.key z u i k s q r m.t.length n m.j.l m.p.l m.p.ring m.t now a p x w rfl rfl y A d f g
theorem Qd4 {m:Bm} (h:Q2h m=true):∀i,i < m.p.ring.length→(m.p.ring.getD i []).length=8:=fun i hi=> (Q4O ((Q1B (Q5F h)).2.2.2.2 i hi)).1
end Go.Proofs.YtpneolgdghbinaaGreat
