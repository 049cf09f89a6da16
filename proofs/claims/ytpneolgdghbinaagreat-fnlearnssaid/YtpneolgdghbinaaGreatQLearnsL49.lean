/- Several texts in one: SBTick, SLearnH, SBLearn, BalUse. -/
import Derived.Test.YtpneolgdghbinaaGreatQLearnsL43
import Derived.Test.YtpneolgdghbinaaGreatQLearnsL48
import Derived.Test.YtpneolgdghbinaaGreatQLearnsL42
namespace Go.Proofs.YtpneolgdghbinaaGreat
open Go.ChangeShapes Go.WideShapes Go.ChangeAt Go.RowKit Go.Joins
set_option linter.unusedVariables false
set_option linter.unusedSimpArgs false
set_option maxRecDepth 100000
set_option maxHeartbeats 40000000
theorem Bx.turn {lo:Nat} {w a:World} {g b:Nat} {c:Int} {k:Value} {f d:Int} {i l:Value} {m:Bm} {t:List Sl} (h:Bx lo w g b c k f d i l m) (s:Stp g (g+1) w a) (u:t.length=m.t.length) (base:Nat) (r:lo≤base) (v:a.ownsRow base Q1F 5 (.slice (some ⟨g,0,none⟩) m.t.length b) m.t.length (t.flatMap Q0g.cs)):Bx lo a g b c k f d i l ⟨m.j,m.p,t⟩:=by
 obtain ⟨n,h2,q,_,⟨z,A,G,H,B,I,C,J,D,E,F,x,y⟩⟩:=h;have hs:=s.size;exact ⟨n,h2,q,⟨base,r,by dsimp only;rw [u];exact v⟩,⟨z,A,G,H,B,by omega,C,by omega,D,E,F,x.step s (by omega),y.step s (by omega)⟩⟩
theorem Qj2 {lo:Nat} {w:World} {g a:Nat} {b:Int} {i:Value} {d c:Int} {f j:Value} {m:Bm} (h:Bx lo w g a b i d c f j m):∃base,lo≤base∧w.ownsRow base Q1F 5 (.slice (some ⟨g,0,none⟩) m.t.length a) m.t.length (m.t.flatMap Q0g.cs):=h.row
theorem QeY {l:List Sl} {a p:Int} (b:Q0c l=true) (h:(Q0Z l a p).1 < 0):¬Qg1 l:=fun c=> by
 have j:=(Q07.1 b).1;have d:=Q1q (show 0 < l.length by omega) a p;have i:(l.getD (Q0S l.length a p) sl0).u=false:=c _ d;obtain ⟨n,g⟩:∃n,l.length=n+1:=⟨l.length - 1,by omega⟩
 have e:Q0Z l a p=((Q0S l.length a p:Int),false):=by
  unfold Q0Z;have:=Q2J (a:=a) (p:=p) (f:=n) i;rw [←g] at this;exact this
 rw [e] at h;dsimp only at h;omega
theorem Q8z (l:List Sl):∀k,k≤l.length→(Q4c l k=sl0∧∀j,j < k→(at' l j).u=false)∨∃j,j < k∧Q4c l k=at' l j∧(at' l j).u=true∧∀i,i < k→(at' l i).u=true→(at' l j).t < (at' l i).t∨((at' l j).t=(at' l i).t∧j≤i)
 |0,_=> .inl ⟨rfl,fun j f=> absurd f (Nat.not_lt_zero _)⟩
 |k+1,hk=> by
  have g:=Q8z l k (by omega);rw [Q5j (by omega)];have m:l.getD k sl0=at' l k:=rfl;rw [m]
  cases hu:(at' l k).u with
  |false=>
   rw [Q3Y hu]
   rcases g with ⟨b,h2⟩|⟨j,b,h2,c,d⟩
   ·refine .inl ⟨b,fun j f=> ?_⟩
    rcases Nat.lt_or_ge j k with h|h
    ·exact h2 j h
    ·rw [show j=k by omega];exact hu
   ·refine .inr ⟨j,by omega,h2,c,fun i hi a=> ?_⟩
    rcases Nat.lt_or_ge i k with h|h
    ·exact d i h a
    ·rw [show i=k by omega] at a;rw [a] at hu;cases hu
  |true=>
   rcases g with ⟨b,h2⟩|⟨j,b,h2,c,d⟩
   ·rw [b,Q3j hu rfl]
    refine .inr ⟨k,by omega,rfl,hu,fun i hi a=> ?_⟩
    rcases Nat.lt_or_ge i k with h|h
    ·rw [h2 i h] at a;cases a
    ·rw [show i=k by omega];exact .inr ⟨rfl,Kaq _⟩
   ·rw [h2]
    by_cases hlt:(at' l k).t < (at' l j).t
    ·rw [Q41 hu hlt]
     refine .inr ⟨k,by omega,rfl,hu,fun i hi a=> ?_⟩
     rcases Nat.lt_or_ge i k with h|h
     ·have:=d i h a;left;omega
     ·rw [show i=k by omega];exact .inr ⟨rfl,Kaq _⟩
    ·rw [Q43 c hlt]
     refine .inr ⟨j,by omega,rfl,c,fun i hi a=> ?_⟩
     rcases Nat.lt_or_ge i k with h|h
     ·exact d i h a
     ·rw [show i=k by omega];omega
theorem Qey {l:List Sl} {j:Nat} (m:l.length≤16) (q:∀i,i < l.length→(at' l i).u=true→0≤(at' l i).t) (h:Qay l 0 j):Q26 l=at' l j:=by
 obtain ⟨c,b,p⟩:=h
 have a:∀i,i < l.length→(at' l i).u=true→lvT l 0 i=(at' l i).t:=fun i hi d=> by have:=q i hi d;show max (at' l i).t 0=(at' l i).t;omega
 unfold Q26
 rcases Q8z l l.length (Kaq _) with ⟨_,h2⟩|⟨i,f,h2,g,n⟩
 ·rw [h2 j c] at b;cases b
 ·rw [h2]
  have r:=n j c b;have k:=p i f g;rw [a j c b,a i f g] at k;rw [show i=j by omega]
theorem QhW {l:List Sl} (h:Q0c l=true):∀i,i < l.length→(at' l i).u=true→0≤(at' l i).t:=fun i hi b=> by
 have a:=(Q07.1 h).2.2 i hi;unfold Q3K at a;have h2:Q2h (at' l i)=true:=((Bool.and_eq_true _ _).mp a).1;exact ((Q3Q b).1 h2).2.2.2.1
theorem Qdi {l:List Sl} {now a p v:Int} {j:Nat} (b:Q0c l=true) (d:(Q0Z l a p).1 < 0) (h:Qay l 0 j):Q1I l now a p v=Q4d (Q1M l j) a p v (now+50):=by
 have c:l.length≤16:=by have:=(Q07.1 b).2.1;omega
 unfold Q1I;rw [if_neg (by omega),Qey c (QhW b) h,Q5P (QfD b h.1 h.2.1)]
theorem QdN {l:List Sl} {now a p v:Int} (hf:0≤(Q0Z l a p).1):Q1I l now a p v=Q4d l a p v (now+50):=by unfold Q1I;rw [if_pos hf]
theorem QdK (g c base n:Nat) (l:List Sl) (now a p v:Int) (w:World) (hn:l.length=n) (I:Q0c l=true) (hf:Q0h a p=true) (ai:0≤now∧now≤100000) (ho:w.ownsRow base Q1F 5 (.slice (some ⟨g,0,none⟩) n c) n (l.flatMap Q0g.cs)):
  Calls Tryz.prog 62 #[tab (.slice (some ⟨g,0,none⟩) n c),Q6f a p,.int .i64 v,.int .i64 now] w fun e w'=> e=.returned (.tuple #[])∧w'.ownsRow base Q1F 5 (.slice (some ⟨g,0,none⟩) n c) n ((Q1I l now a p v).flatMap Q0g.cs)∧Stp g (g+1) w w':=by
 have aj:=(ho.lt g rfl).2
 have Z:1≤n∧n≤16:=by have:=(Q07.1 I);omega
 obtain ⟨A,q⟩:∃W,(((w.alloc (.cells #[.slice (some ⟨g,0,none⟩) n c] 91)).alloc (.cells #[.int .i64 a,.int .i64 p] 36)).alloc (.cells #[.int .i64 v,.int .i64 (now+50)] 138))=W:=⟨_,rfl⟩
 have ak:A.heap.size=w.heap.size+3:=by rw [←q];simp
 have F:=alb0v0v3 q
 have z0:A.cell? ⟨w.heap.size,0,none⟩=some (.slice (some ⟨g,0,none⟩) n c):=by rw [←q];simp [go_sem]
 obtain ⟨z1,z2⟩:=alc2v1v3 q
 have z3:A.cell? ⟨w.heap.size+2,0,none⟩=some (.int .i64 v):=by rw [←q];simp [go_sem]
 have z4:A.cell? ⟨w.heap.size+2,1,none⟩=some (.int .i64 (now+50)):=by rw [←q];simp [go_sem]
 have HO:=Q01 (Q03 ho F);have i:=Q01 (Qe8 g c base l a p v (now+50) A (by omega) (by omega) hf (by rw [hn];exact HO.out));rw [hn] at i;have X:=Q01 (Stp.of (lo:=g) (hi:=g+1) F);have E:=Q01 I;have R:=Q01 hn;have HF:=Q01 hf;clear ho F I hn hf;obtain ⟨r,hr⟩:∃r,decide (0≤(Q0Z l a p).1)=r:=⟨_,rfl⟩;have HR:=Q01 hr;rw [hr] at i;clear hr;go_enter Tryz.func62,Tryz.ntmps62;go_wp2_with fail;refine i.out.mono ?_;rintro e w1 ⟨rfl,m,b⟩
 have q0:w.heap.size < A.heap.size:=by omega
 have q1:w.heap.size+1 < A.heap.size:=by omega
 have q2:w.heap.size+2 < A.heap.size:=by omega
 have J:=b.cell z0 q0 (.inr (by omega));have L:=b.cell z1 q1 (.inr (by omega));have M:=b.cell z2 q1 (.inr (by omega));have N:=b.cell z3 q2 (.inr (by omega));have O:=b.cell z4 q2 (.inr (by omega));have al:=b.size;have s:=Q01 (X.out.trans b);have D:=Q01 m;clear i b m z0 z1 z2 z3 z4 HO X
 cases r with
 |true=>
  have HL:=Q01 (QdN (now:=now) (v:=v) (of_decide_eq_true HR.out));go_wp2
  first|go_end0|refine bodyPost_ret (results_none rfl _ _ _) rfl ?_
  exact ⟨rfl,by rw [HL.out];exact D.out,s.out⟩
 |false=>
  have t:(Q0Z l a p).1 < 0:=by have:=of_decide_eq_false HR.out;omega
  have m:=D.out;rw [show Q4d l a p v (now+50)=l by unfold Q4d;rw [if_neg (by omega)]] at m;have T:=Q01 (Qam g 0 c n l 0 w1 R.out Z.2 (m.lt g rfl).2 (Q1r m R.out.symm));have U:=Q01 m;have af:=Q01 (QeY E.out t);have ad:=Q01 (fun j (h:Qay l 0 j)=> Qdi (now:=now) (v:=v) E.out t h);clear m D t HR;go_wp2_with fail;refine T.out.mono ?_;rintro e C ⟨ht,f⟩
  rcases ht with ⟨j,G,rfl⟩|⟨h,_⟩
  case inr=> exact absurd h af.out
  have ae:=Q01 G
  have ah:j < n:=by have:=G.1;have:=R.out;omega
  have r0:w.heap.size < w1.heap.size:=by omega
  have r1:w.heap.size+1 < w1.heap.size:=by omega
  have r2:w.heap.size+2 < w1.heap.size:=by omega
  replace J:=(f.cell (p:=⟨w.heap.size,0,none⟩) r0).trans J;replace L:=(f.cell (p:=⟨w.heap.size+1,0,none⟩) r1).trans L;replace M:=(f.cell (p:=⟨w.heap.size+1,1,none⟩) r1).trans M;replace N:=(f.cell (p:=⟨w.heap.size+2,0,none⟩) r2).trans N;replace O:=(f.cell (p:=⟨w.heap.size+2,1,none⟩) r2).trans O;have am:=f.size;obtain ⟨lv,aa⟩:∃x,lvT l 0 j=x:=⟨_,rfl⟩;rw [aa];obtain ⟨W3,u⟩:∃W,(C.alloc (.cells #[.int .i64 lv,.int .i64 (j:Int)] 172))=W:=⟨_,rfl⟩;have k:=alb0v0v1 u;have an:=alz0v0v1 u
  have x1:W3.cell? ⟨C.heap.size,1,none⟩=some (.int .i64 (j:Int)):=by rw [←u];simp [go_sem]
  have x0:W3.cell? ⟨C.heap.size,0,none⟩=some (.int .i64 lv):=by rw [←u];simp [go_sem]
  replace J:=(k.cell (p:=⟨w.heap.size,0,none⟩) (show w.heap.size < C.heap.size by omega)).trans J;replace L:=(k.cell (p:=⟨w.heap.size+1,0,none⟩) (show w.heap.size+1 < C.heap.size by omega)).trans L;replace M:=(k.cell (p:=⟨w.heap.size+1,1,none⟩) (show w.heap.size+1 < C.heap.size by omega)).trans M;replace N:=(k.cell (p:=⟨w.heap.size+2,0,none⟩) (show w.heap.size+2 < C.heap.size by omega)).trans N;replace O:=(k.cell (p:=⟨w.heap.size+2,1,none⟩) (show w.heap.size+2 < C.heap.size by omega)).trans O;have V:=Q01 (Q03 (Q03 U.out f) k)
  have y:=Q01 ((s.out.trans (Stp.of f)).trans (Stp.of k));have P:=Q01 (Qd1 g c base n j l W3 R.out Z.2 ah (Q2l E.out) V.out);clear f k T G U s aa;go_wp2_with fail;refine P.out.mono ?_;rintro e w4 ⟨⟨v9,rfl⟩,ab,d⟩;have ao:=d.cell J (by omega) (.inr (by omega));have ap:=d.cell L (by omega) (.inr (by omega));have aq:=d.cell M (by omega) (.inr (by omega));have ar:=d.cell N (by omega) (.inr (by omega));have au:=d.cell O (by omega) (.inr (by omega))
  have H:(Q1M l j).length=n:=by rw [Q2s];exact R.out
  have i:=Q01 (Qe8 g c base (Q1M l j) a p v (now+50) w4 (by omega) (by omega) HF.out (by rw [H];exact ab));rw [H] at i;have z:=Q01 (y.out.trans d);clear H P ab d V y J L M N O x0 x1;go_wp2_with fail;refine i.out.mono ?_;rintro e w5 ⟨rfl,ac,B⟩;have ag:=Q01 ac;have Y:=Q01 (z.out.trans B);have HL:=Q01 (ad.out j ae.out);clear ac B i z;go_wp2
  first|go_end0|refine bodyPost_ret (results_none rfl _ _ _) rfl ?_
  exact ⟨rfl,by rw [HL.out];exact ag.out,Y.out⟩
theorem Q94 (N:Int) (o:Option Addr) (nj c:Nat) (P E:Int) (ob:Option Addr) (np cb:Nat) (oR:Option Addr) (nr cR:Nat) (ot:Option Addr) (nt ct:Nat) (O:List Cd) (lb:List Bk) (T:List (List (List Int))) (lt:List Sl) (now a p v:Int) (w:World)
  (aC:nj=O.length) (aE:nt=lt.length) (h1:RdC w.heap.size w o O) (aN:o=none→c=0) (h2:Q86 w.heap.size w (plv E (.slice ob np cb) (.slice oR nr cR)) ⟨E,lb,T⟩) (h4:RdS w.heap.size w ot lt) (hf:Q6L ⟨⟨N,O,P⟩,⟨E,lb,T⟩,lt⟩):
  Calls Tryz.prog 22 #[Q13 N (.slice o nj c) P E (.slice ob np cb) (.slice oR nr cR) (.slice ot nt ct),.int .i64 now,Q6f a p,.int .i64 v] w fun e w'=> ∃v',e=.returned (.tuple #[v',.bool (Q5D ⟨⟨N,O,P⟩,⟨E,lb,T⟩,lt⟩ now a p v)])∧InBm w.heap.size w'.heap.size w' v' (Q2q ⟨⟨N,O,P⟩,⟨E,lb,T⟩,lt⟩ now a p v)∧Below w.heap.size w w':=by
 have al:=Q01 (fun W (d:Below w.heap.size w W)=> Q2V N o nj c P E ob np cb oR nr cR ot nt ct O lb T lt W aC aE ((h1.kept d (Kaq _)).le d.size) aN ((h2.kept d (Kaq _)).le d.size) ((h4.kept d (Kaq _)).le d.size) hf);have f7:lt.length≤1048576:=hf.2.2;have ac:=Q01 (fun h=> Q3R (m:=⟨⟨N,O,P⟩,⟨E,lb,T⟩,lt⟩) h);have ae:=Q01 (fun h=> Q2v (m:=⟨⟨N,O,P⟩,⟨E,lb,T⟩,lt⟩) h);have af:=Q01 (fun h=> Q1N (m:=⟨⟨N,O,P⟩,⟨E,lb,T⟩,lt⟩) h)
 have V:=Q01 (show Q2q ⟨⟨N,O,P⟩,⟨E,lb,T⟩,lt⟩ now a p v=if (Q2g ⟨⟨N,O,P⟩,⟨E,lb,T⟩,lt⟩ && ((decide (0≤now) && decide (now≤100000)) && (Q0h a p && (decide (0≤v) && decide (v < 6)))))=true then ⟨⟨N,O,P⟩,⟨E,lb,T⟩,Q1I lt now a p v⟩ else bm0 from rfl);have X:=Q01 (show Q5D ⟨⟨N,O,P⟩,⟨E,lb,T⟩,lt⟩ now a p v=(Q2g ⟨⟨N,O,P⟩,⟨E,lb,T⟩,lt⟩ && ((decide (0≤now) && decide (now≤100000)) && (Q0h a p && (decide (0≤v) && decide (v < 6))))) from rfl);dsimp only at ac ae af;clear h1 h2 h4 aC aE hf;obtain ⟨bb,az⟩:∃x,Q2g ⟨⟨N,O,P⟩,⟨E,lb,T⟩,lt⟩=x:=⟨_,rfl⟩
 obtain ⟨mr,ap⟩:∃r,Q2q ⟨⟨N,O,P⟩,⟨E,lb,T⟩,lt⟩ now a p v=r:=⟨_,rfl⟩;obtain ⟨ab,aq⟩:∃r,Q5D ⟨⟨N,O,P⟩,⟨E,lb,T⟩,lt⟩ now a p v=r:=⟨_,rfl⟩
 have ak:Hid ((decide (0≤now) && decide (now≤100000))=true→0≤now∧now≤100000):=fun h=> by simpa using h
 obtain ⟨sb,aH⟩:∃r,(decide (0≤now) && decide (now≤100000))=r:=⟨_,rfl⟩;have ar:Hid (Q0h a p=Q0h a p):=rfl;obtain ⟨fb,aA⟩:∃r,Q0h a p=r:=⟨_,rfl⟩;obtain ⟨aQ,aJ⟩:∃r,(decide (0≤v) && decide (v < 6))=r:=⟨_,rfl⟩;have ax:=Q01 (fun W=> Q34 now W);have au:=Q01 (fun W=> Q0N a p W);have av:=Q01 (fun W=> Q2F v W);have ao:=Q01 (fun (g xc base:Nat) (W:World) (aj:Q0c lt=true) (aP:Q0h a p=true) (aD:0≤now∧now≤100000) (A:W.ownsRow base Q1F 5 (.slice (some ⟨g,0,none⟩) lt.length xc) lt.length (lt.flatMap Q0g.cs))=> QdK g xc base lt.length lt now a p v W rfl aj aP aD A);rw [ap,aq]
 rw [az] at al ac ae af V X;rw [ap] at V;rw [aq] at X;rw [aH] at V X ax ak;rw [aA] at V X au ao;rw [aJ] at V X av;clear az ap aq aH aA aJ ar;obtain ⟨W0,R⟩:∃W,(((w.alloc (.cells #[.int .i64 N,.slice o nj c,.int .i64 P,.int .i64 E,.slice ob np cb,.slice oR nr cR,.slice ot nt ct] 34)).alloc (.cells #[.int .i64 a,.int .i64 p] 36)).alloc (.cells #[.int .i64 0,.slice none 0 0,.int .i64 0,.int .i64 0,.slice none 0 0,.slice none 0 0,.slice none 0 0] 34))=W:=⟨_,rfl⟩;have aa:=alb0v0v3 R;have k:=Q01 aa;clear aa;have i:=alz0v0v3 R
 obtain ⟨z0,z1,z2,z3,z4,z5,z6⟩:=alc7v0v3 R;have C:=alz0v1v3 R;obtain ⟨Y,Z⟩:=alc2v1v3 R;have f:=alz0v2v3 R;obtain ⟨F,G,H,I,J,L,M⟩:=alc7v2v3 R;obtain ⟨l,n,q,s,t,u,y⟩:=alf7v2v3 R;have a3:w.heap.size+1+1 < W0.heap.size:=f;go_enter Tryz.func22,Tryz.ntmps22;go_wp2_with fail;refine (al.out W0 k.out).mono ?_;rintro e v1 ⟨xo,xn,xc,kq,yo,yn,yc,sq,kr,uo,un,uc,vo,vn,vc,rfl,aB,d⟩;have an:=Q01 aB;have aX:=d.size;clear aB al;replace z0:=bC d z0 i;replace z1:=bC d z1 i;replace z2:=bC d z2 i;replace z3:=bC d z3 i;replace z4:=bC d z4 i
 replace z5:=bC d z5 i;replace z6:=bC d z6 i;replace i:=Kbq i d.size;replace Y:=bC d Y C;replace Z:=bC d Z C;replace C:=Kbq C d.size;replace F:=bC d F f;replace G:=bC d G f;replace H:=bC d H f;replace I:=bC d I f;replace J:=bC d J f;replace L:=bC d L f;replace M:=bC d M f;replace l:=bF d l f;replace n:=bF d n f;replace q:=bF d q f;replace s:=bF d s f;replace t:=bF d t f;replace u:=bF d u f;replace y:=bF d y f;replace f:=Kbq f d.size;replace k:=Q01 (k.out.trans (d.mono k.out.size));clear d
 cases bb with
 |false=>
  obtain ⟨W2,B⟩:∃W,(v1.alloc (.cells #[.slice xo xn xc,.int .i64 kq,.slice yo yn yc,.int .i64 sq,.int .i64 kr,.slice uo un uc,.slice vo vn vc] 93))=W:=⟨_,rfl⟩;have b:=alb0v0v1 B;replace z0:=bC b z0 i;replace z1:=bC b z1 i;replace z2:=bC b z2 i;replace z3:=bC b z3 i;replace z4:=bC b z4 i;replace z5:=bC b z5 i;replace z6:=bC b z6 i;replace i:=Kbq i b.size;replace Y:=bC b Y C;replace Z:=bC b Z C;replace C:=Kbq C b.size;replace F:=bC b F f;replace G:=bC b G f;replace H:=bC b H f;replace I:=bC b I f
  replace J:=bC b J f;replace L:=bC b L f;replace M:=bC b M f;replace l:=bF b l f;replace n:=bF b n f;replace q:=bF b q f;replace s:=bF b s f;replace t:=bF b t f;replace u:=bF b u f;replace y:=bF b y f;replace f:=Kbq f b.size;replace k:=Q01 (k.out.trans (b.mono k.out.size));clear b;have D:=alz0v0v1 B;obtain ⟨x0,x1,x2,x3,x4,x5,x6⟩:=alc7v0v1 B;clear an
  have e0:ab=false:=by rw [X.out];simp
  subst e0;go_wp2;refine bodyPost_ret (v:=.tuple #[Q13 0 (.slice none 0 0) 0 0 (.slice none 0 0) (.slice none 0 0) (.slice none 0 0),.bool false]) (by simp [results,Tryz.results22,go_sem,F,G,H,I,J,L,M]) rfl ⟨_,rfl, ?_,Q0v k.out (by omega) _ _ _ _ _ _ _⟩;rw [V.out,Q0C];exact Q6w _ _ _ (by have:=k.out.size;omega)
 |true=>
  have hn:=ac.out rfl;have aI:=ae.out rfl;have aj:=af.out rfl;obtain ⟨g,rfl,rfl,aU,bx⟩:=Bx.of (an.out rfl) hn;rw [←aI] at bx;have z:=Q01 bx;have ay:=Q01 aj;clear bx an ac ae af aI aj;obtain ⟨W2,B⟩:∃W,(v1.alloc (.cells #[.slice (some ⟨g,0,none⟩) lt.length xc,.int .i64 kq,.slice yo yn yc,.int .i64 sq,.int .i64 kr,.slice uo un uc,.slice vo vn vc] 93))=W:=⟨_,rfl⟩;have b:=alb0v0v1 B;replace z0:=bC b z0 i;replace z1:=bC b z1 i;replace z2:=bC b z2 i;replace z3:=bC b z3 i;replace z4:=bC b z4 i;replace z5:=bC b z5 i;replace z6:=bC b z6 i
  replace i:=Kbq i b.size;replace Y:=bC b Y C;replace Z:=bC b Z C;replace C:=Kbq C b.size;replace F:=bC b F f;replace G:=bC b G f;replace H:=bC b H f;replace I:=bC b I f;replace J:=bC b J f;replace L:=bC b L f;replace M:=bC b M f;replace l:=bF b l f;replace n:=bF b n f;replace q:=bF b q f;replace s:=bF b s f;replace t:=bF b t f;replace u:=bF b u f;replace y:=bF b y f;replace f:=Kbq f b.size;replace k:=Q01 (k.out.trans (b.mono k.out.size))
  clear b;have D:=alz0v0v1 B;obtain ⟨x0,x1,x2,x3,x4,x5,x6⟩:=alc7v0v1 B;replace z:=Q01 (z.out.kept (show Below v1.heap.size v1 W2 by rw [←B];exact (Below.refl _ _).alloc (Kaq _) _));have aY:v1.heap.size < W2.heap.size:=D;have U:Hid _:=alx0v0v1 B;have ah:=ax.out W2
  cases sb with
  |false=>
   go_wp2_with fail;refine ah.mono ?_;rintro e _ ⟨rfl,rfl⟩;clear ah z U
   have e0:ab=false:=by rw [X.out];simp
   subst e0;go_wp2;refine bodyPost_ret (v:=.tuple #[Q13 0 (.slice none 0 0) 0 0 (.slice none 0 0) (.slice none 0 0) (.slice none 0 0),.bool false]) (by simp [results,Tryz.results22,go_sem,F,G,H,I,J,L,M]) rfl ⟨_,rfl, ?_,Q0v k.out (by omega) _ _ _ _ _ _ _⟩;rw [V.out,Q0C];exact Q6w _ _ _ (by have:=k.out.size;omega)
  |true=>
   have ai:=au.out W2;go_wp2_with fail;refine ah.mono ?_;rintro e _ ⟨rfl,rfl⟩;clear ah
   cases fb with
   |false=>
    go_wp2_with fail;refine (ai).mono ?_;rintro e v2 ⟨rfl,d⟩;clear z U;replace z0:=bC d z0 i;replace z1:=bC d z1 i;replace z2:=bC d z2 i;replace z3:=bC d z3 i;replace z4:=bC d z4 i;replace z5:=bC d z5 i;replace z6:=bC d z6 i;replace i:=Kbq i d.size;replace Y:=bC d Y C;replace Z:=bC d Z C;replace C:=Kbq C d.size;replace F:=bC d F f;replace G:=bC d G f;replace H:=bC d H f;replace I:=bC d I f;replace J:=bC d J f;replace L:=bC d L f;replace M:=bC d M f;replace l:=bF d l f;replace n:=bF d n f;replace q:=bF d q f
    replace s:=bF d s f;replace t:=bF d t f;replace u:=bF d u f;replace y:=bF d y f;replace f:=Kbq f d.size;replace x0:=bC d x0 D;replace x1:=bC d x1 D;replace x2:=bC d x2 D;replace x3:=bC d x3 D;replace x4:=bC d x4 D;replace x5:=bC d x5 D;replace x6:=bC d x6 D;replace D:=Kbq D d.size;replace k:=Q01 (k.out.trans (d.mono k.out.size));clear d;clear ai
    have e0:ab=false:=by rw [X.out];simp
    subst e0;go_wp2;refine bodyPost_ret (v:=.tuple #[Q13 0 (.slice none 0 0) 0 0 (.slice none 0 0) (.slice none 0 0) (.slice none 0 0),.bool false]) (by simp [results,Tryz.results22,go_sem,F,G,H,I,J,L,M]) rfl ⟨_,rfl, ?_,Q0v k.out (by omega) _ _ _ _ _ _ _⟩;rw [V.out,Q0C];exact Q6w _ _ _ (by have:=k.out.size;omega)
   |true=>
    go_wp2_with fail;refine (ai).mono ?_;rintro e v2 ⟨rfl,d⟩;replace z:=Q01 (z.out.kept d);replace U:=Q01 ((d.block _ (by omega)).trans U.out);have aZ:=d.size;replace z0:=bC d z0 i;replace z1:=bC d z1 i;replace z2:=bC d z2 i;replace z3:=bC d z3 i;replace z4:=bC d z4 i;replace z5:=bC d z5 i;replace z6:=bC d z6 i;replace i:=Kbq i d.size;replace Y:=bC d Y C;replace Z:=bC d Z C;replace C:=Kbq C d.size;replace F:=bC d F f;replace G:=bC d G f;replace H:=bC d H f;replace I:=bC d I f;replace J:=bC d J f;replace L:=bC d L f
    replace M:=bC d M f;replace l:=bF d l f;replace n:=bF d n f;replace q:=bF d q f;replace s:=bF d s f;replace t:=bF d t f;replace u:=bF d u f;replace y:=bF d y f;replace f:=Kbq f d.size;replace x0:=bC d x0 D;replace x1:=bC d x1 D;replace x2:=bC d x2 D;replace x3:=bC d x3 D;replace x4:=bC d x4 D;replace x5:=bC d x5 D;replace x6:=bC d x6 D;replace D:=Kbq D d.size;replace k:=Q01 (k.out.trans (d.mono k.out.size));clear d;clear ai;have ag:=av.out v2
    cases aQ with
    |false=>
     go_wp2_with fail;refine ag.mono ?_;rintro e _ ⟨rfl,rfl⟩;clear ag z U
     have e0:ab=false:=by rw [X.out];simp
     subst e0;go_wp2;refine bodyPost_ret (v:=.tuple #[Q13 0 (.slice none 0 0) 0 0 (.slice none 0 0) (.slice none 0 0) (.slice none 0 0),.bool false]) (by simp [results,Tryz.results22,go_sem,F,G,H,I,J,L,M]) rfl ⟨_,rfl, ?_,Q0v k.out (by omega) _ _ _ _ _ _ _⟩;rw [V.out,Q0C];exact Q6w _ _ _ (by have:=k.out.size;omega)
    |true=>
     go_wp2_with fail;refine ag.mono ?_;rintro e _ ⟨rfl,rfl⟩;clear ag;obtain ⟨base,aO,A⟩:=Qj2 z.out;dsimp only at A
     have aV:g≠v1.heap.size:=by
      intro h6
      rcases A.2 with ⟨h8,_⟩|⟨g9,c9,aR,h8,_,h9,_⟩
      ·simp at h8
      ·simp at h8
       have aM:=U.out;rw [←h8.1,h6,aM] at h9;injection h9 with h9;injection h9 with _ h9 _;exact absurd h9 (by decide)
     have am:=Q01 (ao.out g xc base v2 ay.out (by trivial) (ak.out (by trivial)) A);have ad:=Q01 (Qd4 lt now a p v);have aT:=(A.lt g rfl).2;clear A U
     have a2:w.heap.size < W0.heap.size:=by omega
     have aW:w.heap.size+1+1 < v1.heap.size:=by omega
     have aS:W0.heap.size≤g:=by omega
     obtain ⟨rl,aG⟩:∃x,Q1I lt now a p v=x:=⟨_,rfl⟩;rw [aG] at am ad V;clear aG ao
     have e0:ab=true:=by rw [X.out];rfl
     subst e0;clear X;go_wp2_with fail;refine (am.out).mono ?_;rintro e w5 ⟨rfl,aF,s5⟩;have a0:=s5.size;replace x0:=s5.cellP x0 (by (try dsimp only);omega);replace x1:=s5.cellP x1 (by (try dsimp only);omega);replace x2:=s5.cellP x2 (by (try dsimp only);omega);replace x3:=s5.cellP x3 (by (try dsimp only);omega);replace x4:=s5.cellP x4 (by (try dsimp only);omega);replace x5:=s5.cellP x5 (by (try dsimp only);omega);replace x6:=s5.cellP x6 (by (try dsimp only);omega);replace F:=s5.cellP F (.inl (by (try dsimp only);omega));replace G:=s5.cellP G (.inl (by (try dsimp only);omega))
     replace H:=s5.cellP H (.inl (by (try dsimp only);omega));replace I:=s5.cellP I (.inl (by (try dsimp only);omega));replace J:=s5.cellP J (.inl (by (try dsimp only);omega));replace L:=s5.cellP L (.inl (by (try dsimp only);omega));replace M:=s5.cellP M (.inl (by (try dsimp only);omega));replace l:=Stp.frozen s5 l (by omega) (.inl (by (try dsimp only);omega));replace n:=Stp.frozen s5 n (by omega) (.inl (by (try dsimp only);omega));replace q:=Stp.frozen s5 q (by omega) (.inl (by (try dsimp only);omega))
     replace s:=Stp.frozen s5 s (by omega) (.inl (by (try dsimp only);omega));replace t:=Stp.frozen s5 t (by omega) (.inl (by (try dsimp only);omega));replace u:=Stp.frozen s5 u (by omega) (.inl (by (try dsimp only);omega));replace y:=Stp.frozen s5 y (by omega) (.inl (by (try dsimp only);omega));replace k:=Q01 (k.out.trans (s5.below (by omega) k.out.size));replace z:=Q01 (Bx.turn z.out s5 ad.out base aO aF);clear aF s5 am Y Z z0 z1 z2 z3 z4 z5 z6 D C B
     have aw:=Q01 (Q8x W0.heap.size g lt.length xc kq yo yn yc sq kr uo un uc vo vn vc ⟨⟨N,O,P⟩,⟨E,lb,T⟩,rl⟩ w5 ad.out.symm (by dsimp only;rw [ad.out];exact f7) (by omega) z.out);clear z;go_wp2_with fail;refine (aw.out).mono ?_;rintro e w6 ⟨tO,tn,tc,rfl,aK,j⟩;have a1:=j.size;replace F:=bC j F (by omega);replace G:=bC j G (by omega);replace H:=bC j H (by omega);replace I:=bC j I (by omega);replace J:=bC j J (by omega);replace L:=bC j L (by omega);replace M:=bC j M (by omega);replace l:=bF j l (by omega);replace n:=bF j n (by omega)
     replace q:=bF j q (by omega);replace s:=bF j s (by omega);replace t:=bF j t (by omega);replace u:=bF j u (by omega);replace y:=bF j y (by omega);replace k:=Q01 (k.out.trans (j.mono k.out.size));have aL:=Q01 aK;clear aK j aw x0 x1 x2 x3 x4 x5 x6;go_wp2;refine bodyPost_ret (v:=.tuple #[Q13 kq (.slice yo yn yc) sq kr (.slice uo un uc) (.slice vo vn vc) (.slice tO tn tc),.bool true]) (by simp [results,Tryz.results22,go_sem,F,G,H,I,J,L,M]) rfl ⟨_,rfl, ?_,Q0v k.out (by omega) _ _ _ _ _ _ _⟩;rw [V.out,Q0C]
     exact (aL.out.step (Q1b _ _ _ _ _ _ _ _ _) (.inl (by omega))).mono (by omega) (Kaq _)
def BalRd (w:World) (v:Value) (m:Bm):Prop:=∃(o:Option Addr) (c:Nat) (ob:Option Addr) (np cb:Nat) (oR:Option Addr) (nr cR:Nat) (ot:Option Addr) (ct:Nat),v=Q13 m.j.key (.slice o m.j.l.length c) m.j.safe m.p.key (.slice ob np cb) (.slice oR nr cR) (.slice ot m.t.length ct)∧RdC w.heap.size w o m.j.l∧(o=none→c=0)∧Q86 w.heap.size w (plv m.p.key (.slice ob np cb) (.slice oR nr cR)) m.p∧RdS w.heap.size w ot m.t∧Q6L m
theorem BalRd.kept {w b:World} {v:Value} {m:Bm} (h:BalRd w v m) (a:Below w.heap.size w b):BalRd b v m:=by
 obtain ⟨o,c,n,j,f,l,k,d,p,g,rfl,q,r,s,t,i⟩:=h;exact ⟨o,c,n,j,f,l,k,d,p,g,rfl,(q.kept a (Kaq _)).le a.size,r,(s.kept a (Kaq _)).le a.size,(t.kept a (Kaq _)).le a.size,i⟩
theorem OrBr.brd {lo hi:Nat} {w:World} {q:Int} {o:Option Addr} {s c:Nat} {v r:Int} {n:Option Addr} {j b:Nat} {l:Option Addr} {k a:Nat} {p:Option Addr} {u d:Nat} {m:Bm} (h:OrBr lo hi w (Q13 q (.slice o s c) v r (.slice n j b) (.slice l k a) (.slice p u d)) m) (y:hi≤w.heap.size) (x:fitBm m∧m.t.length≤16):BalRd w (Q13 q (.slice o s c) v r (.slice n j b) (.slice l k a) (.slice p u d)) m:=by
 obtain ⟨D,lb,E,lt,rfl,g,i,z,A,B,C,f⟩:=h.use y x;exact ⟨o,c,n,j,b,l,k,a,p,d,by rw [g,i],z,A,B,C,f⟩
theorem InBm.brd {lo hi:Nat} {w:World} {v:Value} {m:Bm} (h:InBm lo hi w v m) (g:hi≤w.heap.size) (f:Q6L m):BalRd w v m:=by
 obtain ⟨o,c,j,b,i,a,k,d,rfl,l,n,p,q⟩:=Q6h h g;exact ⟨o,c,j,_,b,i,_,a,k,d,rfl,l,n,p,q,f⟩
theorem Qh8 {m:Bm} (h:Q2g m=true):Q6L m:=(Q83 h).b0
theorem BalRd.pool {w:World} {j:Int} {n:Value} {l a:Int} {b d q:Value} {m:Bm} (h:BalRd w (Q13 j n l a b d q) m):Q86 w.heap.size w (plv a b d) m.p:=by
 obtain ⟨o,c,z,v,s,y,x,r,A,t,e,B,C,k,D,u⟩:=h;simp only [Value.agg.injEq,Array.mk.injEq,List.cons.injEq,and_true,true_and,Value.int.injEq] at e;obtain ⟨_,_,_,f,g,i,_⟩:=e;rw [f,g,i];exact k
theorem BalRd.tab {w:World} {j:Int} {r:Value} {p k:Int} {q s:Value} {b:Option Addr} {a d:Nat} {m:Bm} (h:BalRd w (Q13 j r p k q s (.slice b a d)) m):a=m.t.length∧RdS w.heap.size w b m.t∧m.t.length≤1048576:=by
 obtain ⟨o,c,A,x,v,z,y,u,l,f,e,B,C,D,n,i⟩:=h;simp only [Value.agg.injEq,Array.mk.injEq,List.cons.injEq,and_true,true_and,Value.int.injEq] at e;obtain ⟨_,_,_,_,_,_,g⟩:=e;injection g with e1 e2 e3;rw [e1];exact ⟨e2,n,i.2.2⟩
theorem Q5g {v:Value} {m:Bm} {w:World} (a p:Int) (h:BalRd w v m):
  Calls Tryz.prog 16 #[v,Q6f a p] w fun e z=> e=.returned (.int .i64 (Q59 m a p))∧Below w.heap.size w z:=by
 obtain ⟨o,c,q,i,d,n,k,b,r,f,rfl,s,u,x,y,g⟩:=h;exact QaZ m.j.key o m.j.l.length c m.j.safe m.p.key q i d n k b r m.t.length f m.j.l m.p.l m.p.ring m.t a p w rfl rfl s u x y g
theorem QaS {v:Value} {m:Bm} {w:World} (h:BalRd w v m):
  Calls Tryz.prog 24 #[v] w fun e y=> e=.returned (.bool (Q2g m))∧Below w.heap.size w y:=by
 obtain ⟨o,c,n,g,b,k,i,a,q,d,rfl,r,s,u,x,f⟩:=h;exact Q9F m.j.key o m.j.l.length c m.j.safe m.p.key n g b k i a q m.t.length d m.j.l m.p.l m.p.ring m.t w rfl rfl r s u x f
theorem Q9W {v:Value} {m:Bm} {w:World} (now a p x:Int) (h:BalRd w v m):
  Calls Tryz.prog 22 #[v,.int .i64 now,Q6f a p,.int .i64 x] w fun e b=> ∃v',e=.returned (.tuple #[v',.bool (Q5D m now a p x)])∧InBm w.heap.size b.heap.size b v' (Q2q m now a p x)∧Below w.heap.size w b:=by
 obtain ⟨o,c,r,k,f,q,n,d,s,g,rfl,u,y,z,A,i⟩:=h;exact Q94 m.j.key o m.j.l.length c m.j.safe m.p.key r k f q n d s m.t.length g m.j.l m.p.l m.p.ring m.t now a p x w rfl rfl u y z A i
theorem Qdh {m:Bm} (h:Q2g m=true):∀i,i < m.p.ring.length→(m.p.ring.getD i []).length=8:=fun i hi=> (Q4S ((Q1B (Q5z h)).2.2.2.2 i hi)).1
end Go.Proofs.YtpneolgdghbinaaGreat
