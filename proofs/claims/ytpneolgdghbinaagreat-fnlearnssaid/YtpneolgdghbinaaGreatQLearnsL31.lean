/- Hint, on both sides. -/
import Derived.Test.YtpneolgdghbinaaGreatQLearnsL30
namespace Go.Proofs.YtpneolgdghbinaaGreat
open Go.ChangeShapes Go.WideShapes Go.ChangeAt Go.RowKit Go.Joins
set_option linter.unusedVariables false
set_option linter.unusedSimpArgs false
set_option maxRecDepth 100000
set_option maxHeartbeats 40000000
def Q4v (l:List Sl) (a p:Int):Int:=if (Q0Z l a p).2=true then (Q6a l a p).v else -1
def Q59 (m:Bm) (a p:Int):Int:=if (Q2g m && Q0h a p)=true then Q4v m.t a p else -1
theorem Q1N {m:Bm} (h:Q2g m=true):Q0c m.t=true:=by
 rw [Qf6] at h;simp only [Bool.and_eq_true] at h;exact h.2.1
theorem Q3R {m:Bm} (h:Q2g m=true):0 < m.t.length:=(Q07.1 (Q1N h)).1
theorem Qgz {C:Nat} {w:World} {o:Option Addr} {l:List Sl} (h:RdS C w o l) (c:0 < l.length):∃b off,o=some ⟨b,off,none⟩∧b < C∧∀i,i < l.length→∀j,j < Q0g.k→w.cell? ⟨b,off+i * Q0g.k+j,none⟩=(Q0g.cs (l.getD i Q0g.d))[j]? :=by
 rcases h with h|⟨b,off,e,a,r⟩
 ·subst h;simp at c
 ·exact ⟨b,off,e,a,r⟩
theorem Q7b {lo hi:Nat} {w:World} {y:Option Addr} {x v:Nat} {f:Int} {B:Option Addr} {A z:Nat} {k i:Int} {n:Option Addr} {m l:Nat} {u:Option Addr} {s q:Nat} {j:Jm} {p:Pm} {t:List Sl} (h:QiV lo hi w (QcH (.slice y x v) f (.slice B A z) k i (.slice n m l) (.slice u s q)) j p t) (T:0 < t.length):
  ∃g a b,lo≤a∧a≤g∧g < b∧b≤hi∧f=j.key∧k=j.safe∧i=p.key∧y=some ⟨g,0,none⟩∧x=t.length∧InPm lo a w (plv p.key (.slice n m l) (.slice u s q)) p∧w.ownsRow a Q1F 5 (.slice (some ⟨g,0,none⟩) t.length v) t.length (t.flatMap Q0g.cs)∧InJm b hi w (jrn j.key (.slice B A z) j.safe) j:=by
 obtain ⟨Z,X,V,Y,a,b,e,O,U,P,M,c,N⟩:=h;simp only [Value.agg.injEq,Array.mk.injEq,List.cons.injEq,and_true,Value.int.injEq,true_and] at e;obtain ⟨D,E,F,G,H,I,J⟩:=e;subst D F I J;have d:=c
 rcases d.1.2 with ⟨R,h2⟩|⟨g,cap,C,hv,L,r⟩
 ·exact absurd h2 (by omega)
 ·injection hv with h4 h5 h6
  subst h4 h5 h6;exact ⟨g,a,b,O,L,c.2 g rfl,P,E,G,H,rfl,rfl,M,c.1,N⟩
theorem Q8Q (b off c:Nat) (l:List Sl) (a p:Int) (w:World) (Y:0 < l.length) (X:l.length≤1048576) (U:Q0h a p=true) (E:b < w.heap.size) (L:∀i,i < l.length→∀j,j < Q0g.k→w.cell? ⟨b,off+i * Q0g.k+j,none⟩=(Q0g.cs (l.getD i Q0g.d))[j]?):
  Calls Tryz.prog 54 #[tab (.slice (some ⟨b,off,none⟩) l.length c),Q6f a p] w fun e w'=> e=.returned (.int .i64 (Q4v l a p))∧Below w.heap.size w w':=by
 have M:=Q01 L;clear L;obtain ⟨J,n⟩:∃W,((w.alloc (.cells #[.slice (some ⟨b,off,none⟩) l.length c] 91)).alloc (.cells #[.int .i64 a,.int .i64 p] 36))=W:=⟨_,rfl⟩;have s:=alb0v0v2 n;have x:=Q01 s;clear s;have m:=alz0v0v2 n
 have A:J.cell? ⟨w.heap.size,0,none⟩=some (.slice (some ⟨b,off,none⟩) l.length c):=by rw [←n];simp [go_sem]
 have h:=alz0v1v2 n;obtain ⟨y,z⟩:=alc2v1v2 n;have F:=Qid b off c l a p J Y X U (Kbq E x.out.size) (fun i hi j V=> (x.out.cell (p:=⟨b,off+i * Q0g.k+j,none⟩) E).trans (M.out i hi j V));obtain ⟨r,H⟩:∃r,Q4v l a p=r:=⟨_,rfl⟩;rw [H];obtain ⟨q,G⟩:∃q,Q6a l a p=q:=⟨_,rfl⟩;obtain ⟨f,D⟩:∃f,(Q0Z l a p).2=f:=⟨_,rfl⟩;rw [G,D] at F
 have I:Hid (r=if f=true then q.v else -1):=by unfold Hid;rw [←H,←G,←D];rfl
 clear G D H;go_enter Tryz.func54,Tryz.ntmps54;go_wp2_with fail;refine (F).mono ?_;rintro e Z ⟨rfl,C⟩;replace A:=bC C A m;replace m:=Kbq m C.size;replace y:=bC C y h;replace z:=bC C z h;replace h:=Kbq h C.size;replace x:=Q01 (x.out.trans (C.mono x.out.size));clear C;clear F;obtain ⟨W2,B⟩:∃W,(Z.alloc (.cells #[.bool q.u,.int .i64 q.a,.int .i64 q.p,.int .i64 q.v,.int .i64 q.t] 165))=W:=⟨_,rfl⟩;have g:=alb0v0v1 B;replace A:=bC g A m;replace m:=Kbq m g.size;replace y:=bC g y h;replace z:=bC g z h
 replace h:=Kbq h g.size;replace x:=Q01 (x.out.trans (g.mono x.out.size));clear g;have aa:=alz0v0v1 B;obtain ⟨N,O,P,R,T⟩:=alc5v0v1 B
 cases f with
 |false=>
  go_wp2;go_ret;exact ⟨Q0L (by rw [I.out];rfl),x.out⟩
 |true=>
  go_wp2;go_ret;exact ⟨Q0L (by rw [I.out];rfl),x.out⟩
theorem QaZ (H:Int) (o:Option Addr) (nj c:Nat) (J u:Int) (ob:Option Addr) (np cb:Nat) (oR:Option Addr) (nr cR:Nat) (ot:Option Addr) (nt ct:Nat) (I:List Cd) (lb:List Bk) (L:List (List (List Int))) (lt:List Sl) (a p:Int) (w:World)
  (ad:nj=I.length) (ae:nt=lt.length) (h1:RdC w.heap.size w o I) (af:o=none→c=0) (h2:Q86 w.heap.size w (plv u (.slice ob np cb) (.slice oR nr cR)) ⟨u,lb,L⟩) (h4:RdS w.heap.size w ot lt) (hf:Q6L ⟨⟨H,I,J⟩,⟨u,lb,L⟩,lt⟩):
  Calls Tryz.prog 16 #[Q13 H (.slice o nj c) J u (.slice ob np cb) (.slice oR nr cR) (.slice ot nt ct),Q6f a p] w fun e w'=> e=.returned (.int .i64 (Q59 ⟨⟨H,I,J⟩,⟨u,lb,L⟩,lt⟩ a p))∧Below w.heap.size w w':=by
 have M:=Q01 (fun W (d:Below w.heap.size w W)=> Q2V H o nj c J u ob np cb oR nr cR ot nt ct I lb L lt W ad ae ((h1.kept d (Kaq _)).le d.size) af ((h2.kept d (Kaq _)).le d.size) ((h4.kept d (Kaq _)).le d.size) hf);have f7:lt.length≤1048576:=hf.2.2;have aa:=Q01 (fun h=> Q3R (m:=⟨⟨H,I,J⟩,⟨u,lb,L⟩,lt⟩) h);have P:=Q01 (show Q59 ⟨⟨H,I,J⟩,⟨u,lb,L⟩,lt⟩ a p=if (Q2g ⟨⟨H,I,J⟩,⟨u,lb,L⟩,lt⟩ && Q0h a p)=true then Q4v lt a p else -1 from rfl);clear h1 h2 h4 ad ae hf;obtain ⟨bb,ab⟩:∃x,Q2g ⟨⟨H,I,J⟩,⟨u,lb,L⟩,lt⟩=x:=⟨_,rfl⟩
 obtain ⟨r,hr⟩:∃r,Q59 ⟨⟨H,I,J⟩,⟨u,lb,L⟩,lt⟩ a p=r:=⟨_,rfl⟩;rw [hr];rw [ab] at M aa P;rw [hr] at P;clear ab hr;obtain ⟨fo,R⟩:∃x,Q0h a p=x:=⟨_,rfl⟩;have N:=Q01 R;rw [R] at P;clear R;obtain ⟨W0,F⟩:∃W,((w.alloc (.cells #[.int .i64 H,.slice o nj c,.int .i64 J,.int .i64 u,.slice ob np cb,.slice oR nr cR,.slice ot nt ct] 34)).alloc (.cells #[.int .i64 a,.int .i64 p] 36))=W:=⟨_,rfl⟩;have G:=alb0v0v2 F;have k:=Q01 G;clear G;have f:=alz0v0v2 F;obtain ⟨v,z,A,B,C,D,E⟩:=alc7v0v2 F;have j:=alz0v1v2 F;obtain ⟨s,t⟩:=alc2v1v2 F
 go_enter Tryz.func16,Tryz.ntmps16;go_wp2_with fail;refine (M.out W0 k.out).mono ?_;rintro e v1 ⟨xo,xn,xc,kq,yo,yn,yc,sq,kr,uo,un,uc,vo,vn,vc,rfl,ac,d⟩;have O:=Q01 ac;clear ac M;replace v:=bC d v f;replace z:=bC d z f;replace A:=bC d A f;replace B:=bC d B f;replace C:=bC d C f;replace D:=bC d D f;replace E:=bC d E f;replace f:=Kbq f d.size;replace s:=bC d s j;replace t:=bC d t j;replace j:=Kbq j d.size;replace k:=Q01 (k.out.trans (d.mono k.out.size));clear d
 cases bb with
 |false=>
  obtain ⟨W2,l⟩:∃W,(v1.alloc (.cells #[.slice xo xn xc,.int .i64 kq,.slice yo yn yc,.int .i64 sq,.int .i64 kr,.slice uo un uc,.slice vo vn vc] 93))=W:=⟨_,rfl⟩;have b:=alb0v0v1 l;replace v:=bC b v f;replace z:=bC b z f;replace A:=bC b A f;replace B:=bC b B f;replace C:=bC b C f;replace D:=bC b D f;replace E:=bC b E f;replace f:=Kbq f b.size;replace s:=bC b s j;replace t:=bC b t j;replace j:=Kbq j b.size;replace k:=Q01 (k.out.trans (b.mono k.out.size));clear b;have i:=alz0v0v1 l
  obtain ⟨T,U,V,X,Y,Z,x6⟩:=alc7v0v1 l;clear O;go_wp2;go_ret;exact ⟨Q0L (by rw [P.out];rfl),k.out⟩
 |true=>
  have hn:=aa.out rfl
  (try dsimp only at hn)
  obtain ⟨g,a2,b2,k1,k2,k3,k4,e1,e2,e3,rfl,rfl,i1,i2,i3⟩:=Q7b (O.out rfl) hn;have q:=Q01 i2;clear i1 i2 i3 O e1 e2 e3;obtain ⟨W2,l⟩:∃W,(v1.alloc (.cells #[.slice (some ⟨g,0,none⟩) lt.length xc,.int .i64 kq,.slice yo yn yc,.int .i64 sq,.int .i64 kr,.slice uo un uc,.slice vo vn vc] 93))=W:=⟨_,rfl⟩;have b:=alb0v0v1 l;replace v:=bC b v f;replace z:=bC b z f;replace A:=bC b A f;replace B:=bC b B f;replace C:=bC b C f;replace D:=bC b D f;replace E:=bC b E f;replace f:=Kbq f b.size;replace s:=bC b s j
  replace t:=bC b t j;replace j:=Kbq j b.size;replace q:=Q01 (Q03 q.out b);replace k:=Q01 (k.out.trans (b.mono k.out.size));clear b;have i:=alz0v0v1 l;obtain ⟨T,U,V,X,Y,Z,x6⟩:=alc7v0v1 l
  cases fo with
  |false=>
   have n:=Q0N a p W2;rw [N.out] at n;go_wp2_with fail;refine (n).mono ?_;rintro e v2 ⟨rfl,d⟩;replace v:=bC d v f;replace z:=bC d z f;replace A:=bC d A f;replace B:=bC d B f;replace C:=bC d C f;replace D:=bC d D f;replace E:=bC d E f;replace f:=Kbq f d.size;replace s:=bC d s j;replace t:=bC d t j;replace j:=Kbq j d.size;replace T:=bC d T i;replace U:=bC d U i;replace V:=bC d V i;replace X:=bC d X i;replace Y:=bC d Y i;replace Z:=bC d Z i;replace x6:=bC d x6 i;replace i:=Kbq i d.size;replace q:=Q01 (Q03 q.out d)
   replace k:=Q01 (k.out.trans (d.mono k.out.size));clear d;clear n q;go_wp2;go_ret;exact ⟨Q0L (by rw [P.out];rfl),k.out⟩
  |true=>
   have n:=Q0N a p W2;rw [N.out] at n;go_wp2_with fail;refine (n).mono ?_;rintro e v2 ⟨rfl,d⟩;replace v:=bC d v f;replace z:=bC d z f;replace A:=bC d A f;replace B:=bC d B f;replace C:=bC d C f;replace D:=bC d D f;replace E:=bC d E f;replace f:=Kbq f d.size;replace s:=bC d s j;replace t:=bC d t j;replace j:=Kbq j d.size;replace T:=bC d T i;replace U:=bC d U i;replace V:=bC d V i;replace X:=bC d X i;replace Y:=bC d Y i;replace Z:=bC d Z i;replace x6:=bC d x6 i;replace i:=Kbq i d.size;replace q:=Q01 (Q03 q.out d)
   replace k:=Q01 (k.out.trans (d.mono k.out.size));clear d;clear n;go_wp2_with fail;refine (Q8Q g 0 xc lt a p v2 hn f7 N.out (q.out.lt g rfl).2 (Q1r q.out rfl)).mono ?_;rintro e v3 ⟨rfl,d⟩;replace v:=bC d v f;replace z:=bC d z f;replace A:=bC d A f;replace B:=bC d B f;replace C:=bC d C f;replace D:=bC d D f;replace E:=bC d E f;replace f:=Kbq f d.size;replace s:=bC d s j;replace t:=bC d t j;replace j:=Kbq j d.size;replace T:=bC d T i;replace U:=bC d U i;replace V:=bC d V i;replace X:=bC d X i;replace Y:=bC d Y i
   replace Z:=bC d Z i;replace x6:=bC d x6 i;replace i:=Kbq i d.size;replace q:=Q01 (Q03 q.out d);replace k:=Q01 (k.out.trans (d.mono k.out.size));clear d;clear q;obtain ⟨y,hy⟩:∃y,Q4v lt a p=y:=⟨_,rfl⟩;simp only [hy];rw [hy] at P;clear hy;go_wp2;go_ret;exact ⟨Q0L (by rw [P.out];rfl),k.out⟩
end Go.Proofs.YtpneolgdghbinaaGreat
