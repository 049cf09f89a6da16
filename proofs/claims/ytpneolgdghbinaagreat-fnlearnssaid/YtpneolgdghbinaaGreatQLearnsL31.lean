/- Hint, on both sides. -/
import Derived.Test.YtpneolgdghbinaaGreatQLearnsL30
namespace Go.Proofs.YtpneolgdghbinaaGreat
open Go.ChangeShapes Go.WideShapes Go.ChangeAt Go.RowKit Go.Joins
set_option linter.unusedVariables false
set_option linter.unusedSimpArgs false
set_option maxRecDepth 100000
set_option maxHeartbeats 40000000
def Q4z (l:List Sl) (a p:Int):Int:=if (Q0Z l a p).2=true then (Q6j l a p).v else -1
def Q58 (m:Bm) (a p:Int):Int:=if (Q2h m && Q0h a p)=true then Q4z m.t a p else -1
theorem Q1N {m:Bm} (h:Q2h m=true):Q0c m.t=true:=by
 rw [Qfp] at h;simp only [Bool.and_eq_true] at h;exact h.2.1
theorem Q40 {m:Bm} (h:Q2h m=true):0 < m.t.length:=(Q07.1 (Q1N h)).1
theorem Qgu {C:Nat} {w:World} {o:Option Addr} {l:List Sl} (h:RdS C w o l) (a:0 < l.length):∃b off,o=some ⟨b,off,none⟩∧b < C∧∀i,i < l.length→∀j,j < Q0g.k→w.cell? ⟨b,off+i * Q0g.k+j,none⟩=(Q0g.cs (l.getD i Q0g.d))[j]? :=by
 rcases h with h|⟨b,off,e,c,r⟩
 ·subst h;simp at a
 ·exact ⟨b,off,e,c,r⟩
theorem Q84 {lo hi:Nat} {w:World} {f:Option Addr} {n z:Nat} {l:Int} {s:Option Addr} {i u:Nat} {m v:Int} {k:Option Addr} {A y:Nat} {x:Option Addr} {q B:Nat} {j:Jm} {p:Pm} {t:List Sl} (h:QiY lo hi w (Qce (.slice f n z) l (.slice s i u) m v (.slice k A y) (.slice x q B)) j p t) (T:0 < t.length):
  ∃g a b,lo≤a∧a≤g∧g < b∧b≤hi∧l=j.key∧m=j.safe∧v=p.key∧f=some ⟨g,0,none⟩∧n=t.length∧InPm lo a w (plv p.key (.slice k A y) (.slice x q B)) p∧w.ownsRow a Q1H 5 (.slice (some ⟨g,0,none⟩) t.length z) t.length (t.flatMap Q0g.cs)∧InJm b hi w (jrn j.key (.slice s i u) j.safe) j:=by
 obtain ⟨Y,V,U,R,a,b,e,N,X,G,C,d,H⟩:=h;simp only [Value.agg.injEq,Array.mk.injEq,List.cons.injEq,and_true,Value.int.injEq,true_and] at e;obtain ⟨F,L,O,D,J,I,E⟩:=e;subst F O I E;have c:=d
 rcases c.1.2 with ⟨Z,h2⟩|⟨g,cap,M,hv,P,r⟩
 ·exact absurd h2 (by omega)
 ·injection hv with h4 h5 h6
  subst h4 h5 h6;exact ⟨g,a,b,N,P,d.2 g rfl,G,L,D,J,rfl,rfl,C,d.1,H⟩
theorem Q8p (b off c:Nat) (l:List Sl) (a p:Int) (w:World) (N:0 < l.length) (hl:l.length≤1048576) (Y:Q0h a p=true) (E:b < w.heap.size) (L:∀i,i < l.length→∀j,j < Q0g.k→w.cell? ⟨b,off+i * Q0g.k+j,none⟩=(Q0g.cs (l.getD i Q0g.d))[j]?):
  Calls Tryz.prog 54 #[tab (.slice (some ⟨b,off,none⟩) l.length c),Q6c a p] w fun e U=> e=.returned (.int .i64 (Q4z l a p))∧Below w.heap.size w U:=by
 have P:=Q01 L;clear L;obtain ⟨J,n⟩:∃W,((w.alloc (.cells #[.slice (some ⟨b,off,none⟩) l.length c] 91)).alloc (.cells #[.int .i64 a,.int .i64 p] 36))=W:=⟨_,rfl⟩;have s:=alb0v0v2 n;have x:=Q01 s;clear s;have m:=alz0v0v2 n
 have y:J.cell? ⟨w.heap.size,0,none⟩=some (.slice (some ⟨b,off,none⟩) l.length c):=by rw [←n];simp [go_sem]
 have h:=alz0v1v2 n;obtain ⟨z,A⟩:=alc2v1v2 n;have H:=QhI b off c l a p J N hl Y (Kbq E x.out.size) (fun i hi j O=> (x.out.cell (p:=⟨b,off+i * Q0g.k+j,none⟩) E).trans (P.out i hi j O));obtain ⟨r,F⟩:∃r,Q4z l a p=r:=⟨_,rfl⟩;rw [F];obtain ⟨q,G⟩:∃q,Q6j l a p=q:=⟨_,rfl⟩;obtain ⟨f,B⟩:∃f,(Q0Z l a p).2=f:=⟨_,rfl⟩;rw [G,B] at H
 have I:Hid (r=if f=true then q.v else -1):=by unfold Hid;rw [←F,←G,←B];rfl
 clear G B F;go_enter Tryz.func54,Tryz.ntmps54;go_wp2_with fail;refine (H).mono ?_;rintro e Z ⟨rfl,C⟩;replace y:=bC C y m;replace m:=Kbq m C.size;replace z:=bC C z h;replace A:=bC C A h;replace h:=Kbq h C.size;replace x:=Q01 (x.out.trans (C.mono x.out.size));clear C;clear H;obtain ⟨W2,D⟩:∃W,(Z.alloc (.cells #[.bool q.u,.int .i64 q.a,.int .i64 q.p,.int .i64 q.v,.int .i64 q.t] 165))=W:=⟨_,rfl⟩;have g:=alb0v0v1 D;replace y:=bC g y m;replace m:=Kbq m g.size;replace z:=bC g z h;replace A:=bC g A h
 replace h:=Kbq h g.size;replace x:=Q01 (x.out.trans (g.mono x.out.size));clear g;have V:=alz0v0v1 D;obtain ⟨R,T,M,aa,X⟩:=alc5v0v1 D
 cases f with
 |false=>
  go_wp2;go_ret;exact ⟨Q0L (by rw [I.out];rfl),x.out⟩
 |true=>
  go_wp2;go_ret;exact ⟨Q0L (by rw [I.out];rfl),x.out⟩
theorem QaJ (I:Int) (o:Option Addr) (nj c:Nat) (H C:Int) (ob:Option Addr) (np cb:Nat) (oR:Option Addr) (nr cR:Nat) (ot:Option Addr) (nt ct:Nat) (J:List Cd) (lb:List Bk) (L:List (List (List Int))) (lt:List Sl) (a p:Int) (w:World)
  (ac:nj=J.length) (ad:nt=lt.length) (h1:RdC w.heap.size w o J) (af:o=none→c=0) (h2:Q86 w.heap.size w (plv C (.slice ob np cb) (.slice oR nr cR)) ⟨C,lb,L⟩) (h4:RdS w.heap.size w ot lt) (hf:Q6L ⟨⟨I,J,H⟩,⟨C,lb,L⟩,lt⟩):
  Calls Tryz.prog 16 #[Q13 I (.slice o nj c) H C (.slice ob np cb) (.slice oR nr cR) (.slice ot nt ct),Q6c a p] w fun e w'=> e=.returned (.int .i64 (Q58 ⟨⟨I,J,H⟩,⟨C,lb,L⟩,lt⟩ a p))∧Below w.heap.size w w':=by
 have O:=Q01 (fun W (d:Below w.heap.size w W)=> Q2P I o nj c H C ob np cb oR nr cR ot nt ct J lb L lt W ac ad ((h1.kept d (Kaq _)).le d.size) af ((h2.kept d (Kaq _)).le d.size) ((h4.kept d (Kaq _)).le d.size) hf);have f7:lt.length≤1048576:=hf.2.2;have ab:=Q01 (fun h=> Q40 (m:=⟨⟨I,J,H⟩,⟨C,lb,L⟩,lt⟩) h);have P:=Q01 (show Q58 ⟨⟨I,J,H⟩,⟨C,lb,L⟩,lt⟩ a p=if (Q2h ⟨⟨I,J,H⟩,⟨C,lb,L⟩,lt⟩ && Q0h a p)=true then Q4z lt a p else -1 from rfl);clear h1 h2 h4 ac ad hf;obtain ⟨bb,aa⟩:∃x,Q2h ⟨⟨I,J,H⟩,⟨C,lb,L⟩,lt⟩=x:=⟨_,rfl⟩
 obtain ⟨r,hr⟩:∃r,Q58 ⟨⟨I,J,H⟩,⟨C,lb,L⟩,lt⟩ a p=r:=⟨_,rfl⟩;rw [hr];rw [aa] at O ab P;rw [hr] at P;clear aa hr;obtain ⟨fo,M⟩:∃x,Q0h a p=x:=⟨_,rfl⟩;have T:=Q01 M;rw [M] at P;clear M;obtain ⟨W0,G⟩:∃W,((w.alloc (.cells #[.int .i64 I,.slice o nj c,.int .i64 H,.int .i64 C,.slice ob np cb,.slice oR nr cR,.slice ot nt ct] 34)).alloc (.cells #[.int .i64 a,.int .i64 p] 36))=W:=⟨_,rfl⟩;have F:=alb0v0v2 G;have k:=Q01 F;clear F;have f:=alz0v0v2 G;obtain ⟨q,A,t,B,E,z,D⟩:=alc7v0v2 G;have j:=alz0v1v2 G;obtain ⟨v,u⟩:=alc2v1v2 G
 go_enter Tryz.func16,Tryz.ntmps16;go_wp2_with fail;refine (O.out W0 k.out).mono ?_;rintro e v1 ⟨xo,xn,xc,kq,yo,yn,yc,sq,kr,uo,un,uc,vo,vn,vc,rfl,ae,d⟩;have X:=Q01 ae;clear ae O;replace q:=bC d q f;replace A:=bC d A f;replace t:=bC d t f;replace B:=bC d B f;replace E:=bC d E f;replace z:=bC d z f;replace D:=bC d D f;replace f:=Kbq f d.size;replace v:=bC d v j;replace u:=bC d u j;replace j:=Kbq j d.size;replace k:=Q01 (k.out.trans (d.mono k.out.size));clear d
 cases bb with
 |false=>
  obtain ⟨W2,n⟩:∃W,(v1.alloc (.cells #[.slice xo xn xc,.int .i64 kq,.slice yo yn yc,.int .i64 sq,.int .i64 kr,.slice uo un uc,.slice vo vn vc] 93))=W:=⟨_,rfl⟩;have b:=alb0v0v1 n;replace q:=bC b q f;replace A:=bC b A f;replace t:=bC b t f;replace B:=bC b B f;replace E:=bC b E f;replace z:=bC b z f;replace D:=bC b D f;replace f:=Kbq f b.size;replace v:=bC b v j;replace u:=bC b u j;replace j:=Kbq j b.size;replace k:=Q01 (k.out.trans (b.mono k.out.size));clear b;have i:=alz0v0v1 n
  obtain ⟨x0,Z,U,N,R,V,Y⟩:=alc7v0v1 n;clear X;go_wp2;go_ret;exact ⟨Q0L (by rw [P.out];rfl),k.out⟩
 |true=>
  have hn:=ab.out rfl
  (try dsimp only at hn)
  obtain ⟨g,a2,b2,k1,k2,k3,k4,e1,e2,e3,rfl,rfl,i1,i2,i3⟩:=Q84 (X.out rfl) hn;have s:=Q01 i2;clear i1 i2 i3 X e1 e2 e3;obtain ⟨W2,n⟩:∃W,(v1.alloc (.cells #[.slice (some ⟨g,0,none⟩) lt.length xc,.int .i64 kq,.slice yo yn yc,.int .i64 sq,.int .i64 kr,.slice uo un uc,.slice vo vn vc] 93))=W:=⟨_,rfl⟩;have b:=alb0v0v1 n;replace q:=bC b q f;replace A:=bC b A f;replace t:=bC b t f;replace B:=bC b B f;replace E:=bC b E f;replace z:=bC b z f;replace D:=bC b D f;replace f:=Kbq f b.size;replace v:=bC b v j
  replace u:=bC b u j;replace j:=Kbq j b.size;replace s:=Q01 (Q03 s.out b);replace k:=Q01 (k.out.trans (b.mono k.out.size));clear b;have i:=alz0v0v1 n;obtain ⟨x0,Z,U,N,R,V,Y⟩:=alc7v0v1 n
  cases fo with
  |false=>
   have l:=Q0N a p W2;rw [T.out] at l;go_wp2_with fail;refine (l).mono ?_;rintro e v2 ⟨rfl,d⟩;replace q:=bC d q f;replace A:=bC d A f;replace t:=bC d t f;replace B:=bC d B f;replace E:=bC d E f;replace z:=bC d z f;replace D:=bC d D f;replace f:=Kbq f d.size;replace v:=bC d v j;replace u:=bC d u j;replace j:=Kbq j d.size;replace x0:=bC d x0 i;replace Z:=bC d Z i;replace U:=bC d U i;replace N:=bC d N i;replace R:=bC d R i;replace V:=bC d V i;replace Y:=bC d Y i;replace i:=Kbq i d.size;replace s:=Q01 (Q03 s.out d)
   replace k:=Q01 (k.out.trans (d.mono k.out.size));clear d;clear l s;go_wp2;go_ret;exact ⟨Q0L (by rw [P.out];rfl),k.out⟩
  |true=>
   have l:=Q0N a p W2;rw [T.out] at l;go_wp2_with fail;refine (l).mono ?_;rintro e v2 ⟨rfl,d⟩;replace q:=bC d q f;replace A:=bC d A f;replace t:=bC d t f;replace B:=bC d B f;replace E:=bC d E f;replace z:=bC d z f;replace D:=bC d D f;replace f:=Kbq f d.size;replace v:=bC d v j;replace u:=bC d u j;replace j:=Kbq j d.size;replace x0:=bC d x0 i;replace Z:=bC d Z i;replace U:=bC d U i;replace N:=bC d N i;replace R:=bC d R i;replace V:=bC d V i;replace Y:=bC d Y i;replace i:=Kbq i d.size;replace s:=Q01 (Q03 s.out d)
   replace k:=Q01 (k.out.trans (d.mono k.out.size));clear d;clear l;go_wp2_with fail;refine (Q8p g 0 xc lt a p v2 hn f7 T.out (s.out.lt g rfl).2 (Q1t s.out rfl)).mono ?_;rintro e v3 ⟨rfl,d⟩;replace q:=bC d q f;replace A:=bC d A f;replace t:=bC d t f;replace B:=bC d B f;replace E:=bC d E f;replace z:=bC d z f;replace D:=bC d D f;replace f:=Kbq f d.size;replace v:=bC d v j;replace u:=bC d u j;replace j:=Kbq j d.size;replace x0:=bC d x0 i;replace Z:=bC d Z i;replace U:=bC d U i;replace N:=bC d N i;replace R:=bC d R i
   replace V:=bC d V i;replace Y:=bC d Y i;replace i:=Kbq i d.size;replace s:=Q01 (Q03 s.out d);replace k:=Q01 (k.out.trans (d.mono k.out.size));clear d;clear s;obtain ⟨y,hy⟩:∃y,Q4z lt a p=y:=⟨_,rfl⟩;simp only [hy];rw [hy] at P;clear hy;go_wp2;go_ret;exact ⟨Q0L (by rw [P.out];rfl),k.out⟩
end Go.Proofs.YtpneolgdghbinaaGreat
