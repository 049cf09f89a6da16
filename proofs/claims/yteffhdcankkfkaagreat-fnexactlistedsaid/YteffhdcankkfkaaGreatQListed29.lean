/- Several texts in one: ShMs, ShMs2, SPlace, JMath, DoMath, STab3, SDelete, SDeed. -/
import Derived.Test.YteffhdcankkfkaaGreatQListed16
import Derived.Test.YteffhdcankkfkaaGreatQListed28
namespace Go.Proofs.YteffhdcankkfkaaGreat
open Go.ChangeShapes Go.WideShapes Go.ChangeAt Go.RowKit Go.Joins
set_option linter.unusedVariables false
set_option linter.unusedSimpArgs false
set_option maxRecDepth 100000
set_option maxHeartbeats 40000000
theorem bCM {C b j:Nat} {w w':World} {u:Value} (h:Below C w w') (hc:w.cell? ⟨b,j,none⟩=some u) (hz:b < C):w'.cell? ⟨b,j,none⟩=some u:=(h.cell (p:=⟨b,j,none⟩) hz).trans hc
structure Mh where
 k:Int
 a:Int
 b:Int
 f:Int
 s:Int
 l:Hd
 g:Hd
 pl:Int
 st:Int
 fa:Int
 fp:Int
 bk:Int
def Q0A:Lay Mh:=⟨12,fun h=> [.int .i64 h.k,.int .i64 h.a,.int .i64 h.b,.int .i64 h.f,.int .i64 h.s,.slice h.l.1 h.l.2.1 h.l.2.2,.slice h.g.1 h.g.2.1 h.g.2.2,.int .i64 h.pl,.int .i64 h.st,.int .i64 h.fa,.int .i64 h.fp,.int .i64 h.bk],⟨0,0,0,0,0,(none,0,0),(none,0,0),0,0,0,0,0⟩,fun _=>rfl⟩
abbrev mmD:Mm:=⟨0,Cm.zero,0,0,0⟩
abbrev Qj0 (h:Mh):Value:=mlv h.k h.a h.b h.f h.s (.slice h.l.1 h.l.2.1 h.l.2.2) (.slice h.g.1 h.g.2.1 h.g.2.2) h.pl h.st h.fa h.fp h.bk
def RiM (lo hi:Nat) (w:World) (v:Value) (m:Mm):Prop:=∃o1 c1 o2 c2,v=mlv m.k m.c.a m.c.b m.c.f m.c.s (.slice o1 m.c.l.length c1) (.slice o2 m.c.g.length c2) m.c.pl m.c.st m.fa m.fp m.bk/\RiV Qdf lo hi w (.slice o1 m.c.l.length c1) m.c.l/\RiV Q1R lo hi w (.slice o2 m.c.g.length c2) m.c.g
def QM (lo hi:Nat) (w:World) (v:Value) (m:Mm):Prop:=∃v1 v2 a b a' b',v=mlv m.k m.c.a m.c.b m.c.f m.c.s v1 v2 m.c.pl m.c.st m.fa m.fp m.bk/\(lo<=a/\b<=hi/\lo<=a'/\b'<=hi)/\InL Qdf 5 a b w v1 m.c.l/\InL Q1R 136 a' b' w v2 m.c.g/\(v1.ownBlock=none\/v1.ownBlock≠v2.ownBlock)
theorem RiM.rs:Stps RiM:=⟨fun ⟨o1,c1,o2,c2,e,h1,h2⟩ s hd=>⟨o1,c1,o2,c2,e,h1.step s hd,h2.step s hd⟩⟩
theorem RiM.rm:Monos RiM:=⟨fun ⟨o1,c1,o2,c2,e,h1,h2⟩ k1 k2=>⟨o1,c1,o2,c2,e,h1.mono k1 k2,h2.mono k1 k2⟩⟩
theorem QM.qs:Stps QM:=⟨fun ⟨v1,v2,a,b,a',b',e,k,h1,h2,h3⟩ s hd=>⟨v1,v2,a,b,a',b',e,k,InRow.step h1 s (by omega),InRow.step h2 s (by omega),h3⟩⟩
theorem QM.qr {lo hi:Nat} {w:World} {v:Value} {m:Mm} (h:QM lo hi w v m):RiM lo hi w v m:=by
 obtain⟨q,r,a,b,a',b',e,k,l,h2,_⟩:=h;obtain⟨f,c,i,n⟩:=InRow.ri l;obtain⟨g,d,j,p⟩:=InRow.ri h2;subst i j;exact⟨f,c,g,d,e,RiV.mono ⟨f,c,rfl,n⟩ k.1 k.2.1,RiV.mono ⟨g,d,rfl,p⟩ k.2.2.1 k.2.2.2⟩
def elM:El Mh Mm:=⟨Q0A,Qj0,RiM,QM,mmD,by decide,RiM.rs,RiM.rm,QM.qs,QM.qr⟩
theorem RiM.rd {C:Nat} {w:World} {v:Value} {m:Mm} (h:RiM 0 C w v m):RdMm C w v m:=by
 obtain⟨o1,c1,o2,c2,e,⟨o1',c1',e1,r1⟩,⟨o2',c2',e2,r2⟩⟩:=h;exact⟨_,_,e,⟨o1',c1',e1,r1.rd⟩,⟨o2',c2',e2,r2.rd⟩⟩
theorem RiM.on {w a:World} {v:Value} {m:Mm} (h:RiM 0 w.heap.size w v m) (b:Below w.heap.size w a):RdMm a.heap.size a v m:=
 (RiM.rm.go (RiM.rs.go h (Stp.of (lo:=0) (hi:=0) b) (.inl (Kcq _))) (Kaq _) b.size).rd
theorem RiM.cells {a C:Nat} {w:World} {o:Option Addr} {n c:Nat} {xs:List Mm} (h:RiE elM a C w (.slice o n c) xs) (i:Nat) (hi:i < xs.length) {m:Mm} (hm:xs.getD i mmD=m):
  ∃b j t q u r,o=some ⟨b,j,none⟩/\b < C/\w.cell? ⟨b,j+i * 12,none⟩=some (.int .i64 m.k)/\w.cell? ⟨b,j+i * 12+1,none⟩=some (.int .i64 m.c.a)/\w.cell? ⟨b,j+i * 12+2,none⟩=some (.int .i64 m.c.b)/\w.cell? ⟨b,j+i * 12+3,none⟩=some (.int .i64 m.c.f)/\w.cell? ⟨b,j+i * 12+4,none⟩=some (.int .i64 m.c.s)/\w.cell? ⟨b,j+i * 12+5,none⟩=some (.slice t m.c.l.length q)/\w.cell? ⟨b,j+i * 12+6,none⟩=some (.slice u m.c.g.length r)/\w.cell? ⟨b,j+i * 12+7,none⟩=some (.int .i64 m.c.pl)/\w.cell? ⟨b,j+i * 12+8,none⟩=some (.int .i64 m.c.st)/\w.cell? ⟨b,j+i * 12+9,none⟩=some (.int .i64 m.fa)/\w.cell? ⟨b,j+i * 12+10,none⟩=some (.int .i64 m.fp)/\w.cell? ⟨b,j+i * 12+11,none⟩=some (.int .i64 m.bk)/\RiM a C w (mlv m.k m.c.a m.c.b m.c.f m.c.s (.slice t m.c.l.length q) (.slice u m.c.g.length r) m.c.pl m.c.st m.fa m.fp m.bk) m/\RiV Qdf a C w (.slice t m.c.l.length q) m.c.l/\RiV Q1R a C w (.slice u m.c.g.length r) m.c.g:=by
 obtain⟨b,j,y,rfl,hb,p,N⟩:=h.at i hi;rw[show xs.getD i elM.d=m from hm]at N;obtain⟨t,q,u,r,e,O,P⟩:=N;have B:Value.agg #[.int .i64 y.k,.int .i64 y.a,.int .i64 y.b,.int .i64 y.f,.int .i64 y.s,.slice y.l.1 y.l.2.1 y.l.2.2,.slice y.g.1 y.g.2.1 y.g.2.2,.int .i64 y.pl,.int .i64 y.st,.int .i64 y.fa,.int .i64 y.fp,.int .i64 y.bk]=Value.agg #[.int .i64 m.k,.int .i64 m.c.a,.int .i64 m.c.b,.int .i64 m.c.f,.int .i64 m.c.s,.slice t m.c.l.length q,.slice u m.c.g.length r,.int .i64 m.c.pl,.int .i64 m.c.st,.int .i64 m.fa,.int .i64 m.fp,.int .i64 m.bk]:=e
 simp only[Value.agg.injEq,Array.mk.injEq,List.cons.injEq,and_true]at B;obtain⟨R,T,U,V,X,Y,Z,e7,e8,e9,z,A⟩:=B;have D:w.cell? ⟨b,j+i * 12,none⟩=some _:=p 0 (by decide);rw[R]at D;have E:w.cell? ⟨b,j+i * 12+1,none⟩=some _:=p 1 (by decide);rw[T]at E;have h2:w.cell? ⟨b,j+i * 12+2,none⟩=some _:=p 2 (by decide);rw[U]at h2;have F:w.cell? ⟨b,j+i * 12+3,none⟩=some _:=p 3 (by decide);rw[V]at F;have G:w.cell? ⟨b,j+i * 12+4,none⟩=some _:=p 4 (by decide);rw[X]at G;have H:w.cell? ⟨b,j+i * 12+5,none⟩=some _:=p 5 (by decide);rw[Y]at H
 have I:w.cell? ⟨b,j+i * 12+6,none⟩=some _:=p 6 (by decide);rw[Z]at I;have J:w.cell? ⟨b,j+i * 12+7,none⟩=some _:=p 7 (by decide);rw[e7]at J;have L:w.cell? ⟨b,j+i * 12+8,none⟩=some _:=p 8 (by decide);rw[e8]at L;have M:w.cell? ⟨b,j+i * 12+9,none⟩=some _:=p 9 (by decide);rw[e9]at M;have v:w.cell? ⟨b,j+i * 12+10,none⟩=some _:=p 10 (by decide);rw[z]at v;have x:w.cell? ⟨b,j+i * 12+11,none⟩=some _:=p 11 (by decide);rw[A]at x;exact⟨b,j,t,q,u,r,rfl,hb,D,E,h2,F,G,H,I,J,L,M,v,x,⟨t,q,u,r,rfl,O,P⟩,O,P⟩
def Q9i (xs:List Mm) (i:Nat):Nat:=(xs.getD i mmD).c.l.length+(xs.getD i mmD).c.g.length
def QhM (xs:List Mm):Nat:=Q0K (Q9i xs) xs.length
def Qi5 (xs:List Mm):Prop:=xs.length<=maxLen/\∀i,i < xs.length->(xs.getD i mmD).c.l.length<=maxLen/\(xs.getD i mmD).c.g.length<=maxLen
theorem QaV (v:Value) (xs:List Mm) (n:Int) (w:World) (G:RiE elM 0 w.heap.size w v xs) (hl:Qi5 xs) (h0:0<=n) (h1:n<=1048576):
  Calls Tryz.prog 48 #[v,.int .i64 n] w fun e w'=>(e=.returned (.int .i64 (-1))\/∃z:Int,e=.returned (.int .i64 z)/\0<=z/\z<=n/\(xs.length:Int)+(QhM xs:Int)<=n)/\Below w.heap.size w w':=by
 obtain⟨o,cap,ev⟩:=G.len;subst ev;obtain⟨M,hx⟩:=hl;have L:=M;unfold maxLen at L
 by_cases h:n - xs.length < 0
 ·go_enter Tryz.func48,Tryz.ntmps48
  go_wp2;go_ret;exact⟨.inl rfl,KBq⟩
 ·go_enter Tryz.func48,Tryz.ntmps48
  go_wp2
  go_loopw [1,5] (fun n' i wr=> ∃(k:Nat) (z:Int),k<=xs.length/\i=.int .i64 (k:Int)/\n'=.int .i64 z/\0<=z/\z<=n - (xs.length:Int) - (Q0K (Q9i xs) k:Int)/\Hid (Below w.heap.size w wr))
   (fun _ i _=>xs.length - (intOf i).toNat)
  case atStart=>exact⟨0,n - xs.length,Kcq _,rfl,rfl,by omega,by simp[Q0K],KBq⟩
  case round=>
   obtain⟨k,z,hk,rfl,rfl,E,O,d⟩:=hrel
   by_cases hlt:k < xs.length
   ·obtain⟨m,H⟩:∃m,xs.getD k mmD=m:=⟨_,rfl⟩
    obtain⟨b,ac,o1,c1,o2,c2,rfl,j,P,R,T,U,V,I,J,X,Y,Z,u,x,_⟩:=RiM.cells G k hlt H;have p:=hx k hlt;rw[H]at p
    have ab:(0:Int)<=(Q0K (Q9i xs) k:Int):=by omega
    have F:=Q00 (Qd5 m.k m.c.a m.c.b m.c.f m.c.s o1 o2 m.c.l.length c1 m.c.g.length c2 m.c.pl m.c.st m.fa m.fp m.bk z wr p.1 p.2 E (by omega));have B:=Q00 (show Q0K (Q9i xs) (k+1)=Q0K (Q9i xs) k+(m.c.l.length+m.c.g.length)by rw[<-H];rfl);replace P:=bCM d.out P j;replace R:=bCM d.out R j;replace T:=bCM d.out T j;replace U:=bCM d.out U j;replace V:=bCM d.out V j;replace I:=bCM d.out I j;replace J:=bCM d.out J j;replace X:=bCM d.out X j;replace Y:=bCM d.out Y j;replace Z:=bCM d.out Z j;replace u:=bCM d.out u j
    replace x:=bCM d.out x j;have HR:=Q00 G
    have z1:(k:Int) < (xs.length:Int):=by omega
    clear p G hx H;obtain⟨q1,r⟩:∃q,m.c.l.length=q:=⟨_,rfl⟩;obtain⟨q2,t⟩:∃q,m.c.g.length=q:=⟨_,rfl⟩;rw[r,t]at F B;rw[r]at I;rw[t]at J;clear r t;generalize Q0K (Q9i xs) k=sk at *;obtain⟨y,N⟩:∃y:Int,(if z - q1 - q2 < 0 then -1 else z - q1 - q2)=y:=⟨_,rfl⟩;rw[N]at F;have HY:=Q00 N;clear N;go_wp2_with fail;refine F.out.mono ?_;rintro e w2 ⟨rfl,C⟩;have A:=Q00 (d.out.trans (C.mono d.out.size));clear C P R T U V I J X Y Z u x F
    by_cases hyn:y < 0
    ·go_wp2
     go_ret;exact⟨.inl rfl,A.out⟩
    ·have aa:¬(y < 0):=hyn
     go_wp2;go_roundw
     case rel=>exact⟨k+1,y,by omega,by go_num,rfl,by omega,(by have:=HY.out;rw[B.out];split at this <;> push_cast <;> omega),A.out⟩
     case measure=>simp[intOf];omega
   ·have e:k=xs.length:=by omega
    subst e;have D:Q0K (Q9i xs) xs.length=QhM xs:=rfl;rw[D]at O;clear D;go_wp2;go_ret;exact⟨.inr ⟨z,rfl,E,by omega,by omega⟩,d.out⟩
theorem Q87 {α:Type} (L:Lay α) (d:L.k=12) {h j m n p r s t u v b c:Value} {a:α} (g:L.cs a=[h,j,m,n,p,r,s,t,u,v,b,c]):∀(l:List α) (i:Nat),(((((((((((((l.flatMap L.cs).set (i * 12) h).set (i * 12+1) j).set (i * 12+2) m).set (i * 12+3) n).set (i * 12+4) p).set (i * 12+5) r).set (i * 12+6) s).set (i * 12+7) t).set (i * 12+8) u).set (i * 12+9) v).set (i * 12+10) b).set (i * 12+11) c)=(l.set i a).flatMap L.cs
 |[],i=>by simp
 |q::l,0=>by
  have f:=(L.len q).trans d
  match hc:L.cs q,f with
  |[q0,q1,q2,q3,q4,q5,q6,q7,q8,q9,q10,q11],_=>simp[g,hc]
 |q::l,i+1=>by
  have f:=(L.len q).trans d
  match hc:L.cs q,f with
  |[q0,q1,q2,q3,q4,q5,q6,q7,q8,q9,q10,q11],_=>
   rw[show(i+1) * 12=i * 12+1+1+1+1+1+1+1+1+1+1+1+1 by omega];simp only[List.flatMap_cons,hc,List.cons_append,List.nil_append,List.set_cons_succ];rw[Q87 L d g l i]
theorem Qhn {e:TypeId} {w wr:World} {base B g c n:Nat} {l:List Mh} {k:Nat} (h:Mh) (d:B<=g) (i:wr.ownsRow base e 12 (.slice (some ⟨g,0,none⟩) n c) n (l.flatMap Q0A.cs)) (j:Below B w wr):
  ((((((((((((wr.setCell ⟨g,k * 12,none⟩ (.int .i64 h.k)).setCell ⟨g,k * 12+1,none⟩ (.int .i64 h.a)).setCell ⟨g,k * 12+2,none⟩ (.int .i64 h.b)).setCell ⟨g,k * 12+3,none⟩ (.int .i64 h.f)).setCell ⟨g,k * 12+4,none⟩ (.int .i64 h.s)).setCell ⟨g,k * 12+5,none⟩ (.slice h.l.1 h.l.2.1 h.l.2.2)).setCell ⟨g,k * 12+6,none⟩ (.slice h.g.1 h.g.2.1 h.g.2.2)).setCell ⟨g,k * 12+7,none⟩ (.int .i64 h.pl)).setCell ⟨g,k * 12+8,none⟩ (.int .i64 h.st)).setCell ⟨g,k * 12+9,none⟩ (.int .i64 h.fa)).setCell ⟨g,k * 12+10,none⟩ (.int .i64 h.fp)).setCell ⟨g,k * 12+11,none⟩ (.int .i64 h.bk)).ownsRow base e 12 (.slice (some ⟨g,0,none⟩) n c) n ((l.set k h).flatMap Q0A.cs)/\Below B w ((((((((((((wr.setCell ⟨g,k * 12,none⟩ (.int .i64 h.k)).setCell ⟨g,k * 12+1,none⟩ (.int .i64 h.a)).setCell ⟨g,k * 12+2,none⟩ (.int .i64 h.b)).setCell ⟨g,k * 12+3,none⟩ (.int .i64 h.f)).setCell ⟨g,k * 12+4,none⟩ (.int .i64 h.s)).setCell ⟨g,k * 12+5,none⟩ (.slice h.l.1 h.l.2.1 h.l.2.2)).setCell ⟨g,k * 12+6,none⟩ (.slice h.g.1 h.g.2.1 h.g.2.2)).setCell ⟨g,k * 12+7,none⟩ (.int .i64 h.pl)).setCell ⟨g,k * 12+8,none⟩ (.int .i64 h.st)).setCell ⟨g,k * 12+9,none⟩ (.int .i64 h.fa)).setCell ⟨g,k * 12+10,none⟩ (.int .i64 h.fp)).setCell ⟨g,k * 12+11,none⟩ (.int .i64 h.bk))/\Stp g (g+1) wr ((((((((((((wr.setCell ⟨g,k * 12,none⟩ (.int .i64 h.k)).setCell ⟨g,k * 12+1,none⟩ (.int .i64 h.a)).setCell ⟨g,k * 12+2,none⟩ (.int .i64 h.b)).setCell ⟨g,k * 12+3,none⟩ (.int .i64 h.f)).setCell ⟨g,k * 12+4,none⟩ (.int .i64 h.s)).setCell ⟨g,k * 12+5,none⟩ (.slice h.l.1 h.l.2.1 h.l.2.2)).setCell ⟨g,k * 12+6,none⟩ (.slice h.g.1 h.g.2.1 h.g.2.2)).setCell ⟨g,k * 12+7,none⟩ (.int .i64 h.pl)).setCell ⟨g,k * 12+8,none⟩ (.int .i64 h.st)).setCell ⟨g,k * 12+9,none⟩ (.int .i64 h.fa)).setCell ⟨g,k * 12+10,none⟩ (.int .i64 h.fp)).setCell ⟨g,k * 12+11,none⟩ (.int .i64 h.bk)):=by
 have q:=((((((((((((i.stored (k * 12) (.int .i64 h.k)).1.stored (k * 12+1) (.int .i64 h.a)).1.stored (k * 12+2) (.int .i64 h.b)).1.stored (k * 12+3) (.int .i64 h.f)).1.stored (k * 12+4) (.int .i64 h.s)).1.stored (k * 12+5) (.slice h.l.1 h.l.2.1 h.l.2.2)).1.stored (k * 12+6) (.slice h.g.1 h.g.2.1 h.g.2.2)).1.stored (k * 12+7) (.int .i64 h.pl)).1.stored (k * 12+8) (.int .i64 h.st)).1.stored (k * 12+9) (.int .i64 h.fa)).1.stored (k * 12+10) (.int .i64 h.fp)).1.stored (k * 12+11) (.int .i64 h.bk)).1;rw[Q87 Q0A rfl (a:=h) rfl]at q
 exact⟨q,((((((((((((j.setCell (p:=⟨g,k * 12,none⟩) d _).setCell (p:=⟨g,k * 12+1,none⟩) d _).setCell (p:=⟨g,k * 12+2,none⟩) d _).setCell (p:=⟨g,k * 12+3,none⟩) d _).setCell (p:=⟨g,k * 12+4,none⟩) d _).setCell (p:=⟨g,k * 12+5,none⟩) d _).setCell (p:=⟨g,k * 12+6,none⟩) d _).setCell (p:=⟨g,k * 12+7,none⟩) d _).setCell (p:=⟨g,k * 12+8,none⟩) d _).setCell (p:=⟨g,k * 12+9,none⟩) d _).setCell (p:=⟨g,k * 12+10,none⟩) d _).setCell (p:=⟨g,k * 12+11,none⟩) d _),(((((((((((((Stp.refl wr).trans (Q07 _ g (k * 12) _)).trans (Q07 _ g (k * 12+1) _)).trans (Q07 _ g (k * 12+2) _)).trans (Q07 _ g (k * 12+3) _)).trans (Q07 _ g (k * 12+4) _)).trans (Q07 _ g (k * 12+5) _)).trans (Q07 _ g (k * 12+6) _)).trans (Q07 _ g (k * 12+7) _)).trans (Q07 _ g (k * 12+8) _)).trans (Q07 _ g (k * 12+9) _)).trans (Q07 _ g (k * 12+10) _)).trans (Q07 _ g (k * 12+11) _))⟩
theorem Qi6:(Tryz.prog.info? 113).map (fun i=>(i.zero,i.size,i.bytes))=some (some (.agg #[.int .i64 0,.int .i64 0,.int .i64 0,.int .i64 0,.int .i64 0,.slice none 0 0,.slice none 0 0,.int .i64 0,.int .i64 0,.int .i64 0,.int .i64 0,.int .i64 0]),12,128):=by kernel_rfl
theorem QbM (v:Value) (xs:List Mm) (w:World) (hR:RiE elM 0 w.heap.size w v xs) (am:xs.length<=1048576) (hx:∀i,i < xs.length->QbR (xs.getD i mmD).c):
  Calls Tryz.prog 53 #[v] w fun e w'=> ∃v',e=.returned v'/\InE elM 113 w.heap.size w'.heap.size w' v' xs/\Below w.heap.size w w':=by
 obtain⟨o,cap,ev⟩:=hR.len;subst ev;obtain⟨i0,hi,ag,ah,ai⟩:=info_parts Qi6;have ac:=Q00 hR;have HX:=Q00 hx;clear hR hx;go_enter Tryz.func53,Tryz.ntmps53;go_wp2_with (at_make;refine wpList_make_full _ rfl _ _ 36 rfl w.heap.size 113 i0 (mlv 0 0 0 0 0 (.slice none 0 0) (.slice none 0 0) 0 0 0 0 0) 12 Tryz.underlying36 hi ag ah _ _ _ _ xs.length rfl rfl rfl rfl ?b2 ?b3 ?b4 ?_)
 case b2=>rw[ai];omega
 case b3=>unfold maxLen;omega
 case b4=>simp
 intro w3 z t;have O:=Q00 (show Below w.heap.size w w3 from KBq.grown t (Kaq _) (fun k h=>by cases h))
 have R:Hid (w3.ownsRow w.heap.size 113 12 (.slice (some ⟨w.heap.size,0,none⟩) xs.length xs.length) xs.length ((Q2X Q0A [] xs.length 0).flatMap Q0A.cs)):=by
  rw[Q54,<-Q11 Q0A (mlv 0 0 0 0 0 (.slice none 0 0) (.slice none 0 0) 0 0 0 0 0) rfl];exact z
 have X:w.heap.size+1<=w3.heap.size:=(z.lt w.heap.size rfl).2;clear z t;go_wp2
 go_loopw [4] (fun iv wr=> ∃(k:Nat) (hs:List Mh) (L H:Nat->Nat),k<=xs.length/\iv=.int .i64 (k:Int)/\Hid (wr.ownsRow w.heap.size 113 12 (.slice (some ⟨w.heap.size,0,none⟩) xs.length xs.length) xs.length ((Q2X Q0A hs xs.length k).flatMap Q0A.cs))/\Hid (RwE elM (xs.take k) (w.heap.size+1) wr.heap.size wr hs L H)/\Hid (Below w.heap.size w wr)/\w.heap.size+1<=wr.heap.size)
  (fun iv _=>xs.length - (intOf iv).toNat)
 case atStart=>exact⟨0,[],fun _=> 0,fun _=> 0,Kcq _,rfl,R.out,by rw[List.take_zero];exact RwE.nil _ _ _ _ _ _,O.out,X⟩
 case round=>
  obtain⟨k,hs,L,H,ad,rfl,HO,HR,j,aB⟩:=hrel;clear R O X
  have V:hs.length=k:=by have h1:=HR.out.len;rw[List.length_take]at h1;omega
  have P:=Q00 V
  by_cases hlt:k < xs.length
  ·have z1:(k:Int) < (xs.length:Int):=by omega
   obtain⟨m,hm⟩:∃m,xs.getD k mmD=m:=⟨_,rfl⟩;have HS:=Q00 (Q3H (xs:=xs) mmD hlt);have G:=HX.out k hlt;rw[hm]at HS G;obtain⟨b,aM,o1,c1,o2,c2,rfl,n,p0,p1,p2,p3,p4,p5,p6,p7,p8,p9,M,N,rr,_⟩:=RiM.cells ac.out k hlt hm;have HL:=Q00 (Qeb _ m wr (rr.on j.out) G);replace p0:=bCM j.out p0 n;replace p1:=bCM j.out p1 n;replace p2:=bCM j.out p2 n;replace p3:=bCM j.out p3 n;replace p4:=bCM j.out p4 n;replace p5:=bCM j.out p5 n;replace p6:=bCM j.out p6 n;replace p7:=bCM j.out p7 n;replace p8:=bCM j.out p8 n;replace p9:=bCM j.out p9 n
   replace M:=bCM j.out M n;replace N:=bCM j.out N n;have HW:=Q00 hlt;clear rr hm G V;obtain⟨q1,A⟩:∃q,m.c.l.length=q:=⟨_,rfl⟩;obtain⟨q2,B⟩:∃q,m.c.g.length=q:=⟨_,rfl⟩;have HQ:=Q00 (And.intro A B);rw[A,B]at HL;rw[A]at p5;rw[B]at p6;clear A B;go_wp2_with fail;refine HL.out.mono ?_;rintro e p ⟨v4,rfl,aj,r⟩;obtain⟨vl,vg,rfl,Z,Y⟩:=aj;obtain⟨I,D,rfl,_⟩:=InL.rd (L:=Qdf) Z;obtain⟨J,E,rfl,_⟩:=InL.rd (L:=Q1R) Y
   have ab:Hid (QM wr.heap.size p.heap.size p (mlv m.k m.c.a m.c.b m.c.f m.c.s (.slice I m.c.l.length D) (.slice J m.c.g.length E) m.c.pl m.c.st m.fa m.fp m.bk) m):=⟨_,_,_,_,_,_,rfl,⟨Kaq _,Kaq _,Kaq _,Kaq _⟩,Z,Y,Q1A Z.1 Y.1 (by decide)⟩;have d:=Q0a HO.out r
   have ae:((Q2X Q0A hs xs.length k).flatMap Q0A.cs).length=xs.length * 12:=by rw[Q0f,Q6i ad P.out];rfl
   obtain⟨u0,aC⟩:∃u,p.cell? ⟨w.heap.size,k * 12,none⟩=some u:=⟨_,(d.cellAt (k * 12) (by omega)).trans (KGq (by omega))⟩;have ap:=d.frozenAt (k * 12);obtain⟨u1,aD⟩:∃u,p.cell? ⟨w.heap.size,k * 12+1,none⟩=some u:=⟨_,(d.cellAt (k * 12+1) (by omega)).trans (KGq (by omega))⟩;have aq:=d.frozenAt (k * 12+1);obtain⟨u2,aE⟩:∃u,p.cell? ⟨w.heap.size,k * 12+2,none⟩=some u:=⟨_,(d.cellAt (k * 12+2) (by omega)).trans (KGq (by omega))⟩;have ar:=d.frozenAt (k * 12+2)
   obtain⟨u3,aF⟩:∃u,p.cell? ⟨w.heap.size,k * 12+3,none⟩=some u:=⟨_,(d.cellAt (k * 12+3) (by omega)).trans (KGq (by omega))⟩;have au:=d.frozenAt (k * 12+3);obtain⟨u4,aG⟩:∃u,p.cell? ⟨w.heap.size,k * 12+4,none⟩=some u:=⟨_,(d.cellAt (k * 12+4) (by omega)).trans (KGq (by omega))⟩;have av:=d.frozenAt (k * 12+4);obtain⟨u5,aH⟩:∃u,p.cell? ⟨w.heap.size,k * 12+5,none⟩=some u:=⟨_,(d.cellAt (k * 12+5) (by omega)).trans (KGq (by omega))⟩;have aw:=d.frozenAt (k * 12+5)
   obtain⟨u6,aI⟩:∃u,p.cell? ⟨w.heap.size,k * 12+6,none⟩=some u:=⟨_,(d.cellAt (k * 12+6) (by omega)).trans (KGq (by omega))⟩;have ax:=d.frozenAt (k * 12+6);obtain⟨u7,aJ⟩:∃u,p.cell? ⟨w.heap.size,k * 12+7,none⟩=some u:=⟨_,(d.cellAt (k * 12+7) (by omega)).trans (KGq (by omega))⟩;have ay:=d.frozenAt (k * 12+7);obtain⟨u8,aK⟩:∃u,p.cell? ⟨w.heap.size,k * 12+8,none⟩=some u:=⟨_,(d.cellAt (k * 12+8) (by omega)).trans (KGq (by omega))⟩;have az:=d.frozenAt (k * 12+8)
   obtain⟨u9,aL⟩:∃u,p.cell? ⟨w.heap.size,k * 12+9,none⟩=some u:=⟨_,(d.cellAt (k * 12+9) (by omega)).trans (KGq (by omega))⟩;have aA:=d.frozenAt (k * 12+9);obtain⟨u10,an⟩:∃u,p.cell? ⟨w.heap.size,k * 12+10,none⟩=some u:=⟨_,(d.cellAt (k * 12+10) (by omega)).trans (KGq (by omega))⟩;have ak:=d.frozenAt (k * 12+10);obtain⟨u11,ao⟩:∃u,p.cell? ⟨w.heap.size,k * 12+11,none⟩=some u:=⟨_,(d.cellAt (k * 12+11) (by omega)).trans (KGq (by omega))⟩;have al:=d.frozenAt (k * 12+11)
   have aa:=Q00 (j.out.trans (r.mono j.out.size))
   obtain⟨L2,H2,F⟩:∃L2 H2,RwE elM (xs.take k++[m]) (w.heap.size+1) p.heap.size p (hs++[⟨m.k,m.c.a,m.c.b,m.c.f,m.c.s,(I,m.c.l.length,D),(J,m.c.g.length,E),m.c.pl,m.c.st,m.fa,m.fp,m.bk⟩]) L2 H2:=⟨_,_,HR.out.kept r|>.snoc (l2:=wr.heap.size) (h2:=p.heap.size) (y:=⟨m.k,m.c.a,m.c.b,m.c.f,m.c.s,(I,m.c.l.length,D),(J,m.c.g.length,E),m.c.pl,m.c.st,m.fa,m.fp,m.bk⟩) (x:=m) (Kaq _) (by omega) r.size (show elM.Q wr.heap.size p.heap.size p (elM.val ⟨m.k,m.c.a,m.c.b,m.c.f,m.c.s,(I,m.c.l.length,D),(J,m.c.g.length,E),m.c.pl,m.c.st,m.fa,m.fp,m.bk⟩) m from ab.out)⟩;rw[<-HS.out]at F
   have ST:=Q00 (Qhn (k:=k) ⟨m.k,m.c.a,m.c.b,m.c.f,m.c.s,(I,m.c.l.length,D),(J,m.c.g.length,E),m.c.pl,m.c.st,m.fa,m.fp,m.bk⟩ (Kaq w.heap.size) d aa.out);have HF:=Q00 (Q6r (L:=Q0A) HW.out P.out ⟨m.k,m.c.a,m.c.b,m.c.f,m.c.s,(I,m.c.l.length,D),(J,m.c.g.length,E),m.c.pl,m.c.st,m.fa,m.fp,m.bk⟩);have C:=Q00 F
   have af:w.heap.size+1<=p.heap.size:=by have:=r.size;omega
   have T:=HQ.out.1;have U:=HQ.out.2;rw[T,U]at ST HF C ⊢;clear T U d r ae F Z Y p0 p1 p2 p3 p4 p5 p6 p7 p8 p9 M N HL;go_wp2;go_roundw
   case rel=>
    refine⟨k+1,hs++[⟨m.k,m.c.a,m.c.b,m.c.f,m.c.s,(I,q1,D),(J,q2,E),m.c.pl,m.c.st,m.fa,m.fp,m.bk⟩],L2,H2,by omega,by go_num,(by have h:=ST.out.1;rw[HF.out]at h;exact h), ?_,ST.out.2.1,by simpa using af⟩;exact RwE.mono (C.out.step ST.out.2.2 (fun i hi=> .inl (C.out.bd i hi).1)) (Kaq _) (by simp)
   case measure=>simp[intOf];omega
  ·have e:k=xs.length:=by omega
   subst e;go_wp2;go_ret;have h2:=HR.out;rw[List.take_length]at h2;exact⟨_,rfl,InE.filled HO.out h2 (by omega),j.out⟩
theorem Q9t (v1 v2:Value) (xs:List Mm) (w:World) (h1:RiE elM 0 w.heap.size w v1 xs) (h2:RiE elM 0 w.heap.size w v2 xs) (hl:xs.length<=1048576) (hx:∀i,i < xs.length->(xs.getD i mmD).c.l.length<=1048576/\(xs.getD i mmD).c.g.length<=1048576):
  Calls Tryz.prog 36 #[v1,v2] w fun e w'=>e=.returned (.bool true)/\Below w.heap.size w w':=by
 obtain⟨oa,ca,ab⟩:=h1.len;obtain⟨ob,cb,ac⟩:=h2.len;subst ab ac;go_enter Tryz.func36,Tryz.ntmps36;go_wp2
 go_loopw [5] (fun i wr=> ∃k:Nat,k<=xs.length/\i=.int .i64 k/\Hid (Below w.heap.size w wr))
  (fun i _=>xs.length - (intOf i).toNat)
 case atStart=>exact⟨0,Kcq _,rfl,KBq⟩
 case round=>
  obtain⟨k,hk,rfl,n⟩:=hrel
  by_cases hlt:k < xs.length
  ·have z1:(k:Int) < (xs.length:Int):=by omega
   obtain⟨m,hm⟩:∃m,xs.getD k mmD=m:=⟨_,rfl⟩;have C:=hx k hlt;rw[hm]at C;obtain⟨v,h,o1,c1,o2,c2,rfl,p,J,L,M,N,O,F,G,P,R,T,y,z,g1,_⟩:=RiM.cells h1 k hlt hm;obtain⟨x,j,o3,c3,o4,c4,rfl,r,U,V,X,Y,Z,H,I,r7,r8,r9,A,B,g2,_⟩:=RiM.cells h2 k hlt hm
   have HE:Hid (∀W,Below w.heap.size w W->Calls Tryz.prog 83 #[mlv m.k m.c.a m.c.b m.c.f m.c.s (.slice o1 m.c.l.length c1) (.slice o2 m.c.g.length c2) m.c.pl m.c.st m.fa m.fp m.bk,mlv m.k m.c.a m.c.b m.c.f m.c.s (.slice o3 m.c.l.length c3) (.slice o4 m.c.g.length c4) m.c.pl m.c.st m.fa m.fp m.bk] W fun e w'=>e=.returned (.bool true)/\Below W.heap.size W w'):=fun W hW=>Qfg _ _ m W (g1.on hW) (g2.on hW) C.1 C.2
   replace J:=bCM n.out J p;replace L:=bCM n.out L p;replace M:=bCM n.out M p;replace N:=bCM n.out N p;replace O:=bCM n.out O p;replace F:=bCM n.out F p;replace G:=bCM n.out G p;replace P:=bCM n.out P p;replace R:=bCM n.out R p;replace T:=bCM n.out T p;replace y:=bCM n.out y p;replace z:=bCM n.out z p;replace U:=bCM n.out U r;replace V:=bCM n.out V r;replace X:=bCM n.out X r;replace Y:=bCM n.out Y r;replace Z:=bCM n.out Z r;replace H:=bCM n.out H r;replace I:=bCM n.out I r
   replace r7:=bCM n.out r7 r;replace r8:=bCM n.out r8 r;replace r9:=bCM n.out r9 r;replace A:=bCM n.out A r;replace B:=bCM n.out B r;have H1:=Q00 h1;have H2:=Q00 h2;have t:v < wr.heap.size:=Kbq p n.out.size;have u:x < wr.heap.size:=Kbq r n.out.size;obtain⟨q1,D⟩:∃q,m.c.l.length=q:=⟨_,rfl⟩;obtain⟨q2,E⟩:∃q,m.c.g.length=q:=⟨_,rfl⟩;rw[D,E]at HE;rw[D]at F H;rw[E]at G I;clear D E g1 g2 h1 h2 hm C hx;go_wp2
   go_region_held3 (fun w'=>w'.cell? ⟨v,h+k * 12,none⟩=some (.int .i64 m.k)/\w'.cell? ⟨v,h+k * 12+1,none⟩=some (.int .i64 m.c.a)/\w'.cell? ⟨v,h+k * 12+2,none⟩=some (.int .i64 m.c.b)/\w'.cell? ⟨v,h+k * 12+3,none⟩=some (.int .i64 m.c.f)/\w'.cell? ⟨v,h+k * 12+4,none⟩=some (.int .i64 m.c.s)/\w'.cell? ⟨v,h+k * 12+5,none⟩=some (.slice o1 q1 c1)/\w'.cell? ⟨v,h+k * 12+6,none⟩=some (.slice o2 q2 c2)/\w'.cell? ⟨v,h+k * 12+7,none⟩=some (.int .i64 m.c.pl)/\w'.cell? ⟨v,h+k * 12+8,none⟩=some (.int .i64 m.c.st)/\w'.cell? ⟨v,h+k * 12+9,none⟩=some (.int .i64 m.fa)/\w'.cell? ⟨v,h+k * 12+10,none⟩=some (.int .i64 m.fp)/\w'.cell? ⟨v,h+k * 12+11,none⟩=some (.int .i64 m.bk)/\w'.cell? ⟨x,j+k * 12,none⟩=some (.int .i64 m.k)/\w'.cell? ⟨x,j+k * 12+1,none⟩=some (.int .i64 m.c.a)/\w'.cell? ⟨x,j+k * 12+2,none⟩=some (.int .i64 m.c.b)/\w'.cell? ⟨x,j+k * 12+3,none⟩=some (.int .i64 m.c.f)/\w'.cell? ⟨x,j+k * 12+4,none⟩=some (.int .i64 m.c.s)/\w'.cell? ⟨x,j+k * 12+5,none⟩=some (.slice o3 q1 c3)/\w'.cell? ⟨x,j+k * 12+6,none⟩=some (.slice o4 q2 c4)/\w'.cell? ⟨x,j+k * 12+7,none⟩=some (.int .i64 m.c.pl)/\w'.cell? ⟨x,j+k * 12+8,none⟩=some (.int .i64 m.c.st)/\w'.cell? ⟨x,j+k * 12+9,none⟩=some (.int .i64 m.fa)/\w'.cell? ⟨x,j+k * 12+10,none⟩=some (.int .i64 m.fp)/\w'.cell? ⟨x,j+k * 12+11,none⟩=some (.int .i64 m.bk)) (first|exact⟨J,L,M,N,O,F,G,P,R,T,y,z,U,V,X,Y,Z,H,I,r7,r8,r9,A,B⟩) (first|(go_at_call 83;refine(HE.out _ (KHq n.out)).mono ?_;rintro e w2 ⟨rfl,d⟩;replace d:Below wr.heap.size wr w2:=(KHq KBq).trans d;have J:=bCM d J t;have L:=bCM d L t;have M:=bCM d M t;have N:=bCM d N t;have O:=bCM d O t;have F:=bCM d F t;have G:=bCM d G t;have P:=bCM d P t;have R:=bCM d R t;have T:=bCM d T t;have y:=bCM d y t;have z:=bCM d z t;have U:=bCM d U u;have V:=bCM d V u;have X:=bCM d X u;have Y:=bCM d Y u;have Z:=bCM d Z u;have H:=bCM d H u;have I:=bCM d I u;have r7:=bCM d r7 u;have r8:=bCM d r8 u;have r9:=bCM d r9 u;have A:=bCM d A u;have B:=bCM d B u))
   have aa:=Q00 (n.out.trans (d.mono n.out.size));clear d J L M N O F G P R T y z U V X Y Z H I r7 r8 r9 A B;go_wp2;go_roundw
   case rel=>exact⟨k+1,by omega,by go_num,aa.out⟩
   case measure=>simp[intOf];omega
  ·have e:k=xs.length:=by omega
   subst e;go_wp2;go_ret;exact⟨rfl,n.out⟩
def QiE (kk:Int) (m:Mm):Mm:=⟨kk,⟨kk+1,kk+1+1,kk+1+1+1,kk+1+1+1+1,Q5u (kk+1+1+1+1+1) m.c.l.length,mkL Q8N 2 (kk+1+1+1+1+1+(m.c.l.length:Int)) m.c.g.length,kk+1+1+1+1+1+(m.c.l.length:Int)+2 * (m.c.g.length:Int),kk+1+1+1+1+1+(m.c.l.length:Int)+2 * (m.c.g.length:Int)+1⟩,kk+1+1+1+1+1+(m.c.l.length:Int)+2 * (m.c.g.length:Int)+1+1,kk+1+1+1+1+1+(m.c.l.length:Int)+2 * (m.c.g.length:Int)+1+1+1,kk+1+1+1+1+1+(m.c.l.length:Int)+2 * (m.c.g.length:Int)+1+1+1+1⟩
def nM (xs:List Mm) (i:Nat):Nat:=10+((xs.getD i mmD).c.l.length+2 * (xs.getD i mmD).c.g.length)
def nMs (xs:List Mm):Nat:=Q0K (nM xs) xs.length
def QgW (k:Int) (xs:List Mm) (j:Nat):Mm:=QiE (k+(Q0K (nM xs) j:Int)) (xs.getD j mmD)
def QhV (k:Int) (xs:List Mm):List Mm:=(List.range xs.length).map (QgW k xs)
theorem QfL (k:Int) (xs:List Mm):(QhV k xs).length=xs.length:=by simp[QhV]
theorem Qi8 (xs:List Mm) (i:Nat):Q0K (nM xs) i<=10 * i+2 * Q0K (Q9i xs) i:=by
 induction i with
 |zero=>simp[Q0K]
 |succ i ih=>
  have a:Q0K (nM xs) (i+1)=Q0K (nM xs) i+nM xs i:=rfl;have h2:Q0K (Q9i xs) (i+1)=Q0K (Q9i xs) i+Q9i xs i:=rfl;rw[a,h2];unfold nM Q9i at *;omega
theorem Q8D (lo hi:Nat) (v:Value) (xs:List Mm) (k:Int) (w:World) (hv:InE elM 113 lo hi w v xs) (h0:0<=k) (h1:k<=100000000) (hn:xs.length<=1048576) (hz:QhM xs<=1048576):
  Calls Tryz.prog 40 #[v,.int .i64 k] w fun e w'=>e=.returned (.int .i64 (k+(nMs xs:Int)))/\InE elM 113 lo hi w' v (QhV k xs)/\Stp lo hi w w':=by
 obtain⟨N,L,H,r,B,A⟩:=hv
 rcases r.1.2 with⟨rfl,h2⟩|⟨g,cap,bq,rfl,hg,_⟩
 ·have e:xs=[]:=List.eq_nil_of_length_eq_zero (by rw[<-B.len];exact h2)
  subst e;have H9:=Q00 (And.intro r (And.intro B A));have bu:N.length=0:=h2;clear r B A h2;go_enter Tryz.func40,Tryz.ntmps40;go_wp2;refine wp_loop_rounds 1 ?_;rw[rounds_succ];go_wp2;go_ret;exact⟨by simp[nMs,Q0K],⟨N,L,H,H9.out.1,H9.out.2.1,fun i hi=>absurd hi (KMq _)⟩,Stp.refl _⟩
 ·have M:=B.len
  have a5:g < w.heap.size:=(r.1.lt g rfl).2;have aG:lo<=g:=(r.1.lt g rfl).1;have aF:g < hi:=r.2 g rfl;have af:=Q00 (fun i hi=>A i hi g rfl);have aA:=Q00 B.sep;have am:=Q00 B.bd
  have aW:Hid (Qcx (.slice (some ⟨g,0,none⟩) xs.length cap) xs.length L H):=fun i hi b e=>A i hi b e
  have ax:Hid (InL Q0A 113 lo hi w (.slice (some ⟨g,0,none⟩) xs.length cap) N):=by rw[<-M];exact r
  have aC:Hid (RwE elM (Q1D (QgW k xs) xs mmD 0) lo hi w N L H):=by rw[Q3I];exact B
  rw[M];clear r B A M hg;go_enter Tryz.func40,Tryz.ntmps40;go_wp2
  go_loopw [1,5] (fun q j wr=> ∃(i:Nat) (hs:List Mh),i<=xs.length/\j=.int .i64 (i:Int)/\q=.int .i64 (k+(Q0K (nM xs) i:Int))/\Hid (InL Q0A 113 lo hi wr (.slice (some ⟨g,0,none⟩) xs.length cap) hs)/\Hid (RwE elM (Q1D (QgW k xs) xs mmD i) lo hi wr hs L H)/\Hid (Stp lo hi w wr))
   (fun _ j _=>xs.length - (intOf j).toNat)
  case atStart=>exact⟨0,N,Kcq _,rfl,by simp[Q0K],ax.out,aC.out,Stp.refl _⟩
  case round=>
   obtain⟨i,hs,bs,rfl,rfl,x,G,O⟩:=hrel;clear ax aC
   by_cases hlt:i < xs.length
   ·skip
    have bw:hs.length=xs.length:=by have:=G.out.len;rw[Q0X]at this;exact this
    obtain⟨m,hm⟩:∃m,xs.getD i mmD=m:=⟨_,rfl⟩;obtain⟨y,hy⟩:∃y,hs.getD i Q0A.d=y:=⟨_,rfl⟩;have HY:=Q00 hy;have hq:=G.out.row i (by rw[Q0X];exact hlt);rw[show(Q1D (QgW k xs) xs mmD i).getD i elM.d=m from(Q4P _ _ _ _ hlt).trans hm,show elM.L.d=Q0A.d from rfl,hy]at hq;obtain⟨v1,v2,a,b,a2,b2,e,kb,ic,it,aN⟩:=hq
    have e':Value.agg #[.int .i64 y.k,.int .i64 y.a,.int .i64 y.b,.int .i64 y.f,.int .i64 y.s,.slice y.l.1 y.l.2.1 y.l.2.2,.slice y.g.1 y.g.2.1 y.g.2.2,.int .i64 y.pl,.int .i64 y.st,.int .i64 y.fa,.int .i64 y.fp,.int .i64 y.bk]=Value.agg #[.int .i64 m.k,.int .i64 m.c.a,.int .i64 m.c.b,.int .i64 m.c.f,.int .i64 m.c.s,v1,v2,.int .i64 m.c.pl,.int .i64 m.c.st,.int .i64 m.fa,.int .i64 m.fp,.int .i64 m.bk]:=e;simp only[Value.agg.injEq,Array.mk.injEq,List.cons.injEq,and_true]at e';obtain⟨_,_,_,_,_,e1,e2,_,_,_,_,_⟩:=e'
    have aM:Hid (QgW k xs i=QiE (k+(Q0K (nM xs) i:Int)) m):=by unfold Hid QgW;rw[hm]
    have aB:=Q00 (show(Q0K (nM xs) (i+1):Int)=(Q0K (nM xs) i:Int)+(10+(m.c.l.length:Int)+2 * (m.c.g.length:Int))by rw[show Q0K (nM xs) (i+1)=Q0K (nM xs) i+nM xs i from rfl];unfold nM;rw[hm];push_cast;omega);have a3:=Qi8 xs i;have a9:=Q6j (Q9i xs) (KIq hlt);have aE:=Q3o (Q9i xs) hlt;rw[show Q9i xs i=m.c.l.length+m.c.g.length by unfold Q9i;rw[hm]]at aE;have aQ:Q0K (Q9i xs) xs.length<=1048576:=hz;obtain⟨n,aJ⟩:∃q:Int,k+(Q0K (nM xs) i:Int)=q:=⟨_,rfl⟩
    have bt:0<=n/\n<=200000000:=by omega
    have a7:m.c.l.length<=1048576:=by omega
    have a8:m.c.g.length<=1048576:=by omega
    have aU:Hid (k+(Q0K (nM xs) (i+1):Int)=n+1+1+1+1+1+(m.c.l.length:Int)+2 * (m.c.g.length:Int)+1+1+1+1+1):=by unfold Hid;rw[aB.out];omega
    rw[aJ]at aM ⊢;clear aJ aB a3 a9 aE aQ hm hy e
    have z1:(i:Int) < (xs.length:Int):=by omega
    have ba:wr.frozen? ⟨g,i * 12,none⟩=false:=InL.frozE (x.out) (i * 12);obtain⟨bx,bg⟩:∃z,wr.cell? ⟨g,i * 12,none⟩=some z:=InL.someE (L:=Q0A) (hs) (x.out) i 0 (by(try simp) <;> omega) (by decide)
    have R:InL Q0A 113 lo hi (wr.setCell ⟨g,i * 12,none⟩ (.int .i64 (n))) (.slice (some ⟨g,0,none⟩) xs.length cap) (hs.set i { y with k:=n }):=by
     have h:=InL.putE (L:=Q0A) (hs) (x.out) i 0 (by(try simp) <;> omega) (by decide) (.int .i64 (n)) { y with k:=n } (by rw[HY.out];rfl);exact h
    have bb:(wr.setCell ⟨g,i * 12,none⟩ (.int .i64 (n))).frozen? ⟨g,i * 12+1,none⟩=false:=InL.frozE (R) (i * 12+1);obtain⟨bz,bh⟩:∃z,(wr.setCell ⟨g,i * 12,none⟩ (.int .i64 (n))).cell? ⟨g,i * 12+1,none⟩=some z:=InL.someE (L:=Q0A) (hs.set i { y with k:=n }) (R) i 1 (by(try simp) <;> omega) (by decide)
    have T:InL Q0A 113 lo hi ((wr.setCell ⟨g,i * 12,none⟩ (.int .i64 (n))).setCell ⟨g,i * 12+1,none⟩ (.int .i64 (n+1))) (.slice (some ⟨g,0,none⟩) xs.length cap) (hs.set i { y with k:=n,a:=n+1 }):=by
     have h:=InL.putE (L:=Q0A) (hs.set i { y with k:=n }) (R) i 1 (by(try simp) <;> omega) (by decide) (.int .i64 (n+1)) { y with k:=n,a:=n+1 } (by rw[Q0Z (by omega)];rfl);rw[List.set_set]at h;exact h
    have bc:((wr.setCell ⟨g,i * 12,none⟩ (.int .i64 (n))).setCell ⟨g,i * 12+1,none⟩ (.int .i64 (n+1))).frozen? ⟨g,i * 12+2,none⟩=false:=InL.frozE (T) (i * 12+2);obtain⟨bA,bi⟩:∃z,((wr.setCell ⟨g,i * 12,none⟩ (.int .i64 (n))).setCell ⟨g,i * 12+1,none⟩ (.int .i64 (n+1))).cell? ⟨g,i * 12+2,none⟩=some z:=InL.someE (L:=Q0A) (hs.set i { y with k:=n,a:=n+1 }) (T) i 2 (by(try simp) <;> omega) (by decide)
    have U:InL Q0A 113 lo hi (((wr.setCell ⟨g,i * 12,none⟩ (.int .i64 (n))).setCell ⟨g,i * 12+1,none⟩ (.int .i64 (n+1))).setCell ⟨g,i * 12+2,none⟩ (.int .i64 (n+1+1))) (.slice (some ⟨g,0,none⟩) xs.length cap) (hs.set i { y with k:=n,a:=n+1,b:=n+1+1 }):=by
     have h:=InL.putE (L:=Q0A) (hs.set i { y with k:=n,a:=n+1 }) (T) i 2 (by(try simp) <;> omega) (by decide) (.int .i64 (n+1+1)) { y with k:=n,a:=n+1,b:=n+1+1 } (by rw[Q0Z (by omega)];rfl);rw[List.set_set]at h;exact h
    have be:(((wr.setCell ⟨g,i * 12,none⟩ (.int .i64 (n))).setCell ⟨g,i * 12+1,none⟩ (.int .i64 (n+1))).setCell ⟨g,i * 12+2,none⟩ (.int .i64 (n+1+1))).frozen? ⟨g,i * 12+3,none⟩=false:=InL.frozE (U) (i * 12+3);obtain⟨bB,bj⟩:∃z,(((wr.setCell ⟨g,i * 12,none⟩ (.int .i64 (n))).setCell ⟨g,i * 12+1,none⟩ (.int .i64 (n+1))).setCell ⟨g,i * 12+2,none⟩ (.int .i64 (n+1+1))).cell? ⟨g,i * 12+3,none⟩=some z:=InL.someE (L:=Q0A) (hs.set i { y with k:=n,a:=n+1,b:=n+1+1 }) (U) i 3 (by(try simp) <;> omega) (by decide)
    have V:InL Q0A 113 lo hi ((((wr.setCell ⟨g,i * 12,none⟩ (.int .i64 (n))).setCell ⟨g,i * 12+1,none⟩ (.int .i64 (n+1))).setCell ⟨g,i * 12+2,none⟩ (.int .i64 (n+1+1))).setCell ⟨g,i * 12+3,none⟩ (.int .i64 (n+1+1+1))) (.slice (some ⟨g,0,none⟩) xs.length cap) (hs.set i { y with k:=n,a:=n+1,b:=n+1+1,f:=n+1+1+1 }):=by
     have h:=InL.putE (L:=Q0A) (hs.set i { y with k:=n,a:=n+1,b:=n+1+1 }) (U) i 3 (by(try simp) <;> omega) (by decide) (.int .i64 (n+1+1+1)) { y with k:=n,a:=n+1,b:=n+1+1,f:=n+1+1+1 } (by rw[Q0Z (by omega)];rfl);rw[List.set_set]at h;exact h
    have bf:((((wr.setCell ⟨g,i * 12,none⟩ (.int .i64 (n))).setCell ⟨g,i * 12+1,none⟩ (.int .i64 (n+1))).setCell ⟨g,i * 12+2,none⟩ (.int .i64 (n+1+1))).setCell ⟨g,i * 12+3,none⟩ (.int .i64 (n+1+1+1))).frozen? ⟨g,i * 12+4,none⟩=false:=InL.frozE (V) (i * 12+4)
    obtain⟨bD,bl⟩:∃z,((((wr.setCell ⟨g,i * 12,none⟩ (.int .i64 (n))).setCell ⟨g,i * 12+1,none⟩ (.int .i64 (n+1))).setCell ⟨g,i * 12+2,none⟩ (.int .i64 (n+1+1))).setCell ⟨g,i * 12+3,none⟩ (.int .i64 (n+1+1+1))).cell? ⟨g,i * 12+4,none⟩=some z:=InL.someE (L:=Q0A) (hs.set i { y with k:=n,a:=n+1,b:=n+1+1,f:=n+1+1+1 }) (V) i 4 (by(try simp) <;> omega) (by decide)
    have X:InL Q0A 113 lo hi (((((wr.setCell ⟨g,i * 12,none⟩ (.int .i64 (n))).setCell ⟨g,i * 12+1,none⟩ (.int .i64 (n+1))).setCell ⟨g,i * 12+2,none⟩ (.int .i64 (n+1+1))).setCell ⟨g,i * 12+3,none⟩ (.int .i64 (n+1+1+1))).setCell ⟨g,i * 12+4,none⟩ (.int .i64 (n+1+1+1+1))) (.slice (some ⟨g,0,none⟩) xs.length cap) (hs.set i { y with k:=n,a:=n+1,b:=n+1+1,f:=n+1+1+1,s:=n+1+1+1+1 }):=by
     have h:=InL.putE (L:=Q0A) (hs.set i { y with k:=n,a:=n+1,b:=n+1+1,f:=n+1+1+1 }) (V) i 4 (by(try simp) <;> omega) (by decide) (.int .i64 (n+1+1+1+1)) { y with k:=n,a:=n+1,b:=n+1+1,f:=n+1+1+1,s:=n+1+1+1+1 } (by rw[Q0Z (by omega)];rfl);rw[List.set_set]at h;exact h
    have c1:(((((wr.setCell ⟨g,i * 12,none⟩ (.int .i64 (n))).setCell ⟨g,i * 12+1,none⟩ (.int .i64 (n+1))).setCell ⟨g,i * 12+2,none⟩ (.int .i64 (n+1+1))).setCell ⟨g,i * 12+3,none⟩ (.int .i64 (n+1+1+1))).setCell ⟨g,i * 12+4,none⟩ (.int .i64 (n+1+1+1+1))).cell? ⟨g,i * 12+5,none⟩=some v1:=by
     have h:=InL.cellE (L:=Q0A) (hs.set i { y with k:=n,a:=n+1,b:=n+1+1,f:=n+1+1+1,s:=n+1+1+1+1 }) (X) i 5 (by(try simp) <;> omega) (by decide);rw[Q0Z (by omega)]at h;rw[<-e1];exact h
    have c2:(((((wr.setCell ⟨g,i * 12,none⟩ (.int .i64 (n))).setCell ⟨g,i * 12+1,none⟩ (.int .i64 (n+1))).setCell ⟨g,i * 12+2,none⟩ (.int .i64 (n+1+1))).setCell ⟨g,i * 12+3,none⟩ (.int .i64 (n+1+1+1))).setCell ⟨g,i * 12+4,none⟩ (.int .i64 (n+1+1+1+1))).cell? ⟨g,i * 12+6,none⟩=some v2:=by
     have h:=InL.cellE (L:=Q0A) (hs.set i { y with k:=n,a:=n+1,b:=n+1+1,f:=n+1+1+1,s:=n+1+1+1+1 }) (X) i 6 (by(try simp) <;> omega) (by decide);rw[Q0Z (by omega)]at h;rw[<-e2];exact h
    have av:=Q00 X;have HP:=Q00 (show Stp g (g+1) wr (((((wr.setCell ⟨g,i * 12,none⟩ (.int .i64 (n))).setCell ⟨g,i * 12+1,none⟩ (.int .i64 (n+1))).setCell ⟨g,i * 12+2,none⟩ (.int .i64 (n+1+1))).setCell ⟨g,i * 12+3,none⟩ (.int .i64 (n+1+1+1))).setCell ⟨g,i * 12+4,none⟩ (.int .i64 (n+1+1+1+1)))from((((((Stp.refl wr).trans (Q07 _ g _ _)).trans (Q07 _ g _ _)).trans (Q07 _ g _ _)).trans (Q07 _ g _ _)).trans (Q07 _ g _ _)))
    have P:∀j,j < xs.length->g+1<=L j\/H j<=g:=fun j hj=>by have:=af.out j hj;omega
    have aX:=Q00 P;have I:=Q00 (G.out.step HP.out (fun j hj=>P j (by rw[Q0X]at hj;exact hj)));have br:=P i hlt;have C:=Q00 (InRow.step ic HP.out (by omega));have D:=Q00 (InRow.step it HP.out (by omega));obtain⟨o1,bo,aD,_⟩:=InRow.ri C.out;obtain⟨o2,bp,a1,_⟩:=InRow.ri D.out;have ap:=Q00 (Q95 a v1 m.c.l (n+1+1+1+1+1) _ (Q4p.2 C.out.1) (by omega) (by omega) a7);have ah:=Q00 aN;have ac:=Q00 (And.intro e1 e2);have ag:=Q00 (And.intro aD a1);have aH:g < wr.heap.size:=Kbq a5 O.out.size;rw[aD]at c1;have an:=Q00 c2
    clear ic it aN P e1 e2 c2 R T U V X;go_wp2_with fail;rw[<-ag.out.1];refine ap.out.mono ?_;rintro e w4 ⟨rfl,aO,aj⟩
    have aK:∀q,v1.ownBlock=some q->L i<=q/\q < H i:=fun q hq=>by have h1:=(C.out.1.lt q hq).1;have h2:=C.out.2 q hq;omega
    have aL:∀q,v2.ownBlock=some q->L i<=q/\q < H i:=fun q hq=>by have h1:=(D.out.1.lt q hq).1;have h2:=D.out.2 q hq;omega
    have s1:Stp (L i) (H i) (((((wr.setCell ⟨g,i * 12,none⟩ (.int .i64 (n))).setCell ⟨g,i * 12+1,none⟩ (.int .i64 (n+1))).setCell ⟨g,i * 12+2,none⟩ (.int .i64 (n+1+1))).setCell ⟨g,i * 12+3,none⟩ (.int .i64 (n+1+1+1))).setCell ⟨g,i * 12+4,none⟩ (.int .i64 (n+1+1+1+1))) w4:=Stp.grown aj aK;have a4:=af.out i hlt;have ay:=Q00 (InRow.steps av.out s1 (fun q e=>by have e:=Option.some.inj e;simp at e;omega));have ad:=Q00 (InRow.kept D.out aj (Qco ah.out));have c3:w4.cell? ⟨g,i * 12+6,none⟩=some v2:=s1.cellP an.out a4;rw[ag.out.2]at c3;have S1:=Q00 s1;have ar:=Q00 aO
    have aq:=Q00 (Q9P a2 v2 m.c.g (n+1+1+1+1+1+(m.c.l.length:Int)) _ ad.out.1 (by omega) (by omega) a8);have bm:g < w4.heap.size:=Kbq (by simpa using aH) s1.size;clear c1 aO aj s1 ap an ba bg bb bh bc bi be bj bf bl;go_wp2_with fail;rw[<-ag.out.2];refine aq.out.mono ?_;rintro e t ⟨rfl,aP,ak⟩;have s2:Stp (L i) (H i) w4 t:=Stp.grown ak aL;have ae:=Q00 (World.ownsRow.kept ar.out ak ah.out);have au:=Q00 aP;have az:=Q00 (InRow.steps ay.out s2 (fun q e=>by have e:=Option.some.inj e;simp at e;omega));have ai:=Q00 (S1.out.trans s2);clear c3 aP ak s2 aq ar
    obtain⟨u,al⟩:∃u,{ y with k:=n,a:=n+1,b:=n+1+1,f:=n+1+1+1,s:=n+1+1+1+1 }=u:=⟨_,rfl⟩;obtain⟨p,J⟩:∃l,hs.set i u=l:=⟨_,rfl⟩
    have a0:Hid (p.getD i Q0A.d=u):=by unfold Hid;rw[<-J];exact Q0Z (by omega)
    have bn:p.length=xs.length:=by rw[<-J];simp;omega
    have F:Hid (InL Q0A 113 lo hi t (.slice (some ⟨g,0,none⟩) xs.length cap) p):=by have h:=az.out;rw[al,J]at h;exact h
    have ao:=Q00 (And.intro al J);clear al J;have bE:t.frozen? ⟨g,i * 12+7,none⟩=false:=InL.frozE (F.out) (i * 12+7);obtain⟨bP,bK⟩:∃z,t.cell? ⟨g,i * 12+7,none⟩=some z:=InL.someE (L:=Q0A) (p) (F.out) i 7 (by(try simp) <;> omega) (by decide)
    have Y:InL Q0A 113 lo hi (t.setCell ⟨g,i * 12+7,none⟩ (.int .i64 (n+1+1+1+1+1+(m.c.l.length:Int)+2 * (m.c.g.length:Int)))) (.slice (some ⟨g,0,none⟩) xs.length cap) (p.set i { u with pl:=n+1+1+1+1+1+(m.c.l.length:Int)+2 * (m.c.g.length:Int) }):=by
     have h:=InL.putE (L:=Q0A) (p) (F.out) i 7 (by(try simp) <;> omega) (by decide) (.int .i64 (n+1+1+1+1+1+(m.c.l.length:Int)+2 * (m.c.g.length:Int))) { u with pl:=n+1+1+1+1+1+(m.c.l.length:Int)+2 * (m.c.g.length:Int) } (by rw[a0.out];rfl);exact h
    have bG:(t.setCell ⟨g,i * 12+7,none⟩ (.int .i64 (n+1+1+1+1+1+(m.c.l.length:Int)+2 * (m.c.g.length:Int)))).frozen? ⟨g,i * 12+8,none⟩=false:=InL.frozE (Y) (i * 12+8);obtain⟨bQ,bL⟩:∃z,(t.setCell ⟨g,i * 12+7,none⟩ (.int .i64 (n+1+1+1+1+1+(m.c.l.length:Int)+2 * (m.c.g.length:Int)))).cell? ⟨g,i * 12+8,none⟩=some z:=InL.someE (L:=Q0A) (p.set i { u with pl:=n+1+1+1+1+1+(m.c.l.length:Int)+2 * (m.c.g.length:Int) }) (Y) i 8 (by(try simp) <;> omega) (by decide)
    have Z:InL Q0A 113 lo hi ((t.setCell ⟨g,i * 12+7,none⟩ (.int .i64 (n+1+1+1+1+1+(m.c.l.length:Int)+2 * (m.c.g.length:Int)))).setCell ⟨g,i * 12+8,none⟩ (.int .i64 (n+1+1+1+1+1+(m.c.l.length:Int)+2 * (m.c.g.length:Int)+1))) (.slice (some ⟨g,0,none⟩) xs.length cap) (p.set i { u with pl:=n+1+1+1+1+1+(m.c.l.length:Int)+2 * (m.c.g.length:Int),st:=n+1+1+1+1+1+(m.c.l.length:Int)+2 * (m.c.g.length:Int)+1 }):=by
     have h:=InL.putE (L:=Q0A) (p.set i { u with pl:=n+1+1+1+1+1+(m.c.l.length:Int)+2 * (m.c.g.length:Int) }) (Y) i 8 (by(try simp) <;> omega) (by decide) (.int .i64 (n+1+1+1+1+1+(m.c.l.length:Int)+2 * (m.c.g.length:Int)+1)) { u with pl:=n+1+1+1+1+1+(m.c.l.length:Int)+2 * (m.c.g.length:Int),st:=n+1+1+1+1+1+(m.c.l.length:Int)+2 * (m.c.g.length:Int)+1 } (by rw[Q0Z (by omega)];rfl);rw[List.set_set]at h;exact h
    have bH:((t.setCell ⟨g,i * 12+7,none⟩ (.int .i64 (n+1+1+1+1+1+(m.c.l.length:Int)+2 * (m.c.g.length:Int)))).setCell ⟨g,i * 12+8,none⟩ (.int .i64 (n+1+1+1+1+1+(m.c.l.length:Int)+2 * (m.c.g.length:Int)+1))).frozen? ⟨g,i * 12+9,none⟩=false:=InL.frozE (Z) (i * 12+9)
    obtain⟨bR,bM⟩:∃z,((t.setCell ⟨g,i * 12+7,none⟩ (.int .i64 (n+1+1+1+1+1+(m.c.l.length:Int)+2 * (m.c.g.length:Int)))).setCell ⟨g,i * 12+8,none⟩ (.int .i64 (n+1+1+1+1+1+(m.c.l.length:Int)+2 * (m.c.g.length:Int)+1))).cell? ⟨g,i * 12+9,none⟩=some z:=InL.someE (L:=Q0A) (p.set i { u with pl:=n+1+1+1+1+1+(m.c.l.length:Int)+2 * (m.c.g.length:Int),st:=n+1+1+1+1+1+(m.c.l.length:Int)+2 * (m.c.g.length:Int)+1 }) (Z) i 9 (by(try simp) <;> omega) (by decide)
    have aa:InL Q0A 113 lo hi (((t.setCell ⟨g,i * 12+7,none⟩ (.int .i64 (n+1+1+1+1+1+(m.c.l.length:Int)+2 * (m.c.g.length:Int)))).setCell ⟨g,i * 12+8,none⟩ (.int .i64 (n+1+1+1+1+1+(m.c.l.length:Int)+2 * (m.c.g.length:Int)+1))).setCell ⟨g,i * 12+9,none⟩ (.int .i64 (n+1+1+1+1+1+(m.c.l.length:Int)+2 * (m.c.g.length:Int)+1+1))) (.slice (some ⟨g,0,none⟩) xs.length cap) (p.set i { u with pl:=n+1+1+1+1+1+(m.c.l.length:Int)+2 * (m.c.g.length:Int),st:=n+1+1+1+1+1+(m.c.l.length:Int)+2 * (m.c.g.length:Int)+1,fa:=n+1+1+1+1+1+(m.c.l.length:Int)+2 * (m.c.g.length:Int)+1+1 }):=by
     have h:=InL.putE (L:=Q0A) (p.set i { u with pl:=n+1+1+1+1+1+(m.c.l.length:Int)+2 * (m.c.g.length:Int),st:=n+1+1+1+1+1+(m.c.l.length:Int)+2 * (m.c.g.length:Int)+1 }) (Z) i 9 (by(try simp) <;> omega) (by decide) (.int .i64 (n+1+1+1+1+1+(m.c.l.length:Int)+2 * (m.c.g.length:Int)+1+1)) { u with pl:=n+1+1+1+1+1+(m.c.l.length:Int)+2 * (m.c.g.length:Int),st:=n+1+1+1+1+1+(m.c.l.length:Int)+2 * (m.c.g.length:Int)+1,fa:=n+1+1+1+1+1+(m.c.l.length:Int)+2 * (m.c.g.length:Int)+1+1 } (by rw[Q0Z (by omega)];rfl);rw[List.set_set]at h;exact h
    have bI:(((t.setCell ⟨g,i * 12+7,none⟩ (.int .i64 (n+1+1+1+1+1+(m.c.l.length:Int)+2 * (m.c.g.length:Int)))).setCell ⟨g,i * 12+8,none⟩ (.int .i64 (n+1+1+1+1+1+(m.c.l.length:Int)+2 * (m.c.g.length:Int)+1))).setCell ⟨g,i * 12+9,none⟩ (.int .i64 (n+1+1+1+1+1+(m.c.l.length:Int)+2 * (m.c.g.length:Int)+1+1))).frozen? ⟨g,i * 12+10,none⟩=false:=InL.frozE (aa) (i * 12+10)
    obtain⟨bS,bN⟩:∃z,(((t.setCell ⟨g,i * 12+7,none⟩ (.int .i64 (n+1+1+1+1+1+(m.c.l.length:Int)+2 * (m.c.g.length:Int)))).setCell ⟨g,i * 12+8,none⟩ (.int .i64 (n+1+1+1+1+1+(m.c.l.length:Int)+2 * (m.c.g.length:Int)+1))).setCell ⟨g,i * 12+9,none⟩ (.int .i64 (n+1+1+1+1+1+(m.c.l.length:Int)+2 * (m.c.g.length:Int)+1+1))).cell? ⟨g,i * 12+10,none⟩=some z:=InL.someE (L:=Q0A) (p.set i { u with pl:=n+1+1+1+1+1+(m.c.l.length:Int)+2 * (m.c.g.length:Int),st:=n+1+1+1+1+1+(m.c.l.length:Int)+2 * (m.c.g.length:Int)+1,fa:=n+1+1+1+1+1+(m.c.l.length:Int)+2 * (m.c.g.length:Int)+1+1 }) (aa) i 10 (by(try simp) <;> omega) (by decide)
    have ab:InL Q0A 113 lo hi ((((t.setCell ⟨g,i * 12+7,none⟩ (.int .i64 (n+1+1+1+1+1+(m.c.l.length:Int)+2 * (m.c.g.length:Int)))).setCell ⟨g,i * 12+8,none⟩ (.int .i64 (n+1+1+1+1+1+(m.c.l.length:Int)+2 * (m.c.g.length:Int)+1))).setCell ⟨g,i * 12+9,none⟩ (.int .i64 (n+1+1+1+1+1+(m.c.l.length:Int)+2 * (m.c.g.length:Int)+1+1))).setCell ⟨g,i * 12+10,none⟩ (.int .i64 (n+1+1+1+1+1+(m.c.l.length:Int)+2 * (m.c.g.length:Int)+1+1+1))) (.slice (some ⟨g,0,none⟩) xs.length cap) (p.set i { u with pl:=n+1+1+1+1+1+(m.c.l.length:Int)+2 * (m.c.g.length:Int),st:=n+1+1+1+1+1+(m.c.l.length:Int)+2 * (m.c.g.length:Int)+1,fa:=n+1+1+1+1+1+(m.c.l.length:Int)+2 * (m.c.g.length:Int)+1+1,fp:=n+1+1+1+1+1+(m.c.l.length:Int)+2 * (m.c.g.length:Int)+1+1+1 }):=by
     have h:=InL.putE (L:=Q0A) (p.set i { u with pl:=n+1+1+1+1+1+(m.c.l.length:Int)+2 * (m.c.g.length:Int),st:=n+1+1+1+1+1+(m.c.l.length:Int)+2 * (m.c.g.length:Int)+1,fa:=n+1+1+1+1+1+(m.c.l.length:Int)+2 * (m.c.g.length:Int)+1+1 }) (aa) i 10 (by(try simp) <;> omega) (by decide) (.int .i64 (n+1+1+1+1+1+(m.c.l.length:Int)+2 * (m.c.g.length:Int)+1+1+1)) { u with pl:=n+1+1+1+1+1+(m.c.l.length:Int)+2 * (m.c.g.length:Int),st:=n+1+1+1+1+1+(m.c.l.length:Int)+2 * (m.c.g.length:Int)+1,fa:=n+1+1+1+1+1+(m.c.l.length:Int)+2 * (m.c.g.length:Int)+1+1,fp:=n+1+1+1+1+1+(m.c.l.length:Int)+2 * (m.c.g.length:Int)+1+1+1 } (by rw[Q0Z (by omega)];rfl)
     rw[List.set_set]at h;exact h
    have bJ:((((t.setCell ⟨g,i * 12+7,none⟩ (.int .i64 (n+1+1+1+1+1+(m.c.l.length:Int)+2 * (m.c.g.length:Int)))).setCell ⟨g,i * 12+8,none⟩ (.int .i64 (n+1+1+1+1+1+(m.c.l.length:Int)+2 * (m.c.g.length:Int)+1))).setCell ⟨g,i * 12+9,none⟩ (.int .i64 (n+1+1+1+1+1+(m.c.l.length:Int)+2 * (m.c.g.length:Int)+1+1))).setCell ⟨g,i * 12+10,none⟩ (.int .i64 (n+1+1+1+1+1+(m.c.l.length:Int)+2 * (m.c.g.length:Int)+1+1+1))).frozen? ⟨g,i * 12+11,none⟩=false:=InL.frozE (ab) (i * 12+11)
    obtain⟨bT,bO⟩:∃z,((((t.setCell ⟨g,i * 12+7,none⟩ (.int .i64 (n+1+1+1+1+1+(m.c.l.length:Int)+2 * (m.c.g.length:Int)))).setCell ⟨g,i * 12+8,none⟩ (.int .i64 (n+1+1+1+1+1+(m.c.l.length:Int)+2 * (m.c.g.length:Int)+1))).setCell ⟨g,i * 12+9,none⟩ (.int .i64 (n+1+1+1+1+1+(m.c.l.length:Int)+2 * (m.c.g.length:Int)+1+1))).setCell ⟨g,i * 12+10,none⟩ (.int .i64 (n+1+1+1+1+1+(m.c.l.length:Int)+2 * (m.c.g.length:Int)+1+1+1))).cell? ⟨g,i * 12+11,none⟩=some z:=InL.someE (L:=Q0A) (p.set i { u with pl:=n+1+1+1+1+1+(m.c.l.length:Int)+2 * (m.c.g.length:Int),st:=n+1+1+1+1+1+(m.c.l.length:Int)+2 * (m.c.g.length:Int)+1,fa:=n+1+1+1+1+1+(m.c.l.length:Int)+2 * (m.c.g.length:Int)+1+1,fp:=n+1+1+1+1+1+(m.c.l.length:Int)+2 * (m.c.g.length:Int)+1+1+1 }) (ab) i 11 (by(try simp) <;> omega) (by decide)
    have aS:InL Q0A 113 lo hi (((((t.setCell ⟨g,i * 12+7,none⟩ (.int .i64 (n+1+1+1+1+1+(m.c.l.length:Int)+2 * (m.c.g.length:Int)))).setCell ⟨g,i * 12+8,none⟩ (.int .i64 (n+1+1+1+1+1+(m.c.l.length:Int)+2 * (m.c.g.length:Int)+1))).setCell ⟨g,i * 12+9,none⟩ (.int .i64 (n+1+1+1+1+1+(m.c.l.length:Int)+2 * (m.c.g.length:Int)+1+1))).setCell ⟨g,i * 12+10,none⟩ (.int .i64 (n+1+1+1+1+1+(m.c.l.length:Int)+2 * (m.c.g.length:Int)+1+1+1))).setCell ⟨g,i * 12+11,none⟩ (.int .i64 (n+1+1+1+1+1+(m.c.l.length:Int)+2 * (m.c.g.length:Int)+1+1+1+1))) (.slice (some ⟨g,0,none⟩) xs.length cap) (p.set i { u with pl:=n+1+1+1+1+1+(m.c.l.length:Int)+2 * (m.c.g.length:Int),st:=n+1+1+1+1+1+(m.c.l.length:Int)+2 * (m.c.g.length:Int)+1,fa:=n+1+1+1+1+1+(m.c.l.length:Int)+2 * (m.c.g.length:Int)+1+1,fp:=n+1+1+1+1+1+(m.c.l.length:Int)+2 * (m.c.g.length:Int)+1+1+1,bk:=n+1+1+1+1+1+(m.c.l.length:Int)+2 * (m.c.g.length:Int)+1+1+1+1 }):=by
     have h:=InL.putE (L:=Q0A) (p.set i { u with pl:=n+1+1+1+1+1+(m.c.l.length:Int)+2 * (m.c.g.length:Int),st:=n+1+1+1+1+1+(m.c.l.length:Int)+2 * (m.c.g.length:Int)+1,fa:=n+1+1+1+1+1+(m.c.l.length:Int)+2 * (m.c.g.length:Int)+1+1,fp:=n+1+1+1+1+1+(m.c.l.length:Int)+2 * (m.c.g.length:Int)+1+1+1 }) (ab) i 11 (by(try simp) <;> omega) (by decide) (.int .i64 (n+1+1+1+1+1+(m.c.l.length:Int)+2 * (m.c.g.length:Int)+1+1+1+1)) { u with pl:=n+1+1+1+1+1+(m.c.l.length:Int)+2 * (m.c.g.length:Int),st:=n+1+1+1+1+1+(m.c.l.length:Int)+2 * (m.c.g.length:Int)+1,fa:=n+1+1+1+1+1+(m.c.l.length:Int)+2 * (m.c.g.length:Int)+1+1,fp:=n+1+1+1+1+1+(m.c.l.length:Int)+2 * (m.c.g.length:Int)+1+1+1,bk:=n+1+1+1+1+1+(m.c.l.length:Int)+2 * (m.c.g.length:Int)+1+1+1+1 } (by rw[Q0Z (by omega)];rfl)
     rw[List.set_set]at h;exact h
    have E:=Q00 (show Stp g (g+1) t (((((t.setCell ⟨g,i * 12+7,none⟩ (.int .i64 (n+1+1+1+1+1+(m.c.l.length:Int)+2 * (m.c.g.length:Int)))).setCell ⟨g,i * 12+8,none⟩ (.int .i64 (n+1+1+1+1+1+(m.c.l.length:Int)+2 * (m.c.g.length:Int)+1))).setCell ⟨g,i * 12+9,none⟩ (.int .i64 (n+1+1+1+1+1+(m.c.l.length:Int)+2 * (m.c.g.length:Int)+1+1))).setCell ⟨g,i * 12+10,none⟩ (.int .i64 (n+1+1+1+1+1+(m.c.l.length:Int)+2 * (m.c.g.length:Int)+1+1+1))).setCell ⟨g,i * 12+11,none⟩ (.int .i64 (n+1+1+1+1+1+(m.c.l.length:Int)+2 * (m.c.g.length:Int)+1+1+1+1)))from((((((Stp.refl t).trans (Q07 _ g _ _)).trans (Q07 _ g _ _)).trans (Q07 _ g _ _)).trans (Q07 _ g _ _)).trans (Q07 _ g _ _)))
    have aY:Hid (InL Q0A 113 lo hi (((((t.setCell ⟨g,i * 12+7,none⟩ (.int .i64 (n+1+1+1+1+1+(m.c.l.length:Int)+2 * (m.c.g.length:Int)))).setCell ⟨g,i * 12+8,none⟩ (.int .i64 (n+1+1+1+1+1+(m.c.l.length:Int)+2 * (m.c.g.length:Int)+1))).setCell ⟨g,i * 12+9,none⟩ (.int .i64 (n+1+1+1+1+1+(m.c.l.length:Int)+2 * (m.c.g.length:Int)+1+1))).setCell ⟨g,i * 12+10,none⟩ (.int .i64 (n+1+1+1+1+1+(m.c.l.length:Int)+2 * (m.c.g.length:Int)+1+1+1))).setCell ⟨g,i * 12+11,none⟩ (.int .i64 (n+1+1+1+1+1+(m.c.l.length:Int)+2 * (m.c.g.length:Int)+1+1+1+1))) (.slice (some ⟨g,0,none⟩) xs.length cap) (hs.set i { y with k:=n,a:=n+1,b:=n+1+1,f:=n+1+1+1,s:=n+1+1+1+1,pl:=n+1+1+1+1+1+(m.c.l.length:Int)+2 * (m.c.g.length:Int),st:=n+1+1+1+1+1+(m.c.l.length:Int)+2 * (m.c.g.length:Int)+1,fa:=n+1+1+1+1+1+(m.c.l.length:Int)+2 * (m.c.g.length:Int)+1+1,fp:=n+1+1+1+1+1+(m.c.l.length:Int)+2 * (m.c.g.length:Int)+1+1+1,bk:=n+1+1+1+1+1+(m.c.l.length:Int)+2 * (m.c.g.length:Int)+1+1+1+1 })):=by
     have h:=aS;rw[<-ao.out.2,List.set_set,<-ao.out.1]at h;exact h
    clear Y Z aa ab aS
    have aw:Hid (QM (L i) (H i) (((((t.setCell ⟨g,i * 12+7,none⟩ (.int .i64 (n+1+1+1+1+1+(m.c.l.length:Int)+2 * (m.c.g.length:Int)))).setCell ⟨g,i * 12+8,none⟩ (.int .i64 (n+1+1+1+1+1+(m.c.l.length:Int)+2 * (m.c.g.length:Int)+1))).setCell ⟨g,i * 12+9,none⟩ (.int .i64 (n+1+1+1+1+1+(m.c.l.length:Int)+2 * (m.c.g.length:Int)+1+1))).setCell ⟨g,i * 12+10,none⟩ (.int .i64 (n+1+1+1+1+1+(m.c.l.length:Int)+2 * (m.c.g.length:Int)+1+1+1))).setCell ⟨g,i * 12+11,none⟩ (.int .i64 (n+1+1+1+1+1+(m.c.l.length:Int)+2 * (m.c.g.length:Int)+1+1+1+1))) (Qj0 { y with k:=n,a:=n+1,b:=n+1+1,f:=n+1+1+1,s:=n+1+1+1+1,pl:=n+1+1+1+1+1+(m.c.l.length:Int)+2 * (m.c.g.length:Int),st:=n+1+1+1+1+1+(m.c.l.length:Int)+2 * (m.c.g.length:Int)+1,fa:=n+1+1+1+1+1+(m.c.l.length:Int)+2 * (m.c.g.length:Int)+1+1,fp:=n+1+1+1+1+1+(m.c.l.length:Int)+2 * (m.c.g.length:Int)+1+1+1,bk:=n+1+1+1+1+1+(m.c.l.length:Int)+2 * (m.c.g.length:Int)+1+1+1+1 }) (QiE n m)):=by
     refine⟨v1,v2,a,b,a2,b2,by unfold QiE;rw[<-ac.out.1,<-ac.out.2],kb,InRow.step ⟨(Q4p.1 ae.out),C.out.2⟩ E.out (by omega),InRow.step ⟨au.out,D.out.2⟩ E.out (by omega),ah.out⟩
    have aT:Hid (RwE elM (Q1D (QgW k xs) xs mmD (i+1)) lo hi (((((t.setCell ⟨g,i * 12+7,none⟩ (.int .i64 (n+1+1+1+1+1+(m.c.l.length:Int)+2 * (m.c.g.length:Int)))).setCell ⟨g,i * 12+8,none⟩ (.int .i64 (n+1+1+1+1+1+(m.c.l.length:Int)+2 * (m.c.g.length:Int)+1))).setCell ⟨g,i * 12+9,none⟩ (.int .i64 (n+1+1+1+1+1+(m.c.l.length:Int)+2 * (m.c.g.length:Int)+1+1))).setCell ⟨g,i * 12+10,none⟩ (.int .i64 (n+1+1+1+1+1+(m.c.l.length:Int)+2 * (m.c.g.length:Int)+1+1+1))).setCell ⟨g,i * 12+11,none⟩ (.int .i64 (n+1+1+1+1+1+(m.c.l.length:Int)+2 * (m.c.g.length:Int)+1+1+1+1))) (hs.set i { y with k:=n,a:=n+1,b:=n+1+1,f:=n+1+1+1,s:=n+1+1+1+1,pl:=n+1+1+1+1+1+(m.c.l.length:Int)+2 * (m.c.g.length:Int),st:=n+1+1+1+1+1+(m.c.l.length:Int)+2 * (m.c.g.length:Int)+1,fa:=n+1+1+1+1+1+(m.c.l.length:Int)+2 * (m.c.g.length:Int)+1+1,fp:=n+1+1+1+1+1+(m.c.l.length:Int)+2 * (m.c.g.length:Int)+1+1+1,bk:=n+1+1+1+1+1+(m.c.l.length:Int)+2 * (m.c.g.length:Int)+1+1+1+1 }) L H):=by
     unfold Hid;rw[<-Q4U,aM.out];refine I.out.set (by rw[Q0X];exact hlt) (fun j hj a6=>?_) aw.out
     have aI:j < xs.length:=by rw[Q0X]at hj;exact hj
     have bv:=aA.out j i aI hlt a6;exact elM.qs.go (elM.qs.go (I.out.row j hj) ai.out (by omega)) E.out (aX.out j aI)
    have aZ:=Q00 (O.out.trans ((HP.out.wide2 aG aF).trans ((ai.out.wide2 (am.out i hlt).1 (am.out i hlt).2).trans (E.out.wide2 aG aF))));clear G I ay az C D ad S1 ai HP E av x O aw ae au;go_wp2;go_roundw
    case rel=>
     refine⟨i+1,hs.set i { y with k:=n,a:=n+1,b:=n+1+1,f:=n+1+1+1,s:=n+1+1+1+1,pl:=n+1+1+1+1+1+(m.c.l.length:Int)+2 * (m.c.g.length:Int),st:=n+1+1+1+1+1+(m.c.l.length:Int)+2 * (m.c.g.length:Int)+1,fa:=n+1+1+1+1+1+(m.c.l.length:Int)+2 * (m.c.g.length:Int)+1+1,fp:=n+1+1+1+1+1+(m.c.l.length:Int)+2 * (m.c.g.length:Int)+1+1+1,bk:=n+1+1+1+1+1+(m.c.l.length:Int)+2 * (m.c.g.length:Int)+1+1+1+1 },by omega,by go_num,by rw[aU.out],aY.out,aT.out,aZ.out⟩
    case measure=>simp[intOf];omega
   ·have e:i=xs.length:=by omega
    subst e;have aR:Q0K (nM xs) xs.length=nMs xs:=rfl;rw[aR];have HE:Hid (Q1D (QgW k xs) xs mmD xs.length=QhV k xs):=Q4z _ _ _;have aV:=Q00 (QfL k xs);clear aR;go_wp2;go_ret;exact⟨rfl,⟨hs,L,H,x.out,by rw[<-HE.out];exact G.out,by rw[aV.out];exact aW.out⟩,O.out⟩
theorem Q3Y:AppOk Q0L 26 259:=⟨Tryz.underlying26,⟨_,_,Qcz,rfl,by decide⟩,by decide,fun a u hu=>by
 simp[Q0L]at hu;rcases hu with rfl|rfl|rfl <;> rfl⟩
theorem QiM:AppOk Q24 23 256:=⟨Tryz.underlying23,⟨_,_,QeF,rfl,by decide⟩,by decide,fun a u hu=>by
 simp[Q24]at hu;rcases hu with rfl|rfl|rfl <;> rfl⟩
theorem Q1t (o:Option Addr) (cap:Nat) (l:List Bk) (w:World) (f:RdK w.heap.size w o l) (g:o=none->cap=0) (i:l.length<=1048576):
  Calls Tryz.prog 182 #[.slice o l.length cap] w fun e c=> ∃v,e=.returned v/\Q1F c w.heap.size v l/\Below w.heap.size w c:=by
 go_enter Tryz.func182,Tryz.ntmps182;go_wp2_with (at_builtin;refine Q08 Q3Y rfl _ _ rfl w.heap.size (.slice none 0 0) [] rfl (KLq _ _ _ _) o cap w.heap.size l l.length rfl rfl g f ?c1 (Kaq _) ?_)
 case c1=>simp;omega
 intro v d hv b _;have a:=Q00 (show Q1F d w.heap.size v l/\Below w.heap.size w d from⟨hv,KBq.grown b (Kaq _) (fun k h=>by cases h)⟩);clear hv b;go_wp2;go_ret;exact⟨_,rfl,a.out.1,a.out.2⟩
theorem Q8J (o:Option Addr) (cap:Nat) (l:List Cd) (w:World) (f:RdC w.heap.size w o l) (g:o=none->cap=0) (i:l.length<=1048576):
  Calls Tryz.prog 207 #[.slice o l.length cap] w fun e c=> ∃v,e=.returned v/\QhX c w.heap.size v l/\Below w.heap.size w c:=by
 go_enter Tryz.func207,Tryz.ntmps207;go_wp2_with (at_builtin;refine Q08 QiM rfl _ _ rfl w.heap.size (.slice none 0 0) [] rfl (KLq _ _ _ _) o cap w.heap.size l l.length rfl rfl g f ?c1 (Kaq _) ?_)
 case c1=>simp;omega
 intro v d hv b _;have a:=Q00 (show QhX d w.heap.size v l/\Below w.heap.size w d from⟨hv,KBq.grown b (Kaq _) (fun k h=>by cases h)⟩);clear hv b;go_wp2;go_ret;exact⟨_,rfl,a.out.1,a.out.2⟩
theorem QgM {l:List Bk} (h:Q0d l=true) {id:Int} {k:Nat} (a:k < l.length) (e:(l.getD k (0,0,false)).1=id):Q0e l id=k/\Q0m l id=true:=by
 have b:Q0e l id=k:=Q72 (KIq a) (fun j c=>by rw[<-e];exact Q4K h k a j c) (.inr (by rw[e];exact Int.lt_irrefl _));exact⟨b,by unfold Q0m;rw[b,e];simp[a]⟩
theorem QgL {l:List Bk} {id:Int} (h:∀k,k < l.length->(l.getD k (0,0,false)).1≠id):Q0m l id=false:=by
 unfold Q0m
 by_cases hp:Q0e l id < l.length
 ·have:=h _ hp
  rw[show((l.getD (Q0e l id) (0,0,false)).1==id)=false from beq_eq_false_iff_ne.2 this,Bool.and_false]
 ·simp[hp]
def Q6x (l:List Bk) (id:Int):Int:=if Q0m l id then(Q0e l id:Int)else -1
theorem Q59 (o:Option Addr) (cap:Nat) (l:List Bk) (id:Int) (w:World) (m:RdK w.heap.size w o l) (B:l.length<=1048576) (p:Q0d l=true):
  Calls Tryz.prog 221 #[.slice o l.length cap,.int .i64 id] w fun e v=>e=.returned (.int .i64 (Q6x l id))/\w=v:=by
 go_enter Tryz.func221,Tryz.ntmps221;go_wp2
 go_loop [5] (fun av=> ∃k:Nat,k<=l.length/\av=.int .i64 k/\Hid (∀j,j < k->(l.getD j (0,0,false)).1≠id))
  (fun av=>l.length - (intOf av).toNat)
 case atStart=>exact⟨0,Kcq _,rfl,fun j n=>absurd n (KMq _)⟩
 case round=>
  obtain⟨k,A,rfl,f⟩:=hrel
  by_cases hlt:k < l.length
  ·rcases m with m|⟨b,u,rfl,t,a⟩
   ·subst m;simp at hlt
   obtain⟨x,y,z,c⟩:∃x y z,l.getD k (0,0,false)=(x,y,z):=⟨_,_,_,rfl⟩;have d:=(RdL.back (C:=w.heap.size) a k hlt).1;rw[c]at d;dsimp only at d
   have D:(k:Int) < (l.length:Int):=by omega
   by_cases hx:x=id
   ·have r:=QgM (id:=id) p hlt ((congrArg (fun q=>q.1) c).trans hx)
    have g:=Q00 (show Q6x l id=(k:Int)by unfold Q6x;rw[r.2,r.1];rfl)
    have s:(x==id)=true:=by simpa using hx
    clear c a r f hx;go_wp2;go_ret;exact⟨by rw[g.out];rfl,rfl⟩
   ·have i:Hid (∀j,j < k+1->(l.getD j (0,0,false)).1≠id):=fun j n=>by
     rcases Nat.lt_succ_iff_lt_or_eq.1 n with h|h
     ·exact f.out j h
     ·rw[h,c];exact hx
    have s:(x==id)=false:=by simpa using hx
    clear c a hx;go_wp2
    go_round
    case rel=>exact⟨k+1,by omega,by go_num,i⟩
    case measure=>simp[intOf];omega
  ·have e:k=l.length:=by omega
   have g:=Q00 (show Q6x l id= -1 by unfold Q6x;rw[QgL (e ▸ f.out)];rfl);subst e;clear f;go_wp2;go_ret;exact⟨by rw[g.out];rfl,rfl⟩
theorem Qg0 {α:Type} {l:List α} {d b:α} (h:b∈l):∃k,k < l.length/\l.getD k d=b:=by
 obtain⟨k,hk,e⟩:=List.getElem_of_mem h;exact⟨k,hk,by simp[hk,e]⟩
theorem Q1x {l:List Bk}:Q0d l=true↔l.Pairwise (fun a b=>a.1 < b.1)/\∀b∈l,Q32 b.1 b.2.1=true:=by
 constructor
 ·intro h
  refine⟨List.pairwise_iff_getElem.2 fun i j hi m f=>?_,fun b p=>?_⟩
  ·have:=Q4K h j m i f
   simpa[hi,m]using this
  ·obtain⟨k,c,e⟩:=Qg0 (d:=(0,0,false)) p
   have:=Q15.1 h k c;unfold QcA at this;rw[<-e];simp only[Bool.and_eq_true]at this;exact this.1
 ·rintro⟨n,h2⟩
  refine Q15.2 fun k c=>?_
  unfold QcA;simp only[Bool.and_eq_true];refine⟨h2 _ (by simp[c]), ?_⟩
  rcases Nat.eq_zero_or_pos k with e|e
  ·subst e;simp
  ·have:=List.pairwise_iff_getElem.1 n (k - 1) k (by omega) c (by omega)
   have g:k - 1 < l.length:=by omega
   simp only[KFq,KGq c,KGq g,Option.getD_some];simp[this]
theorem Qbu (b:Bk) (l:List Bk) (id:Int):Q0e (b::l) id=if b.1 < id then Q0e l id+1 else 0:=by
 unfold Q0e;rw[List.takeWhile_cons]
 by_cases h:b.1 < id <;> simp[h]
theorem Q5b:∀(l:List Bk) (id:Int),∀a∈l.take (Q0e l id),a.1 < id
 |[],id,a,h=>by simp at h
 |b::l,id,a,h=>by
  rw[Qbu]at h
  by_cases hb:b.1 < id
  ·rw[if_pos hb,List.take_succ_cons]at h
   rcases List.mem_cons.1 h with e|e
   ·rw[e];exact hb
   ·exact Q5b l id a e
  ·rw[if_neg hb]at h;simp at h
theorem Q7P {l:List Bk} {id:Int} (h:l.Pairwise (fun a b=>a.1 < b.1)) (j:Q0m l id=false):∀b∈l.drop (Q0e l id),id < b.1:=by
 intro b d;have m:=Q3t l id
 rcases Nat.lt_or_ge (Q0e l id) l.length with c|g
 ·have k:=Q6w l id c
  unfold Q0m at j;simp only[c,decide_true,Bool.true_and,beq_eq_false_iff_ne]at j
  have h2:id < (l.getD (Q0e l id) (0,0,false)).1:=by omega
  rw[List.drop_eq_getElem_cons c]at d
  have e:l.getD (Q0e l id) (0,0,false)=l[Q0e l id]:=by simp[c]
  rw[e]at h2
  rcases List.mem_cons.1 d with f|f
  ·rw[f];exact h2
  ·have i:(l.drop (Q0e l id)).Pairwise (fun a b=>a.1 < b.1):=h.sublist (List.drop_sublist _ _)
   rw[List.drop_eq_getElem_cons c]at i;have:=(List.pairwise_cons.1 i).1 b f;omega
 ·rw[List.drop_eq_nil_of_le g]at d;simp at d
theorem Qfi {l:List Bk} {id g:Int} (h:Q0d l=true) (m:Q0m l id=false) (f:Q32 id g=true):Q0d (l.take (Q0e l id)++(id,g,false)::l.drop (Q0e l id))=true:=by
 obtain⟨d,h2⟩:=Q1x.1 h;have k:=Q7P d m;refine Q1x.2 ⟨?_, ?_⟩
 ·have e:l.take (Q0e l id)++l.drop (Q0e l id)=l:=List.take_append_drop _ _
  rw[<-e]at d;obtain⟨n,p,q⟩:=List.pairwise_append.1 d;refine List.pairwise_append.2 ⟨by simpa using n,List.pairwise_cons.2 ⟨by simpa using k,by simpa using p⟩, ?_⟩;intro a j b f
  rcases List.mem_cons.1 f with c|c
  ·rw[c];exact Q5b l id a j
  ·have:=Q5b l id a j;have:=k b c;omega
 ·intro b i
  rcases List.mem_append.1 i with e|e
  ·exact h2 b (List.mem_of_mem_take e)
  ·rcases List.mem_cons.1 e with e|e
   ·rw[e];exact f
   ·exact h2 b (List.mem_of_mem_drop e)
theorem QeB {l:List Bk} (n:Nat) (h:Q0d l=true):Q0d (l.take n++l.drop (n+1))=true:=by
 obtain⟨a,h2⟩:=Q1x.1 h
 have hs:(l.take n++l.drop (n+1)).Sublist l:=by
  have:=List.Sublist.append (List.Sublist.refl (l.take n)) (List.drop_sublist 1 (l.drop n));rw[List.drop_drop,List.take_append_drop]at this;exact this
 exact Q1x.2 ⟨a.sublist hs,fun b c=>h2 b (hs.subset c)⟩
theorem Qh3 {l:List Bk} {n:Nat} {a:Bk} (h:Q0d l=true) (m:n < l.length) (e:(l.getD n (0,0,false)).1=a.1) (k:Q32 a.1 a.2.1=true):Q0d (l.set n a)=true:=by
 obtain⟨f,h2⟩:=Q1x.1 h;refine Q1x.2 ⟨?_, ?_⟩
 ·have g:(l.map (·.1)).Pairwise (fun a b=>a < b):=List.pairwise_map.2 f
  have d:(l.set n a).map (·.1)=l.map (·.1):=by
   apply List.ext_getElem
   ·simp
   ·intro i p q
    simp only[List.getElem_map,List.getElem_set]
    split
    ·next hi=>subst hi;rw[<-e];simp[m]
    ·rfl
  have j:=d ▸ g;exact List.pairwise_map.1 j
 ·intro b c
  rcases List.mem_or_eq_of_mem_set c with c|c
  ·exact h2 b c
  ·rw[c];exact k
theorem Q4Q {l m:List Bk} {k i g:Int} (h:doL l k i g=some m):(Q0m l i=false/\k=0/\m=l.take (Q0e l i)++(i,g,false)::l.drop (Q0e l i))\/(Q0m l i=true/\k=1/\m=l.set (Q0e l i) (i,g,(l.getD (Q0e l i) (0,0,false)).2.2))\/(Q0m l i=true/\k=2/\m=l.set (Q0e l i) (i,(l.getD (Q0e l i) (0,0,false)).2.1,true))\/(Q0m l i=true/\k≠0/\k≠1/\k≠2/\m=l.take (Q0e l i)++l.drop (Q0e l i+1)):=by
 unfold doL at h
 split at h
 ·cases h
 ·next a=>
  injection h with h
  by_cases h0:k=0
  ·subst h0
   simp only[beq_self_eq_true,Bool.not_eq_true]at a
   left;exact⟨a,rfl,by rw[<-h];simp⟩
  ·have c:(k==0)=false:=beq_eq_false_iff_ne.2 h0
   rw[c]at a
   have b:Q0m l i=true:=by cases h:Q0m l i <;> simp_all
   right
   by_cases h1:k=1
   ·left;exact⟨b,h1,by rw[<-h,if_neg h0,if_pos h1]⟩
   ·right
    by_cases h2:k=2
    ·left;exact⟨b,h2,by rw[<-h,if_neg h0,if_neg h1,if_pos h2]⟩
    ·right;exact⟨b,h0,h1,h2,by rw[<-h,if_neg h0,if_neg h1,if_neg h2]⟩
theorem Q8w {l m:List Bk} {k i g:Int} (h:doL l k i g=some m):m.length<=l.length+1:=by
 have hp:=Q3t l i
 rcases Q4Q h with⟨_,_,rfl⟩|⟨_,_,rfl⟩|⟨_,_,rfl⟩|⟨_,_,_,_,rfl⟩ <;> simp <;> omega
theorem Q4J {l:List Bk} {id:Int} (h:Q0m l id=true):Q0e l id < l.length:=by
 unfold Q0m at h;simp at h;exact h.1
theorem Q3u {l:List Bk} {id:Int} (h:Q0m l id=true):(l.getD (Q0e l id) (0,0,false)).1=id:=by
 unfold Q0m at h;simp only[Bool.and_eq_true,beq_iff_eq]at h;exact h.2
theorem QbS {k i g:Int} (h:Q1y k i g=true):k=0\/k=1->Q32 i g=true:=by
 intro hk;unfold Q1y at h;unfold Q32;simp at h ⊢;omega
theorem QeL {l m:List Bk} {k i g:Int} (d:Q0d l=true) (j:Q1y k i g=true) (h:doL l k i g=some m):Q0d m=true:=by
 have b:=QbS j
 rcases Q4Q h with⟨a,c,rfl⟩|⟨a,c,rfl⟩|⟨a,c,rfl⟩|⟨a,c,_,_,rfl⟩
 ·exact Qfi d a (b (.inl c))
 ·exact Qh3 d (Q4J a) (Q3u a) (b (.inr c))
 ·refine Qh3 d (Q4J a) (Q3u a) ?_
  obtain⟨n,h2⟩:=Q1x.1 d;have f:=Q4J a;have:=h2 (l.getD (Q0e l i) (0,0,false)) (by simp[f]);rw[Q3u a]at this;exact this
 ·exact QeB _ d
def Q7v (s:Option (List Bk)) (c:Cd):Option (List Bk):=s.bind fun l=>if Q1y c.1 c.2.1 c.2.2=true then doL l c.1 c.2.1 c.2.2 else none
def Q1h (cs:List Cd) (q:Nat):Option (List Bk):=(cs.take q).foldl Q7v (some [])
theorem QcL (cs:List Cd):Q1h cs 0=some []:=rfl
theorem Q2V {cs:List Cd} {q:Nat} (h:q < cs.length):Q1h cs (q+1)=Q7v (Q1h cs q) (cs.getD q (0,0,0)):=by
 unfold Q1h;rw[Q1q Q24 cs q h,List.foldl_append]
 rfl
theorem QcT (cs:List Cd):cs.foldl Q7v none=none:=by
 induction cs with
 |nil=>rfl
 |cons c cs ih=>exact ih
theorem Q7Q {cs:List Cd} {q r:Nat} (h:Q1h cs q=none) (a:q<=r):Q1h cs r=none:=by
 unfold Q1h at h ⊢
 have e:cs.take r=cs.take q++(cs.take r).drop q:=by
  have:=(List.take_append_drop q (cs.take r)).symm
  rwa [List.take_take,Nat.min_eq_left a]at this
 rw[e,List.foldl_append,h,QcT]
theorem Q3U {cs:List Cd}:∀(q:Nat) (l:List Bk),q<=cs.length->Q1h cs q=some l->Q0d l=true/\l.length<=q
 |0,l,hq,h=>by rw[QcL]at h;injection h with h;subst h;exact⟨rfl,Kaq _⟩
 |q+1,l,hq,h=>by
  rw[Q2V (by omega)]at h
  cases hp:Q1h cs q with
  |none=>rw[hp]at h;cases h
  |some l0=>
   rw[hp]at h;obtain⟨b,c⟩:=Q3U q l0 (by omega) hp;simp only[Q7v,Option.bind_some]at h
   split at h
   ·next a=>
    have:=Q8w h;exact⟨QeL b a h,by omega⟩
   ·cases h
def Q0n (key:Int) (cs:List Cd) (safe:Int):Bool:=Q1S key && decide (cs.length<=100) && decide (0<=safe) && decide (safe<=(cs.length:Int)) && (Q1h cs cs.length).isSome
def Q40 (k i g fi:Int) (s:List Bk × Bool) (t:Nat) (b:Bk):List Bk × Bool:=
 if(t:Int)=fi then(if k=3 then(if s.2=false/\i < b.1 then(s.1++[(i,g,false)],true)else s)else if k=1 then((if s.2=false/\i < b.1 then(s.1++[(i,g,false)],true)else s).1++[(b.1,g,b.2.2)],(if s.2=false/\i < b.1 then(s.1++[(i,g,false)],true)else s).2)else((if s.2=false/\i < b.1 then(s.1++[(i,g,false)],true)else s).1++[(b.1,b.2.1,true)],(if s.2=false/\i < b.1 then(s.1++[(i,g,false)],true)else s).2))
 else((if s.2=false/\i < b.1 then(s.1++[(i,g,false)],true)else s).1++[b],(if s.2=false/\i < b.1 then(s.1++[(i,g,false)],true)else s).2)
def Q4j (l:List Bk) (k i g fi:Int):Nat->List Bk × Bool
 |0=>([], !(k==0))
 |t+1=>Q40 k i g fi (Q4j l k i g fi t) t (l.getD t (0,0,false))
def Qif (s:List Bk × Bool) (i g:Int):List Bk:=if s.2=true then s.1 else s.1++[(i,g,false)]
theorem Q4m {l:List Bk} {t:Nat} (h:t < l.length):l.take (t+1)=l.take t++[l.getD t (0,0,false)]:=Q1q Q0L l t h
theorem Q2Z {l:List Bk} {t n:Nat} (h:t < l.length) (hn:n<=t):(l.take (t+1)).drop n=(l.take t).drop n++[l.getD t (0,0,false)]:=by
 rw[Q4m h,List.drop_append_of_le_length (by simp;omega)]
theorem Qf8 {l:List Bk} {i g:Int} (k:Q0d l=true) (m:Q0m l i=false):∀t,t<=l.length->Q4j l 0 i g (-1) t=if t<=Q0e l i then(l.take t,false)else(l.take (Q0e l i)++(i,g,false)::(l.take t).drop (Q0e l i),true)
 |0,_=>by simp[Q4j]
 |t+1,ht=>by
  have q:=Qf8 (g:=g) k m t (by omega)
  have a:t < l.length:=by omega
  have d:¬((t:Int)= -1):=by omega
  have f:=Q7P (Q1x.1 k).1 m;unfold Q4j;rw[q];unfold Q40;rw[if_neg d]
  rcases Nat.lt_trichotomy t (Q0e l i)with h|h|h
  ·have j:=Q73 l i t h
   have b:t<=Q0e l i:=by omega
   have c:t+1<=Q0e l i:=by omega
   have n:¬i < (l.getD t (0,0,false)).1:=by omega
   simp only[if_pos b,if_pos c,n,and_false,if_false];rw[Q4m a]
  ·have p:l.getD t (0,0,false)∈l.drop (Q0e l i):=by
    have e:l.getD t (0,0,false)=l[t]:=by simp[a]
    rw[<-h,List.drop_eq_getElem_cons a,e];exact List.mem_cons_self
   have j:=f _ p
   have b:t<=Q0e l i:=by omega
   have c:¬t+1<=Q0e l i:=by omega
   simp only[if_pos b,if_neg c,j,and_self,if_true];rw[Q2Z a (by omega),<-h];simp
  ·have b:¬t<=Q0e l i:=by omega
   have c:¬t+1<=Q0e l i:=by omega
   simp only[if_neg b,if_neg c,Bool.true_eq_false,false_and,if_false];rw[Q2Z a (by omega)];simp
theorem QbG {l:List Bk} {k i g:Int} {pl:Nat} {a:Bk} (j:(k==0)=false) (m:k≠3) (n:∀b:Bk,b=l.getD pl (0,0,false)->(if k=1 then(b.1,g,b.2.2)else(b.1,b.2.1,true))=a):∀t,t<=l.length->Q4j l k i g (pl:Int) t=((l.set pl a).take t,true)
 |0,_=>by simp[Q4j,j]
 |t+1,ht=>by
  have q:=QbG (g:=g) (i:=i) j m n t (by omega)
  have c:t < l.length:=by omega
  unfold Q4j;rw[q];unfold Q40
  have d:¬((true=false)/\i < (l.getD t (0,0,false)).1):=by rintro⟨h,_⟩;cases h
  rw[Q4m (l:=l.set pl a) (by simpa using c)]
  by_cases h:t=pl
  ·subst h
   have e:=n _ rfl;rw[if_pos rfl,if_neg m];simp only[d,if_false]
   have f:(l.set t a).getD t (0,0,false)=a:=by simp[c]
   rw[f,<-e]
   by_cases h1:k=1
   ·rw[if_pos h1,if_pos h1]
   ·rw[if_neg h1,if_neg h1]
  ·have p:¬((t:Int)=(pl:Int)):=by omega
   rw[if_neg p];simp only[d,if_false]
   have f:(l.set pl a).getD t (0,0,false)=l.getD t (0,0,false):=by
    simp only[KFq];rw[List.getElem?_set_ne (fun e=>h e.symm)]
   rw[f]
theorem Qfp {l:List Bk} {i g:Int} {pl:Nat}:∀t,t<=l.length->Q4j l 3 i g (pl:Int) t=(if t<=pl then l.take t else l.take pl++(l.take t).drop (pl+1),true)
 |0,_=>by simp[Q4j]
 |t+1,ht=>by
  have j:=Qfp (l:=l) (g:=g) (i:=i) (pl:=pl) t (by omega)
  have d:t < l.length:=by omega
  unfold Q4j;rw[j];unfold Q40
  have f:¬((true=false)/\i < (l.getD t (0,0,false)).1):=by rintro⟨h,_⟩;cases h
  simp only[f,if_false,if_true]
  rcases Nat.lt_trichotomy t pl with h|h|h
  ·have a:t<=pl:=by omega
   have b:t+1<=pl:=by omega
   have c:¬((t:Int)=(pl:Int)):=by omega
   simp only[if_pos a,if_pos b,if_neg c];rw[Q4m d]
  ·have a:t<=pl:=by omega
   have b:¬t+1<=pl:=by omega
   have c:(t:Int)=(pl:Int):=by omega
   simp only[if_pos a,if_neg b,if_pos c];rw[h];simp
  ·have a:¬t<=pl:=by omega
   have b:¬t+1<=pl:=by omega
   have c:¬((t:Int)=(pl:Int)):=by omega
   simp only[if_neg a,if_neg b,if_neg c];rw[Q2Z d (by omega)];simp
theorem QeI {l m:List Bk} {k i g:Int} (s:Q0d l=true) (p:Q1y k i g=true) (h:doL l k i g=some m):Qif (Q4j l k i g (Q6x l i) l.length) i g=m:=by
 have u:=Q3t l i;unfold Q6x
 rcases Q4Q h with⟨c,f,d⟩|⟨c,f,d⟩|⟨c,f,d⟩|⟨c,f,q,r,d⟩
 ·subst f
  rw[c];simp only[Bool.false_eq_true,if_false];rw[Qf8 s c l.length (Kaq _),d];unfold Qif
  by_cases hle:l.length<=Q0e l i
  ·rw[if_pos hle]
   have e:Q0e l i=l.length:=by omega
   simp[e]
  ·rw[if_neg hle]
   simp
 ·subst f
  rw[c,if_pos rfl,QbG (pl:=Q0e l i) (a:=(i,g,(l.getD (Q0e l i) (0,0,false)).2.2)) rfl (by decide) (fun b j=>by rw[j,if_pos rfl,Q3u c]) l.length (Kaq _),d];unfold Qif;rw[if_pos rfl];exact List.take_of_length_le (by simp)
 ·subst f
  rw[c,if_pos rfl,QbG (pl:=Q0e l i) (a:=(i,(l.getD (Q0e l i) (0,0,false)).2.1,true)) rfl (by decide) (fun b j=>by rw[j,if_neg (by decide),Q3u c]) l.length (Kaq _),d];unfold Qif;rw[if_pos rfl];exact List.take_of_length_le (by simp)
 ·have n:k=3:=by have:=Q83.1 p;unfold QcH at this;omega
  subst n;rw[c,if_pos rfl,Qfp l.length (Kaq _),d];have t:=Q4J c;rw[if_neg (by omega)];simp[Qif]
theorem Q4k (l:List Bk) (k i g fi:Int):∀t,(Q4j l k i g fi t).1.length<=2 * t
 |0=>by simp[Q4j]
 |t+1=>by
  have a:=Q4k l k i g fi t;unfold Q4j Q40
  split
  ·split
   ·split <;> simp <;> omega
   ·split
    ·split <;> simp <;> omega
    ·split <;> simp <;> omega
  ·split <;> simp <;> omega
theorem Qew {k i g fi:Int} {s:List Bk × Bool} {t:Nat} {b:Bk} (h:(Q40 k i g fi s t b).2=false):s.2=false:=by
 cases hs:s.2 with
 |false=>rfl
 |true=>
  exfalso
  unfold Q40 at h;simp only[hs,Bool.true_eq_false,false_and,if_false]at h
  split at h
  ·split at h
   ·rw[hs]at h;cases h
   ·split at h <;> cases h
  ·cases h
theorem Q8L {l:List Bk} {k i g fi:Int}:∀t,(Q4j l k i g fi t).2=false->(k==0)=true
 |0,h=>by simpa[Q4j]using h
 |t+1,h=>Q8L (l:=l) (i:=i) (g:=g) (fi:=fi) t (Qew h)
theorem Q4L {w:World} {f:Array Oper} {rest:List Oper} {o:Oper} {a:Act} {Q:Exit->Act->World->Prop} (l:o.guard=none) (s x:Operand)
  (C:o.op=.call { callee:=.builtin .append,args:=#[s,x],argTypes:=#[206,206] }) (base:Nat) (v:Value) (hs:List Hd) (B:a.eval s=v) (d:ownL Q0q 22 w base v hs)
  (n:Nat) (t:Option Addr) (m c:Nat) (D:a.eval x=.slice (some ⟨n,0,none⟩) 1 1) (z:w.cell? ⟨n,0,none⟩=some (.slice t m c)) (y:hs.length<=1000) (b:base<=w.heap.size)
  (h:∀k g,ownL Q0q 22 g base k (hs++[(t,m,c)])->w.grownBy g v.ownBlock->wpList Tryz.prog f Q rest (a.put o.dst k) g):wpList Tryz.prog f Q (o::rest) a w:=by
 obtain⟨E,hi,p,q,r⟩:=info_parts Q63;refine wpList_append_own _ l s x 206 C base 22 E (.slice none 0 0) 1 24 Tryz.underlying206 hi p q r rfl (by decide) v _ _ B d ⟨n,0,none⟩ 1 1 [.slice t m c] D rfl ?_ (by simp[Value.oneCell']) (by unfold maxLen;omega) (by omega) b ?_
 ·intro j u i
  match j,i with
  |0,i=>simp at i;subst i;exact z
 ·intro k g A h2 _
  refine h k g ?_ h2;unfold ownL
  simpa[Q0q]using A
theorem Qfu {key:Int} {l:List Bk} (c:Q1S key=true) (d:Q0d l=true) (b:Nat) (f:b < 8):Q7A (Q4V (scL key b l))=Q0U key b l:=by
 have a:(0:Int)<=(b:Int):=by omega
 have h2:(b:Int) < 8:=by omega
 rw[Q0U,if_pos ⟨c,⟨a,h2⟩,d⟩]
theorem Q1j (key:Int) (o:Option Addr) (cap:Nat) (l:List Bk) (w:World) (T:RdK w.heap.size w o l) (p:l.length<=1000) (J:Q1S key=true) (M:Q0d l=true):
  Calls Tryz.prog 175 #[.int .i64 key,.slice o l.length cap] w fun e E=> ∃u t hs,e=.returned (.slice u 8 t)/\ownL Q0q 22 E w.heap.size (.slice u 8 t) hs/\Tab (fun b=>Q0U key b l) 8 E w.heap.size hs/\Below w.heap.size w E:=by
 have R:=Q00 (fun (b:Nat) (U:b < 8) W h=>(Qfu J M b U) ▸ QdK key b o cap l W h p J ⟨by omega,by omega⟩ M);go_enter Tryz.func175,Tryz.ntmps175;go_wp2
 go_loopw [5,6] (fun out iv wr=> ∃(k:Nat) (hs:List Hd),k<=8/\iv=.int .i64 k/\ownL Q0q 22 wr w.heap.size out hs/\Tab (fun b=>Q0U key b l) k wr w.heap.size hs/\Below w.heap.size w wr)
  (fun _ iv _=> 8 - (intOf iv).toNat)
 case atStart=>exact⟨0,[],Kcq _,rfl,KLq _ _ _ _,Tab.nil _ _ _,KBq⟩
 case round=>
  rename_i out _
  obtain⟨k,hs,V,rfl,c,d,a⟩:=hrel
  by_cases hlt:k < 8
  ·have N:=R.out k hlt wr ((T.kept a (Kaq _)).le a.size)
   have P:=Q00 c;have y:=Q00 d;have j:=Q00 a
   have z1:(k:Int) < 8:=by omega
   clear c d a;go_wp2_with fail;refine N.mono ?_;rintro e X ⟨Y,rfl,g,f⟩;obtain⟨O,H,I,_⟩:=ownL.open (L:=Q0T) g;rw[I]at g ⊢;have z:=Q00 ((y.out.kept f).snoc y.out.lt j.out.size g);have n:=Q00 (Q0a P.out f);have m:=Q00 (j.out.trans (f.mono j.out.size))
   have C:hs.length<=1000:=by rw[y.out.len];omega
   have D:=m.out.size;clear g f N I;generalize (Q0U key k l).length=q at *;go_wp2_with (at_builtin;refine Q4L rfl (.tmp 11) (.tmp 16) rfl w.heap.size _ hs rfl (n.out.alloc _) X.heap.size O q H rfl ?c1 C ?c2 ?_)
   case c1=>simp
   case c2=>simp;omega
   intro Z w5 s i;have F:=Q00 (World.ownsRow.alloc n.out (.cells #[.slice O q H] 22));have A:=Q00 (Tab.other (z.out.kept (KBq.alloc (Kaq _) _)) F.out Qij i);have v:=Q00 ((m.out.alloc D _).grown i (by simp;omega) (fun k h=>(F.out.lt k h).1));have x:=Q00 s;clear i s;go_wp2;go_roundw
   case rel=>exact⟨k+1,_,by omega,by go_num,x.out,A.out,v.out⟩
   case measure=>simp[intOf];omega
  ·have e:k=8:=by omega
   subst e;obtain⟨u,t,B,_⟩:=ownL.open (L:=Q0q) c;have r:=d.len;rw[B,r]at c;rw[B,r];have G:=Q00 (And.intro c d);have j:=Q00 a;clear c d a B;go_wp2;go_ret;exact⟨u,t,hs,rfl,G.out.1,G.out.2,j.out⟩
end Go.Proofs.YteffhdcankkfkaaGreat
namespace Go.Proofs.YteffhdcankkfkaaGreat
open Go.ChangeShapes Go.WideShapes Go.ChangeAt Go.RowKit Go.Joins
set_option linter.unusedVariables false
set_option linter.unusedSimpArgs false
set_option maxRecDepth 100000
set_option maxHeartbeats 40000000
variable {α:Type}
theorem RdL.drop0 {L:Lay α} {C:Nat} {w:World} {b a:Nat} {l:List α} (h:RdL L C w (some ⟨b,a,none⟩) l) (k q:Nat) (n:q=a+k * L.k):RdL L C w (some ⟨b,q,none⟩) (l.drop k):=by
 subst n
 rcases h with h|⟨b',c,m,f,r⟩
 ·left;rw[h];simp
 ·obtain⟨rfl,rfl⟩:b=b'/\a=c:=by simpa using m
  refine .inr ⟨b,a+k * L.k,rfl,f,fun i hi j g=>?_⟩
  have d:k+i < l.length:=by simp at hi;omega
  have:=r (k+i) d j g;rw[Nat.add_mul,<-Nat.add_assoc]at this;rw[this]
  congr 2
  simp[KFq,List.getElem?_drop]
theorem Q7N {L:Lay α} {e:TypeId} {w:World} {base g cap:Nat} {l:List α} (hv:ownL L e w base (.slice (some ⟨g,0,none⟩) l.length cap) l) (i:Nat) (hi:i<=l.length):ownL L e w base (.slice (some ⟨g,0,none⟩) i cap) (l.take i):=by
 have a:(l.take i).length=i:=by simp;omega
 rcases hv.2 with⟨b,_⟩|⟨r,q,c,b,n,p,s,h,j,m⟩
 ·cases b
 ·injection b with b _ h3
  injection b with b;injection b with b _ _;subst b h3;refine⟨by rw[Q0f],.inr ⟨g,cap,c,by rw[a],n,p,by omega,h,j, ?_⟩⟩;rw[a]
  have d:c.toList.take (i * L.k)=(c.toList.take (l.length * L.k)).take (i * L.k):=by
   rw[List.take_take,Nat.min_eq_left (Nat.mul_le_mul_right _ hi)]
  rw[d,m]
  have f:l.flatMap L.cs=(l.take i).flatMap L.cs++(l.drop i).flatMap L.cs:=by rw[<-List.flatMap_append,List.take_append_drop]
  rw[f];exact List.take_left' (by rw[Q0f,a])
theorem Q5Z {L:Lay α} {t e:TypeId} (ok:AppOk L t e) {i:Array Oper} {o:Oper} {a:Act} {w:World} {K:Act->World->Prop} {Q:Exit->Act->World->Prop} {E:Prop} (r:o.guard=none) (s x:Operand)
  (G:o.op=.call { callee:=.builtin .append,args:=#[s,x],argTypes:=#[t,t] }) (base g n cap:Nat) (y:List α) (u:n=y.length) (hs:a.eval s=.slice (some ⟨g,0,none⟩) n cap) (f:ownL L e w base (.slice (some ⟨g,0,none⟩) n cap) y)
  (p:Addr) (c C:Nat) (l:List α) (m:Nat) (F:m=l.length) (J:a.eval x=.slice (some p) m c) (B:RdL L C w (some p) l) (d:n+m<=cap)
  (h:∀j,ownL L e j base (.slice (some ⟨g,0,none⟩) (n+m) cap) (y++l)->w.grownBy j (some g)->K (a.put o.dst (.slice (some ⟨g,0,none⟩) (n+m) cap)) j):if Region.wanted o (yielded i a.tmps)=true then Oper.wp Tryz.prog o a w K Q else E:=by
 subst F u
 have I:Region.wanted o (yielded i a.tmps)=true:=by simp[Region.wanted,r]
 rw[if_pos I];obtain⟨z,q,b,O,D⟩:=ok.info;obtain⟨R,hi,M,v,N⟩:=info_parts b;obtain⟨j,H,A,h2⟩:=run_append_fits (P:=Tryz.prog) w base t o.type e R L.k ok.under hi v g _ cap _ f p l.length c (l.flatMap L.cs) (Q0f L l) (B.news ok.pos) (Q4H ok.one l) d;unfold Oper.wp execOp;simp only[G,resolve,invoke,builtin,Sem.run_bind,Sem.run_pure,Result.andThen_ok,List.map_toArray,List.map_cons,List.map_nil,hs,J,H];exact h j (by unfold ownL;simpa using A) h2
theorem QfT (w:World):(zeroValue 259).run Tryz.prog w=.ok (.agg #[.int .i64 0,.int .i64 0,.bool false]) w:=by kernel_rfl
theorem Qay {w:World} {base g cap n:Nat} {xs:List Value} (hv:w.ownsRow base 259 3 (.slice (some ⟨g,0,none⟩) n cap) n xs) (d:n+1<=cap) (s:TypeId) (c:Nat):
  ∃i,Sem.run Tryz.prog (Builtin.clear_ #[26] s #[.slice (some ⟨g,n * 3,none⟩) 1 c]) w=.ok (.tuple #[]) i/\i.ownsRow base 259 3 (.slice (some ⟨g,0,none⟩) n cap) n xs/\w.grownBy i (some g):=by
 rcases hv.2 with⟨a,_⟩|⟨u,t,b,a,q,j,l,m,x,p⟩
 ·cases a
 ·injection a with a _ h3
  injection a with a;injection a with a _ _;subst a h3
  have h:(Builtin.zeroCells (Value.agg #[.int .i64 0,.int .i64 0,.bool false]).cells 1).toList=[.int .i64 0,.int .i64 0,.bool false]:=by first|kernel_rfl|(simp[Builtin.zeroCells,Value.cells];done)|decide
  have f:=run_storeCells_at (P:=Tryz.prog) g (n * 3) 259 [.int .i64 0,.int .i64 0,.bool false] 0 b w j (by simp;omega) (by intro v hv;simp at hv;rcases hv with rfl|rfl|rfl <;> rfl);refine⟨_,by simp[Builtin.clear_,run_underlying Tryz.underlying26,QfT,h,f];rfl,⟨hv.1,.inr ⟨g,cap,_,rfl,q,setRow_heap w g b _ 259 _ j,l,m, ?_, ?_⟩⟩,⟨rfl,rfl,rfl,by simp,fun k _ r=>setRow_other w g k _ (fun e=>r (by simp[e]))⟩⟩
  ·simp;omega
  ·simp only[Nat.add_zero,List.append_assoc]
   rw[List.take_append_of_le_length (by simp;omega),List.take_take,Nat.min_self];exact p
theorem Q5Y (base g cap i:Nat) (l:List Bk) (w:World) (hv:Q1F w base (.slice (some ⟨g,0,none⟩) l.length cap) l) (hi:i < l.length) (J:l.length<=1000):
  Calls Tryz.prog 248 #[.slice (some ⟨g,0,none⟩) l.length cap,.int .i64 i,.int .i64 ((i:Int)+1)] w fun e x=> ∃v,e=.returned v/\Q1F x base v (l.take i++l.drop (i+1))/\w.grownBy x (some g):=by
 have u:l.length<=cap:=by
  rcases hv.2 with⟨h1,_⟩|⟨H,G,z,h1,_,_,I,_⟩
  ·cases h1
  ·injection h1 with _ _ h3;omega
 have T:(i:Int) < (l.length:Int):=by omega
 have U:(i:Int)+1<=(l.length:Int):=by omega
 have V:0<=(i:Int)+1:=by omega
 have N:i+1<=l.length:=by omega
 have D:i<=l.length:=by omega
 have O:i<=cap:=by omega
 have P:i+1<=cap:=by omega
 have R:((i:Int)==(i:Int)+1)=false:=by simp;omega
 have y:=Q00 hv;have FA:Q1F w.drew base (.slice (some ⟨g,0,none⟩) i cap) (l.take i):=Q7N hv i D
 have FR:RdK w.heap.size w.drew (if cap=i+1 then some ⟨g,0,none⟩else some ⟨g,(i+1) * 3,none⟩) (l.drop (i+1)):=by
  have B:RdK w.heap.size w (some ⟨g,0,none⟩) l:=ownL.rd (L:=Q0L) hv
  split
  ·left;exact List.drop_eq_nil_of_le (by omega)
  ·have h:=B.drop0 (i+1) ((i+1) * 3) (by simp[Q0L])
   exact h
 have k:=Q00 FA;have d:=Q00 FR;clear FA FR hv;go_enter Tryz.func248,Tryz.ntmps248;go_wp2
 obtain⟨s,p⟩:∃s,(if cap=i+1 then some (⟨g,0,none⟩:Addr)else some ⟨g,(i+1) * 3,none⟩)=some s:=by split <;> exact⟨_,rfl⟩
 rw[p]at d
 go_region_law (first|(refine Q5Z Q3Y rfl _ _ rfl base g i cap (l.take i) ?h0 rfl k.out s (cap - (i+1)) w.heap.size (l.drop (i+1)) (l.length - (i+1)) ?h1 rfl d.out ?h2 ?_;(case h0=>(simp;omega));(case h1=>simp);(case h2=>omega);intro F a f;have a:=Q00 a;have f:=Q00 f))
 all_goals (
  have t:l.length=(i+(l.length - (i+1)))+1:=by omega
  generalize i+(l.length - (i+1))=n' at *
  have j:F.ownsRow base 259 3 (.slice (some ⟨g,0,none⟩) n' cap) n' ((l.take i++l.drop (i+1)).flatMap Q0L.cs):=by
   have h:=a.out;unfold ownL at h
   rwa [show(l.take i++l.drop (i+1)).length=n' by simp;omega]at h
  have r:=Q00 j
  have C:n'+1<=cap:=by omega
  have M:¬(cap=n'):=by omega
  obtain⟨E,A,c,b⟩:=Qay j C 0 (cap - n');have n:=Q00 c;have m:=Q00 b;have q:=Q00 t;clear k d p y r j a c b;go_wp2;go_ret;refine⟨_,rfl, ?_, ?_⟩
  ·have h:=n.out
   unfold Q1F ownL;rw[show(l.take i++l.drop (i+1)).length=n' by have:=q.out;simp;omega];exact h
  ·have h:=f.out
   exact World.grownBy.trans ⟨h.os,h.tape,h.output,h.size,h.block⟩ m.out)
end Go.Proofs.YteffhdcankkfkaaGreat
namespace Go.Proofs.YteffhdcankkfkaaGreat
open Go.ChangeShapes Go.WideShapes Go.ChangeAt Go.RowKit Go.Joins
set_option linter.unusedVariables false
set_option linter.unusedSimpArgs false
set_option maxRecDepth 100000
set_option maxHeartbeats 40000000
theorem QhB {w a:World} {k i g:Int} {t:TypeId} (h:Below (w.alloc (.cells #[.int .i64 k,.int .i64 i,.int .i64 g] t)).heap.size (w.alloc (.cells #[.int .i64 k,.int .i64 i,.int .i64 g] t)) a) (o:Obj):
  a.cell? ⟨w.heap.size,0,none⟩=some (.int .i64 k)/\a.cell? ⟨w.heap.size,1,none⟩=some (.int .i64 i)/\a.cell? ⟨w.heap.size,2,none⟩=some (.int .i64 g)/\
  (a.alloc o).cell? ⟨w.heap.size,0,none⟩=some (.int .i64 k)/\(a.alloc o).cell? ⟨w.heap.size,2,none⟩=some (.int .i64 g)/\Below w.heap.size w a/\Below w.heap.size w (a.alloc o):=by
 have hs:w.heap.size < (w.alloc (.cells #[.int .i64 k,.int .i64 i,.int .i64 g] t)).heap.size:=by simp
 have b:w.heap.size < a.heap.size:=Kbq hs h.size;have c:Below w.heap.size w a:=(KBq.alloc (Kaq _) _).trans (h.mono (by omega))
 have e:∀q,a.cell? ⟨w.heap.size,q,none⟩=(w.alloc (.cells #[.int .i64 k,.int .i64 i,.int .i64 g] t)).cell? ⟨w.heap.size,q,none⟩:=fun q=>h.cell hs
 have d:∀q,(a.alloc o).cell? ⟨w.heap.size,q,none⟩=a.cell? ⟨w.heap.size,q,none⟩:=fun q=>((Below.refl a.heap.size a).alloc (Kaq _) o).cell b
 refine⟨?_, ?_, ?_, ?_, ?_,c,c.alloc (by omega) o⟩
 all_goals (simp only[d,e];unfold World.cell?;simp only[heap_alloc_new];rfl)
def QdX (k i g:Int):Value:=
 if k=0 then .iface 331 (.agg #[.int .i64 i,.int .i64 g])else
 if k=1 then .iface 332 (.agg #[.int .i64 i,.int .i64 g])else
 if k=2 then .iface 334 (.agg #[.int .i64 i])else .iface 335 (.agg #[.int .i64 i])
theorem Q80 (k i g:Int) (w:World):
  Calls Tryz.prog 230 #[cmd k i g] w fun e h=>e=.returned (.tuple #[if Q1y k i g then QdX k i g else .nilIface,.bool (Q1y k i g)])/\Below w.heap.size w h:=by
 have d:=fun w=>Q56 k i g w
 generalize Q1y k i g=t at d ⊢
 cases t
 all_goals (
  go_enter Tryz.func230,Tryz.ntmps230;go_wp2_with (first|(go_at_call 245;refine(d _).mono ?_;rintro e q ⟨rfl,b⟩;obtain⟨j,l,m,n,p,c,a⟩:=QhB b (.cells #[.int .i64 i] 329);have f:=Q00 c;have HB':=Q00 a;clear b c a))
  all_goals go_ret2
  all_goals refine⟨?_,by first|exact f.out|exact HB'.out⟩)
 all_goals (try simp only[beq_iff_eq,beq_eq_false_iff_ne,ne_eq]at *)
 all_goals simp_all [QdX]
end Go.Proofs.YteffhdcankkfkaaGreat
