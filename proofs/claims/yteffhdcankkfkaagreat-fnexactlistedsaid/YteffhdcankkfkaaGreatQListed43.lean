/- Several texts in one: SKI4, SKI5, SKI6. -/
import Derived.Test.YteffhdcankkfkaaGreatQListed41
import Derived.Test.YteffhdcankkfkaaGreatQListed42
namespace Go.Proofs.YteffhdcankkfkaaGreat
open Go.ChangeShapes Go.WideShapes Go.ChangeAt Go.RowKit Go.Joins
set_option linter.unusedVariables false
set_option linter.unusedSimpArgs false
set_option maxRecDepth 100000
set_option maxHeartbeats 40000000
theorem QiJ:AppOk Q0R 37 143:=⟨Tryz.underlying37,⟨_,_,Qh0,rfl,by decide⟩,by decide,fun a u hu=>by
 simp[Q0R]at hu
 rcases hu with rfl|rfl|rfl|rfl <;> rfl⟩
def Q5q (xs:List Gt):Bool:=decide (xs.length<=1000) && (List.range xs.length).all (gtF xs)
theorem Qbm (v:Value) (xs:List Gt) (w:World) (Y:RdV Q0R w.heap.size w v xs) (j:Qiz v) (y:xs.length<=1048576):
  Calls Tryz.prog 113 #[v] w fun e R=> ∃o n c,e=.returned (.tuple #[.slice o n c,.bool (Q5q xs)])/\(Q5q xs=true->InL Q0R 143 w.heap.size R.heap.size R (.slice o n c) xs)/\Below w.heap.size w R:=by
 obtain⟨o,cap,rfl,rd⟩:=Y;obtain⟨n,B⟩:∃q,xs.length=q:=⟨_,rfl⟩;have i:=Q00 B;have m:=Q00 rd
 have z:o=none->cap=0:=fun e=>j _ _ (by rw[e])
 clear j rd;rw[B]at y ⊢;clear B
 by_cases h6:(1000:Int) < (n:Int)
 ·have f:Hid (Q5q xs=false):=by unfold Hid Q5q;rw[i.out];simp;omega
  go_enter Tryz.func113,Tryz.ntmps113;go_wp2;refine bodyPost_ret (v:=.tuple #[.slice none 0 0,.bool false]) (by simp[results,Tryz.results113,go_sem]) rfl ⟨none,0,0,by rw[f.out],fun e=>absurd e (by rw[f.out];simp),KBq⟩
 have J:Hid (∀k,k < n->gtF xs k=false->Q5q xs=false):=fun k Z P=>by unfold Q5q;rw[Q2A (by rw[i.out];exact Z) P];simp
 have M:Hid ((List.range n).all (gtF xs)=true->Q5q xs=true):=fun P=>by unfold Q5q;rw[i.out,P];simp;omega
 go_enter Tryz.func113,Tryz.ntmps113;go_wp2
 go_loopw [11] (fun iv wr=> ∃(k:Nat),k<=n/\iv=.int .i64 (k:Int)/\Hid ((List.range k).all (gtF xs)=true)/\Hid (Below w.heap.size w wr))
  (fun iv _=>n - (intOf iv).toNat)
 case atStart=>exact⟨0,Kcq _,rfl,rfl,KBq⟩
 case round=>
  obtain⟨k,aa,rfl,r,d⟩:=hrel
  by_cases hlt:k < n
  ·have z1:(k:Int) < (n:Int):=by omega
   obtain⟨a,O⟩:∃a,xs.getD k gt0=a:=⟨_,rfl⟩;have T:=Q00 (show gtF xs k=Qi7 a by unfold gtF;rw[O])
   rcases m.out with I|⟨b,ab,ho,A,I⟩
   ·have:=i.out;rw[I]at this;simp at this;omega
   subst ho;obtain⟨D,E,F,H⟩:=RdL.gt (C:=w.heap.size) I k (by rw[i.out];exact hlt);rw[O]at D E F H;replace D:=bCM d.out D A;replace E:=bCM d.out E A;replace F:=bCM d.out F A;replace H:=bCM d.out H A;have t:Below wr.heap.size wr (wr.alloc (.cells #[.int .i64 a.a,.int .i64 a.p,.int .i64 a.bk,.int .i64 a.sq] 143)):=KBq.alloc (Kaq _) _;have s:=Q00 t;clear I O t m;go_wp2_with fail;generalize wr.alloc (.cells #[.int .i64 a.a,.int .i64 a.p,.int .i64 a.bk,.int .i64 a.sq] 143)=w1 at *;refine(QeR a.a a.p a.bk a.sq w1).mono ?_
   rintro e w2 ⟨rfl,u⟩;have l:=Q00 (d.out.trans ((s.out.trans (u.mono s.out.size)).mono d.out.size));obtain⟨G,N⟩:∃G,(Q0g a.a a.p && decide (0<=a.bk) && decide (a.bk < 6) && decide (0<=a.sq) && decide (a.sq<=65535))=G:=⟨_,rfl⟩;have U:=Q00 (show Qi7 a=G from N);rw[N];clear N u D E F H
   cases G with
   |false=>
    have f:=Q00 (J.out k hlt (by rw[T.out,U.out]));go_wp2;refine bodyPost_ret (v:=.tuple #[.slice none 0 0,.bool false]) (by simp[results,Tryz.results113,go_sem]) rfl ⟨none,0,0,by rw[f.out],fun e=>absurd e (by rw[f.out];simp),l.out⟩
   |true=>
    have V:Hid ((List.range (k+1)).all (gtF xs)=true):=by unfold Hid;rw[Q2h,r.out,T.out,U.out];rfl
    go_wp2;go_roundw
    case rel=>first
     |exact⟨k+1,by omega,by go_num,V.out,l.out⟩
     |(refine⟨_, ?_,rfl⟩;exact⟨k+1,by omega,by go_num,V.out,l.out⟩)
    case measure=>simp[intOf];omega
  ·have e:k=n:=by omega
   subst e;have hy:=Q00 (M.out r.out);go_wp2_with (at_builtin;refine Q08 QiJ rfl _ _ rfl w.heap.size _ [] rfl (KLq _ _ _ _) o cap w.heap.size xs k i.out.symm rfl z ?c0 ?c1 ?c2 ?_)
   case c0=>exact m.out.kept d.out (Kaq _)
   case c1=>have:=i.out;simp;omega
   case c2=>exact d.out.size
   intro v2 w6 g x _
   replace g:ownL Q0R 143 w6 w.heap.size v2 xs:=by simpa using g
   have X:=Q00 (InRow.of g);have HB6':=Q00 (d.out.grown x d.out.size (fun k h=>by cases h));obtain⟨o2,c2,rfl,_⟩:=InL.rd (L:=Q0R) X.out;have B:=i.out;clear g x;go_wp2;refine bodyPost_ret (v:=.tuple #[.slice o2 xs.length c2,.bool true]) (by simp[results,Tryz.results113,go_sem]) rfl ⟨_,_,_,by rw[hy.out],fun _=>X.out,HB6'.out⟩
end Go.Proofs.YteffhdcankkfkaaGreat
namespace Go.Proofs.YteffhdcankkfkaaGreat
open Go.ChangeShapes Go.WideShapes Go.ChangeAt Go.RowKit Go.Joins
set_option linter.unusedVariables false
set_option linter.unusedSimpArgs false
set_option maxRecDepth 100000
set_option maxHeartbeats 40000000
theorem QiK:AppOk Q0A 36 113:=⟨Tryz.underlying36,⟨_,_,Qi6,rfl,by decide⟩,by decide,fun a u hu=>by
 simp[Q0A]at hu
 rcases hu with rfl|rfl|rfl|rfl|rfl|rfl|rfl|rfl|rfl|rfl|rfl|rfl <;> rfl⟩
theorem Qje:(5:TypeId)≠136:=by decide
section
variable {η α:Type}
theorem RwE.grow {E:El η α} {xs:List α} {a b:Nat} {w d:World} {hs:List η} {L H:Nat->Nat} {r:Option Nat} (h:RwE E xs a b w hs L H) (c:w.grownBy d r) (f:∀i,i < xs.length->∀g,r=some g->g < L i\/H i<=g):RwE E xs a b d hs L H:=by
 refine⟨h.len,h.bd,h.sep,fun i hi=>?_⟩
 cases r with
 |none=>exact E.qs.go (h.row i hi) (Stp.grown (lo:=0) (hi:=0) c (fun b e=>by cases e)) (.inl (Kcq _))
 |some g=>exact E.qs.go (h.row i hi) (Stp.grown (lo:=g) (hi:=g+1) c (fun b e=>by cases e;omega)) (by have:=f i hi g rfl;omega)
theorem RwE.more {E:El η α} {a p:World} {b d l2 n:Nat} {hs:List η} {L H:Nat->Nat} {xs:List α} {x:α} {y:η} {m:Option Addr} {f:Nat} {O:Obj} (h:RwE E xs b d a hs L H) (l:xs.length=n) (t:d<=l2) (v:b<=l2) (u:l2<=a.heap.size) (q:E.Q l2 a.heap.size a (E.val y) x) (c:Qcx (.slice m n f) n L H) (j:∀g,(Value.slice m n f).ownBlock=some g->g < d) (r:(a.alloc O).grownBy p (Value.slice m n f).ownBlock):
  RwE E (xs++[x]) b p.heap.size p (hs++[y]) (fun i=>if i < n then L i else l2) (fun i=>if i < n then H i else a.heap.size):=by
 subst l;have s:=h.snoc t v u q;have h2:=s.kept ((Below.refl a.heap.size a).alloc (Kaq _) O);have k:=r.size;rw[World.size_alloc]at k;refine(h2.grow r (fun i hi g e=>?_)).mono (Kaq _) (by omega)
 by_cases hi':i < xs.length
 ·simp only[hi',if_true];exact c i hi' g e
 ·simp only[hi',if_false];have:=j g e;omega
theorem QeC {c:World} {d l2:Nat} {L H:Nat->Nat} {n:Nat} {l k:Option Addr} {h f:Nat} (b:Qcx (.slice l n h) n L H) (m:∀i,i < n->H i<=d) (q:d<=l2) (r:l2<=c.heap.size) (j:∀g,(Value.slice l n h).ownBlock=some g->g < d) (a:(Value.slice k (n+1) f).ownBlock=(Value.slice l n h).ownBlock\/(Value.slice k (n+1) f).ownBlock=some (c.heap.size+1)):
  Qcx (.slice k (n+1) f) (n+1) (fun i=>if i < n then L i else l2) (fun i=>if i < n then H i else c.heap.size):=fun i hi g e=>by
 rcases a with a|a
 ·rw[a]at e
  by_cases hi':i < n
  ·simp only[hi',if_true];exact b i hi' g e
  ·simp only[hi',if_false];have:=j g e;omega
 ·rw[a]at e
  have p:c.heap.size+1=g:=Option.some.inj e
  by_cases hi':i < n
  ·simp only[hi',if_true];have:=m i hi';omega
  ·simp only[hi',if_false];omega
theorem InE.at {E:El η α} {T:TypeId} {lo hi:Nat} {w:World} {o:Option Addr} {n c:Nat} {xs:List α} (h:InE E T lo hi w (.slice o n c) xs) (i:Nat) (g:i < xs.length):
  ∃b a y l f,o=some ⟨b,a,none⟩/\b < hi/\(∀j,j < E.L.k->w.cell? ⟨b,a+i * E.L.k+j,none⟩=(E.L.cs y)[j]?)/\lo<=l/\f<=hi/\E.Q l f w (E.val y) (xs.getD i E.d):=by
 obtain⟨hs,L,H,m,f,h2⟩:=h;obtain⟨u,t,e,r⟩:=(InRow.ri m).open;injection e with e1 e2 e3;subst e1;have q:=f.len
 rcases r with r|⟨b,a,s,p,r⟩
 ·subst r;simp at q;omega
 ·exact⟨b,a,hs.getD i E.L.d,L i,H i,s,p,r i (by omega),(f.bd i g).1,(f.bd i g).2,f.row i g⟩
end
theorem InE.mail {lo hi:Nat} {w:World} {o:Option Addr} {n c:Nat} {xs:List Mm} (h:InE elM 113 lo hi w (.slice o n c) xs) (i:Nat) (D:i < xs.length) {m:Mm} (hm:xs.getD i mmD=m):
  ∃b j r u t v,o=some ⟨b,j,none⟩/\b < hi/\w.cell? ⟨b,j+i * 12,none⟩=some (.int .i64 m.k)/\w.cell? ⟨b,j+i * 12+1,none⟩=some (.int .i64 m.c.a)/\w.cell? ⟨b,j+i * 12+2,none⟩=some (.int .i64 m.c.b)/\w.cell? ⟨b,j+i * 12+3,none⟩=some (.int .i64 m.c.f)/\w.cell? ⟨b,j+i * 12+4,none⟩=some (.int .i64 m.c.s)/\w.cell? ⟨b,j+i * 12+5,none⟩=some (.slice r m.c.l.length u)/\w.cell? ⟨b,j+i * 12+6,none⟩=some (.slice t m.c.g.length v)/\w.cell? ⟨b,j+i * 12+7,none⟩=some (.int .i64 m.c.pl)/\w.cell? ⟨b,j+i * 12+8,none⟩=some (.int .i64 m.c.st)/\w.cell? ⟨b,j+i * 12+9,none⟩=some (.int .i64 m.fa)/\w.cell? ⟨b,j+i * 12+10,none⟩=some (.int .i64 m.fp)/\w.cell? ⟨b,j+i * 12+11,none⟩=some (.int .i64 m.bk)/\RdL Qdf hi w r m.c.l/\(r=none->u=0)/\RdL Q1R hi w t m.c.g/\(t=none->v=0):=by
 obtain⟨b,j,y,l1,C,rfl,hb,p,k1,k2,O⟩:=h.at i D;rw[show xs.getD i elM.d=m from hm]at O;obtain⟨v1,v2,a,b',a',T,e,kk,P,R,_⟩:=O;obtain⟨r,u,rfl,r1⟩:=InL.rd P;obtain⟨t,v,rfl,r2⟩:=InL.rd R
 have E:Value.agg #[.int .i64 y.k,.int .i64 y.a,.int .i64 y.b,.int .i64 y.f,.int .i64 y.s,.slice y.l.1 y.l.2.1 y.l.2.2,.slice y.g.1 y.g.2.1 y.g.2.2,.int .i64 y.pl,.int .i64 y.st,.int .i64 y.fa,.int .i64 y.fp,.int .i64 y.bk]=Value.agg #[.int .i64 m.k,.int .i64 m.c.a,.int .i64 m.c.b,.int .i64 m.c.f,.int .i64 m.c.s,.slice r m.c.l.length u,.slice t m.c.g.length v,.int .i64 m.c.pl,.int .i64 m.c.st,.int .i64 m.fa,.int .i64 m.fp,.int .i64 m.bk]:=e;simp only[Value.agg.injEq,Array.mk.injEq,List.cons.injEq,and_true]at E;obtain⟨U,V,X,Y,Z,e5,e6,e7,e8,e9,A,B⟩:=E
 have F:w.cell? ⟨b,j+i * 12,none⟩=some _:=p 0 (by decide);rw[U]at F;have C:w.cell? ⟨b,j+i * 12+1,none⟩=some _:=p 1 (by decide);rw[V]at C;have h2:w.cell? ⟨b,j+i * 12+2,none⟩=some _:=p 2 (by decide);rw[X]at h2;have G:w.cell? ⟨b,j+i * 12+3,none⟩=some _:=p 3 (by decide);rw[Y]at G;have H:w.cell? ⟨b,j+i * 12+4,none⟩=some _:=p 4 (by decide);rw[Z]at H;have I:w.cell? ⟨b,j+i * 12+5,none⟩=some _:=p 5 (by decide);rw[e5]at I;have J:w.cell? ⟨b,j+i * 12+6,none⟩=some _:=p 6 (by decide);rw[e6]at J;have L:w.cell? ⟨b,j+i * 12+7,none⟩=some _:=p 7 (by decide)
 rw[e7]at L;have M:w.cell? ⟨b,j+i * 12+8,none⟩=some _:=p 8 (by decide);rw[e8]at M;have N:w.cell? ⟨b,j+i * 12+9,none⟩=some _:=p 9 (by decide);rw[e9]at N;have x:w.cell? ⟨b,j+i * 12+10,none⟩=some _:=p 10 (by decide);rw[A]at x;have z:w.cell? ⟨b,j+i * 12+11,none⟩=some _:=p 11 (by decide);rw[B]at z;exact⟨b,j,r,u,t,v,rfl,hb,F,C,h2,G,H,I,J,L,M,N,x,z,r1.le (by omega),fun q=>P.cap _ _ (by rw[q]),r2.le (by omega),fun q=>R.cap _ _ (by rw[q])⟩
theorem QhC (w:World) (y:Mh) (T:TypeId):RdL Q0A (w.alloc (.cells (Q0A.cs y).toArray T)).heap.size (w.alloc (.cells (Q0A.cs y).toArray T)) (some ⟨w.heap.size,0,none⟩) [y]:=by
 refine .inr ⟨w.heap.size,0,rfl,by simp,fun i hi j c=>?_⟩
 have a:i=0:=by simpa using hi
 subst a
 have b:j=0\/j=1\/j=2\/j=3\/j=4\/j=5\/j=6\/j=7\/j=8\/j=9\/j=10\/j=11:=by have:j < 12:=c;omega
 rcases b with rfl|rfl|rfl|rfl|rfl|rfl|rfl|rfl|rfl|rfl|rfl|rfl <;> simp[go_sem,Q0A]
def QdG (now:Int) (xs:List Mm):Bool:=decide (xs.length<=60) && (List.range xs.length).all (mlF now xs)
theorem Qb5 (lo hi:Nat) (v:Value) (xs:List Mm) (p:Int) (w:World) (hR:InE elM 113 lo hi w v xs) (hh:hi<=w.heap.size) (ai:xs.length<=1048576) (hx:∀i,i < xs.length->QbR (xs.getD i mmD).c):
  Calls Tryz.prog 112 #[v,.int .i64 p] w fun e w'=> ∃o n c,e=.returned (.tuple #[.slice o n c,.bool (QdG p xs)])/\(QdG p xs=true->InE elM 113 w.heap.size w'.heap.size w' (.slice o n c) xs)/\Below w.heap.size w w':=by
 obtain⟨o,cap,rfl⟩:=hR.ri.len;obtain⟨n,hn⟩:∃q,xs.length=q:=⟨_,rfl⟩;have D:=Q00 hn;have aw:=Q00 hR;have HX:=Q00 hx;have HH:=Q00 hh;have aJ:=Q00 ai;rw[hn]at aw ⊢;clear hn hR hx hh ai
 by_cases h6:(60:Int) < (n:Int)
 ·have G:Hid (QdG p xs=false):=by unfold Hid QdG;rw[D.out];simp;omega
  go_enter Tryz.func112,Tryz.ntmps112;go_wp2;refine bodyPost_ret (v:=.tuple #[.slice none 0 0,.bool false]) (by simp[results,Tryz.results112,go_sem]) rfl ⟨none,0,0,by rw[G.out],fun e=>absurd e (by rw[G.out];simp),KBq⟩
 have aB:Hid (∀k,k < n->mlF p xs k=false->QdG p xs=false):=fun k hk hf=>by unfold QdG;rw[Q2A (by rw[D.out];exact hk) hf];simp
 have aF:Hid ((List.range n).all (mlF p xs)=true->QdG p xs=true):=fun hf=>by unfold QdG;rw[D.out,hf];simp;omega
 go_enter Tryz.func112,Tryz.ntmps112;go_wp2
 go_loopw [6,14] (fun bv iv wr=> ∃(k:Nat) (hs:List Mh) (L H:Nat->Nat) (oQ:Option Addr) (cQ:Nat),k<=n/\iv=.int .i64 (k:Int)/\bv=.slice oQ k cQ/\Hid ((List.range k).all (mlF p xs)=true)/\Hid (ownL Q0A 113 wr w.heap.size (.slice oQ k cQ) hs)/\Hid (RwE elM (xs.take k) w.heap.size wr.heap.size wr hs L H)/\Hid (Qcx (.slice oQ k cQ) k L H)/\Hid (Below w.heap.size w wr))
  (fun _ iv _=>n - (intOf iv).toNat)
 case atStart=>exact⟨0,[],fun _=> 0,fun _=> 0,none,0,Kcq _,rfl,rfl,rfl,KLq _ _ _ _,by rw[List.take_zero];exact RwE.nil _ _ _ _ _ _,fun i h=>absurd h (KMq _),KBq⟩
 case round=>
  obtain⟨k,hs,L,H,oQ,cQ,aK,rfl,rfl,ap,HO,HR,I,j⟩:=hrel
  have ar:Hid (hs.length=k):=by have h1:=HR.out.len;rw[List.length_take,D.out]at h1;unfold Hid;omega
  by_cases hlt:k < n
  ·have z1:(k:Int) < (n:Int):=by omega
   obtain⟨m,hm⟩:∃m,xs.getD k mmD=m:=⟨_,rfl⟩;have HS:=Q00 (Q3H (xs:=xs) mmD (by rw[D.out];exact hlt));have R:=HX.out k (by rw[D.out];exact hlt);rw[hm]at HS R;have Y:=Q00 (show mlF p xs k=(Qe4 m && decide (m.c.st<=p))by unfold mlF;rw[hm]);obtain⟨b,aL,o1,c1,o2,c2,rfl,aG,p0,u,x,p3,p4,p5,p6,p7,p8,p9,ac,ad,r1,n1,r2,n2⟩:=InE.mail aw.out k (by rw[D.out];exact hlt) hm;have d:=Kbq aG HH.out;replace p0:=bCM j.out p0 d;replace u:=bCM j.out u d;replace x:=bCM j.out x d;replace p3:=bCM j.out p3 d;replace p4:=bCM j.out p4 d
   replace p5:=bCM j.out p5 d;replace p6:=bCM j.out p6 d;replace p7:=bCM j.out p7 d;replace p8:=bCM j.out p8 d;replace p9:=bCM j.out p9 d;replace ac:=bCM j.out ac d;replace ad:=bCM j.out ad d;have J:=Q00 (fun W (U:Below w.heap.size w W)=>And.intro ((r1.kept U HH.out).le (Kdq HH.out U.size)) ((r2.kept U HH.out).le (Kdq HH.out U.size)));have ag:=Q00 (And.intro n1 n2);have E:=Q00 R
   have F:=Q00 (fun W (U:Below w.heap.size w W)=>QaJ (mlv m.k m.c.a m.c.b m.c.f m.c.s (.slice o1 m.c.l.length c1) (.slice o2 m.c.g.length c2) m.c.pl m.c.st m.fa m.fp m.bk) m p W ⟨_,_,rfl,⟨_,_,rfl,(J.out W U).1⟩,⟨_,_,rfl,(J.out W U).2⟩⟩ E.out);have au:=Q00 (fun W (U:Below w.heap.size w W)=>Q91 m.k m.c.a m.c.b m.c.f m.c.s o1 o2 c1 c2 m.c.l m.c.g m.c.pl m.c.st m.fa m.fp m.bk W (Q9V.1 (J.out W U).1) ag.out.1 (by have:=E.out.1;omega) (Q6h.1 (J.out W U).2) ag.out.2 (by have:=E.out.1;omega));clear hm R r1 n1 r2 n2;obtain⟨B,hB⟩:∃B,Qe4 m=B:=⟨_,rfl⟩;rw[hB]at Y
   replace F:=Q00 (show ∀W,Below w.heap.size w W->Calls Tryz.prog 164 #[mlv m.k m.c.a m.c.b m.c.f m.c.s (.slice o1 m.c.l.length c1) (.slice o2 m.c.g.length c2) m.c.pl m.c.st m.fa m.fp m.bk,.int .i64 p] W fun e w'=>e=.returned (.bool (B && decide (m.c.st<=p)))/\Below W.heap.size W w' from hB ▸ F.out);clear hB;obtain⟨z,aa⟩:∃q,m.c.l.length=q:=⟨_,rfl⟩;obtain⟨A,ab⟩:∃q,m.c.g.length=q:=⟨_,rfl⟩;have HQ:=Q00 (And.intro aa ab);rw[aa]at p5;rw[ab]at p6;rw[aa,ab]at F au;obtain⟨B2,ay⟩:∃B2,(B && decide (m.c.st<=p))=B2:=⟨_,rfl⟩;rw[ay]at F Y;clear ay aa ab J
   have az:Below wr.heap.size wr (wr.alloc (.cells #[.int .i64 m.k,.int .i64 m.c.a,.int .i64 m.c.b,.int .i64 m.c.f,.int .i64 m.c.s,.slice o1 z c1,.slice o2 A c2,.int .i64 m.c.pl,.int .i64 m.c.st,.int .i64 m.fa,.int .i64 m.fp,.int .i64 m.bk] 113)):=KBq.alloc (Kaq _) _;have bx:=World.alloc_heap_new wr (.cells #[.int .i64 m.k,.int .i64 m.c.a,.int .i64 m.c.b,.int .i64 m.c.f,.int .i64 m.c.s,.slice o1 z c1,.slice o2 A c2,.int .i64 m.c.pl,.int .i64 m.c.st,.int .i64 m.fa,.int .i64 m.fp,.int .i64 m.bk] 113);have aj:=Q00 az;have aC:=Q00 bx;clear az bx;go_wp2_with fail
   generalize wr.alloc (.cells #[.int .i64 m.k,.int .i64 m.c.a,.int .i64 m.c.b,.int .i64 m.c.f,.int .i64 m.c.s,.slice o1 z c1,.slice o2 A c2,.int .i64 m.c.pl,.int .i64 m.c.st,.int .i64 m.fa,.int .i64 m.fp,.int .i64 m.bk] 113)=w1 at *;refine(F.out w1 (j.out.trans (aj.out.mono j.out.size))).mono ?_;rintro e C ⟨rfl,P⟩;have t:=Q00 (aj.out.trans (P.mono aj.out.size));have V:=Q00 (j.out.trans (t.out.mono j.out.size))
   cases B2 with
   |false=>
    have G:=Q00 (aB.out k hlt (by rw[Y.out]));clear P p0 u x p3 p4 p5 p6 p7 p8 p9 ac ad;go_wp2;refine bodyPost_ret (v:=.tuple #[.slice none 0 0,.bool false]) (by simp[results,Tryz.results112,go_sem]) rfl ⟨none,0,0,by rw[G.out],fun e=>absurd e (by rw[G.out];simp),V.out⟩
   |true=>
    have r:=QeD aC.out P;have s12:=P.size;clear P p0 u x p3 p4 p5 p6 p7 p8 p9 ac ad;have y0:C.cell? ⟨wr.heap.size,0,none⟩=some (.int .i64 m.k):=Q01 r 0 _ rfl;have y1:C.cell? ⟨wr.heap.size,1,none⟩=some (.int .i64 m.c.a):=Q01 r 1 _ rfl;have y2:C.cell? ⟨wr.heap.size,2,none⟩=some (.int .i64 m.c.b):=Q01 r 2 _ rfl;have y3:C.cell? ⟨wr.heap.size,3,none⟩=some (.int .i64 m.c.f):=Q01 r 3 _ rfl;have y4:C.cell? ⟨wr.heap.size,4,none⟩=some (.int .i64 m.c.s):=Q01 r 4 _ rfl;have y5:C.cell? ⟨wr.heap.size,5,none⟩=some (.slice o1 z c1):=Q01 r 5 _ rfl
    have y6:C.cell? ⟨wr.heap.size,6,none⟩=some (.slice o2 A c2):=Q01 r 6 _ rfl;have y7:C.cell? ⟨wr.heap.size,7,none⟩=some (.int .i64 m.c.pl):=Q01 r 7 _ rfl;have y8:C.cell? ⟨wr.heap.size,8,none⟩=some (.int .i64 m.c.st):=Q01 r 8 _ rfl;have y9:C.cell? ⟨wr.heap.size,9,none⟩=some (.int .i64 m.fa):=Q01 r 9 _ rfl;have aH:C.cell? ⟨wr.heap.size,10,none⟩=some (.int .i64 m.fp):=Q01 r 10 _ rfl;have aI:C.cell? ⟨wr.heap.size,11,none⟩=some (.int .i64 m.bk):=Q01 r 11 _ rfl;go_wp2_with fail;refine(au.out C V.out).mono ?_;rintro e w3 ⟨u,N,x,O,rfl,am,an,Z⟩
    have X:=Q00 (V.out.trans (Z.mono V.out.size));have af:=Q00 (t.out.trans (Z.mono t.out.size));have s3:=Z.size;have HV:=Q00 (show elM.Q C.heap.size w3.heap.size w3 (elM.val (⟨m.k,m.c.a,m.c.b,m.c.f,m.c.s,(u,z,N),(x,A,O),m.c.pl,m.c.st,m.fa,m.fp,m.bk⟩:Mh)) m from⟨_,_,_,_,_,_,rfl,⟨Kaq _,Kaq _,Kaq _,Kaq _⟩,InRow.of (Q4p.1 am),InRow.of (Q69.1 an),Q1A (Q4p.1 am) (Q69.1 an) Qje⟩)
    have FO:=Q00 (World.ownsRow.alloc (Q0a HO.out af.out) (.cells #[.int .i64 m.k,.int .i64 m.c.a,.int .i64 m.c.b,.int .i64 m.c.f,.int .i64 m.c.s,.slice u z N,.slice x A O,.int .i64 m.c.pl,.int .i64 m.c.st,.int .i64 m.fa,.int .i64 m.fp,.int .i64 m.bk] 113))
    have FX:=Q00 (show RdL Q0A (w3.alloc (.cells #[.int .i64 m.k,.int .i64 m.c.a,.int .i64 m.c.b,.int .i64 m.c.f,.int .i64 m.c.s,.slice u z N,.slice x A O,.int .i64 m.c.pl,.int .i64 m.c.st,.int .i64 m.fa,.int .i64 m.fp,.int .i64 m.bk] 113)).heap.size (w3.alloc (.cells #[.int .i64 m.k,.int .i64 m.c.a,.int .i64 m.c.b,.int .i64 m.c.f,.int .i64 m.c.s,.slice u z N,.slice x A O,.int .i64 m.c.pl,.int .i64 m.c.st,.int .i64 m.fa,.int .i64 m.fp,.int .i64 m.bk] 113)) (some ⟨w3.heap.size,0,none⟩) [(⟨m.k,m.c.a,m.c.b,m.c.f,m.c.s,(u,z,N),(x,A,O),m.c.pl,m.c.st,m.fa,m.fp,m.bk⟩:Mh)]from QhC w3 (⟨m.k,m.c.a,m.c.b,m.c.f,m.c.s,(u,z,N),(x,A,O),m.c.pl,m.c.st,m.fa,m.fp,m.bk⟩:Mh) 113)
    have aE:=Q00 (show(hs++[(⟨m.k,m.c.a,m.c.b,m.c.f,m.c.s,(u,z,N),(x,A,O),m.c.pl,m.c.st,m.fa,m.fp,m.bk⟩:Mh)]).length=k+1 by simp[ar.out])
    have ae:Hid ((List.range (k+1)).all (mlF p xs)=true):=by unfold Hid;rw[Q2h,ap.out,Y.out];rfl
    clear am an Z y0 y1 y2 y3 y4 y5 y6 y7 y8 y9 aH aI r;go_wp2_with (at_builtin;refine Q08 QiK rfl _ _ rfl w.heap.size _ hs rfl FO.out (some ⟨w3.heap.size,0,none⟩) 1 _ [(⟨m.k,m.c.a,m.c.b,m.c.f,m.c.s,(u,z,N),(x,A,O),m.c.pl,m.c.st,m.fa,m.fp,m.bk⟩:Mh)] 1 rfl rfl (fun h=>by cases h) FX.out ?e2 ?e3 ?_)
    case e2=>have:=ar.out;simp;omega
    case e3=>exact Kdq X.out.size (by simp)
    intro v8 w8 ao ak aA;obtain⟨o8,c8,e8,_⟩:=InL.rd (L:=Q0A) (InRow.of ao);rw[aE.out]at e8;subst e8
    have T:∀g,(Value.slice oQ k cQ).ownBlock=some g->g < wr.heap.size:=fun g e=>(HO.out.lt g e).2
    have ah:∀g,(Value.slice oQ k cQ).ownBlock=some g->w.heap.size<=g:=fun g e=>(HO.out.lt g e).1
    have al:(xs.take k).length=k:=by rw[List.length_take,D.out];omega
    have M:=Q00 (RwE.more (y:=(⟨m.k,m.c.a,m.c.b,m.c.f,m.c.s,(u,z,N),(x,A,O),m.c.pl,m.c.st,m.fa,m.fp,m.bk⟩:Mh)) (HR.out.kept af.out) al t.out.size (Kdq j.out.size t.out.size) s3 HV.out I.out T ak);rw[<-HS.out]at M;have av:=Q00 (QeC (l2:=C.heap.size) I.out (fun i hi=>(HR.out.bd i (by rw[al];exact hi)).2) t.out.size s3 T aA);have aq:=Q00 ((X.out.alloc X.out.size _).grown ak (Kdq X.out.size (by simp)) ah);have ax:=Q00 ao;clear ao ak aA T ah al;go_wp2;go_roundw
    case rel=>first
     |exact⟨k+1,hs++[(⟨m.k,m.c.a,m.c.b,m.c.f,m.c.s,(u,z,N),(x,A,O),m.c.pl,m.c.st,m.fa,m.fp,m.bk⟩:Mh)],_,_,o8,c8,by omega,by go_num,rfl,ae.out,ax.out,M.out,av.out,aq.out⟩
     |(refine⟨_, ?_,rfl⟩;exact⟨k+1,hs++[(⟨m.k,m.c.a,m.c.b,m.c.f,m.c.s,(u,z,N),(x,A,O),m.c.pl,m.c.st,m.fa,m.fp,m.bk⟩:Mh)],_,_,o8,c8,by omega,by go_num,rfl,ae.out,ax.out,M.out,av.out,aq.out⟩)
    case measure=>simp[intOf];omega
  ·have e:k=n:=by omega
   subst e;have hy:=Q00 (aF.out ap.out);have h2:=HR.out;rw[show xs.take k=xs from by rw[<-D.out];exact List.take_length]at h2;have M:=Q00 h2;have h3:=I.out;rw[<-D.out]at h3;have aD:=Q00 h3;clear h2 h3;go_wp2;refine bodyPost_ret (v:=.tuple #[.slice oQ k cQ,.bool true]) (by simp[results,Tryz.results112,go_sem]) rfl ⟨_,_,_,by rw[hy.out],fun _=>⟨hs,L,H,InRow.of HO.out,M.out,by have h:=aD.out;rw[D.out]at h;rw[D.out];exact h⟩,j.out⟩
end Go.Proofs.YteffhdcankkfkaaGreat
namespace Go.Proofs.YteffhdcankkfkaaGreat
open Go.ChangeShapes Go.WideShapes Go.ChangeAt Go.RowKit Go.Joins
set_option linter.unusedVariables false
set_option linter.unusedSimpArgs false
set_option maxRecDepth 100000
set_option maxHeartbeats 40000000
theorem InBl.step {a b lo hi:Nat} {w c:World} {v:Value} {j:Jm} {p:Pm} {t:List Sl} (h:InBl a b w v j p t) (s:Stp lo hi w c) (r:hi<=a\/b<=lo):InBl a b c v j p t:=by
 obtain⟨q,m,l,n,x,y,e,g,i,k,d,h2,f⟩:=h;exact⟨q,m,l,n,x,y,e,g,i,k,d.step s (by omega),InRow.step h2 s (by omega),f.step s (by omega)⟩
def InKl (lo hi:Nat) (w:World) (P:Nat) (m:Km):Prop:=∃xo xn xc kq yo yn yc sq kr uo un uc vo vn vc pa la da pm lm dm pg lg dg b0 b1 a0 a1 m0 m1 g0 g1,w.heap[P]? =some (.cells #[.int .i64 m.now,.slice xo xn xc,.int .i64 kq,.slice yo yn yc,.int .i64 sq,.int .i64 kr,.slice uo un uc,.slice vo vn vc,.slice pa la da,.slice pm lm dm,.slice pg lg dg,.int .i64 m.rst,.int .i64 m.gone] 126 (0,0))/\(lo<=P/\P < hi/\lo<=b0/\b1<=hi/\(P < b0\/b1<=P)/\lo<=a0/\a1<=hi/\(P < a0\/a1<=P)/\lo<=m0/\m1<=hi/\(P < m0\/m1<=P)/\lo<=g0/\g1<=hi/\(P < g0\/g1<=P)/\(b1<=a0\/a1<=b0)/\(b1<=m0\/m1<=b0)/\(b1<=g0\/g1<=b0)/\(a1<=m0\/m1<=a0)/\(a1<=g0\/g1<=a0)/\(m1<=g0\/g1<=m0))/\InBl b0 b1 w (QaN (.slice xo xn xc) kq (.slice yo yn yc) sq kr (.slice uo un uc) (.slice vo vn vc)) m.bal.j (Q0Q m.bal.j) m.bal.t/\InE elG 132 a0 a1 w (.slice pa la da) m.ags/\InE elM 113 m0 m1 w (.slice pm lm dm) m.bag/\InL Q0R 143 g0 g1 w (.slice pg lg dg) m.got
theorem InKl.step {x y lo hi P:Nat} {w a:World} {m:Km} (h:InKl x y w P m) (s:Stp lo hi w a) (X:hi<=x\/y<=lo):InKl x y a P m:=by
 obtain⟨R,O,N,t,V,U,T,F,u,I,H,G,M,L,J,D,v,g,pm,A,j,E,z,i,d,f,b,c,B,C,l,n,e,k,p,h2,q,r⟩:=h;exact⟨R,O,N,t,V,U,T,F,u,I,H,G,M,L,J,D,v,g,pm,A,j,E,z,i,d,f,b,c,B,C,l,n,s.box e (by omega),k,p.step s (by omega),(InE.stp _ _).go h2 s (by omega),(InE.stp _ _).go q s (by omega),InRow.step r s (by omega)⟩
def QiG (n:Int):Bool:=decide (0<=n) && decide (n<=99000)
def Q6o (n:Int):Bool:=decide (0<=n) && decide (n<=100000)
theorem QeM (m:Km):okK m=(QiG m.now && Q6o m.rst && Q6o m.gone && Q4O m.bal && QcF m.ags && QdG m.now m.bag && Q5q m.got):=by
 rw[Bool.eq_iff_iff];unfold okK QbZ QcF QdG Q5q QiG Q6o;simp only[Bool.and_eq_true]
 constructor
 ·rintro⟨⟨⟨⟨⟨⟨⟨⟨⟨⟨⟨⟨j,k⟩,b⟩,h⟩,c⟩,i⟩,l⟩,n⟩,d⟩,f⟩,a⟩,q⟩,g⟩
  exact⟨⟨⟨⟨⟨⟨⟨j,k⟩,l,n⟩,d,f⟩,b⟩,h,a⟩,c,q⟩,i,g⟩
 ·rintro⟨⟨⟨⟨⟨⟨⟨j,k⟩,l,n⟩,d,f⟩,b⟩,h,a⟩,c,q⟩,i,g⟩
  exact⟨⟨⟨⟨⟨⟨⟨⟨⟨⟨⟨⟨j,k⟩,b⟩,h⟩,c⟩,i⟩,l⟩,n⟩,d⟩,f⟩,a⟩,q⟩,g⟩
theorem Q6b (lo hi:Nat) (v:Value) (m:Km) (w:World) (h:InKm lo hi w v m) (hh:hi<=w.heap.size) (hf:Q9j m):
  Calls Tryz.prog 55 #[v] w fun e s=>((okK m=false/\e=.returned (.tuple #[.pointer none,.bool false]))\/(okK m=true/\∃P,e=.returned (.tuple #[.pointer (some ⟨P,0,none⟩),.bool true])/\InKl w.heap.size s.heap.size s P m))/\Below w.heap.size w s:=by
 obtain⟨kj,o,nj,c,sf,kp,ob,np,cb,oR,nr,cR,ot,nt,ct,oa,na,ca,om,nm,cm,og,ng,cg,ev,r1,r2,r3,r4,ea,em,eg⟩:=(h.rd.le hh).opn;obtain⟨f1,f2,f3,f4,f5⟩:=hf
 have af:Hid (∀W,Below w.heap.size w W->Calls Tryz.prog 110 #[Q5i kj (.slice o nj c) sf kp (.slice ob np cb) (.slice oR nr cR) (.slice ot nt ct)] W fun e s=> ∃R O N D V U T F E I H G M L J,e=.returned (.tuple #[QaN (.slice R O N) D (.slice V U T) F E (.slice I H G) (.slice M L J),.bool (Q4O m.bal)])/\((Q4O m.bal)=true->InBl W.heap.size s.heap.size s (QaN (.slice R O N) D (.slice V U T) F E (.slice I H G) (.slice M L J)) m.bal.j (Q0Q m.bal.j) m.bal.t)/\Below W.heap.size W s):=fun W a=>by
  obtain⟨aH,vl,aJ,aI,vb,vr,vt,va,vm,vg,b0,b1,a0,a1,m0,m1,g0,g1,e,k,i1,_⟩:=h;rw[ev]at e;simp only[Value.agg.injEq,Array.mk.injEq,List.cons.injEq,and_true,true_and,Value.int.injEq]at e;obtain⟨e1,e2,e3,e4,e5,e6,e7,_⟩:=e;subst e1 e2 e3 e4 e5 e6 e7;have h':=i1.step (Stp.of (lo:=0) (hi:=0) a) (.inl (Kcq _));obtain⟨o',c',a3,aX,a2,aW,a4,aY,e',q1,q2,q3,q4⟩:=Q7J h' (Kdq (by omega) a.size);rw[e'];exact QbT m.bal.j.key o' _ c' m.bal.j.safe m.bal.p.key a3 _ aX a2 _ aW a4 _ aY m.bal.j.l m.bal.p.l m.bal.p.ring m.bal.t W rfl rfl q1 q2 q3 q4 f1
 have ae:Hid (∀W,Below w.heap.size w W->Calls Tryz.prog 111 #[.slice oa na ca] W fun e s=> ∃o n c,e=.returned (.tuple #[.slice o n c,.bool (QcF m.ags)])/\(QcF m.ags=true->InE elG 132 W.heap.size s.heap.size s (.slice o n c) m.ags)/\Below W.heap.size W s):=fun W a=>Q7i _ m.ags W (r2.on a) (by omega) (fun i hi=>QiD f2 i hi)
 have ab:Hid (∀W,Below w.heap.size w W->Calls Tryz.prog 112 #[.slice om nm cm,.int .i64 m.now] W fun e s=> ∃o n c,e=.returned (.tuple #[.slice o n c,.bool (QdG m.now m.bag)])/\(QdG m.now m.bag=true->InE elM 113 W.heap.size s.heap.size s (.slice o n c) m.bag)/\Below W.heap.size W s):=fun W a=>by
  obtain⟨aH,vl,aJ,aI,vb,vr,vt,va,vm,vg,b0,b1,a0,a1,m0,m1,g0,g1,e,k,_,_,i3,_⟩:=h;rw[ev]at e;simp only[Value.agg.injEq,Array.mk.injEq,List.cons.injEq,and_true,true_and,Value.int.injEq]at e;obtain⟨_,_,_,_,_,_,_,_,e9,_⟩:=e;subst e9;exact Qb5 m0 m1 _ m.bag m.now W ((InE.stp _ _).go i3 (Stp.of (lo:=0) (hi:=0) a) (.inl (Kcq _))) (Kdq (by omega) a.size) (by omega) (fun i hi=>QiB f3 f5 i hi)
 have ag:Hid (∀W,Below w.heap.size w W->Calls Tryz.prog 113 #[.slice og ng cg] W fun e s=> ∃o n c,e=.returned (.tuple #[.slice o n c,.bool (Q5q m.got)])/\(Q5q m.got=true->InL Q0R 143 W.heap.size s.heap.size s (.slice o n c) m.got)/\Below W.heap.size W s):=fun W a=>by
  obtain⟨aH,vl,aJ,aI,vb,vr,vt,va,vm,vg,b0,b1,a0,a1,m0,m1,g0,g1,e,k,_,_,_,i4⟩:=h;rw[ev]at e;simp only[Value.agg.injEq,Array.mk.injEq,List.cons.injEq,and_true,true_and,Value.int.injEq]at e;obtain⟨_,_,_,_,_,_,_,_,_,aZ⟩:=e;subst aZ;exact Qbm _ m.got W ((r4.kept a (Kaq _)).le a.size) (InRow.cap i4) f4
 have d:=Q00 (QeM m);subst ev;clear r1 r2 r3 r4 ea em eg f1 f2 f3 f4 f5 h hh;obtain⟨g,x⟩:∃q,m.now=q:=⟨_,rfl⟩;obtain⟨r,B⟩:∃q,m.rst=q:=⟨_,rfl⟩;obtain⟨b,u⟩:∃q,m.gone=q:=⟨_,rfl⟩;have HV:=Q00 (And.intro x (And.intro B u));rw[x]at ab;rw[x,B,u]at d;rw[x,B,u];clear x B u
 have HN:Hid (∀W,Calls Tryz.prog 108 #[.int .i64 g] W fun e s=>e=.returned (.bool (QiG g))/\W=s):=fun W=>Qec g W
 have HR:Hid (∀W,Calls Tryz.prog 109 #[.int .i64 r] W fun e s=>e=.returned (.bool (Q6o r))/\W=s):=fun W=>Q6e r W
 have HG:Hid (∀W,Calls Tryz.prog 109 #[.int .i64 b] W fun e s=>e=.returned (.bool (Q6o b))/\W=s):=fun W=>Q6e b W
 obtain⟨q1,aA⟩:∃q,QiG g=q:=⟨_,rfl⟩;rw[aA]at HN d;clear aA;obtain⟨q2,aB⟩:∃q,Q6o r=q:=⟨_,rfl⟩;rw[aB]at HR d;clear aB;obtain⟨q3,aC⟩:∃q,Q6o b=q:=⟨_,rfl⟩;rw[aC]at HG d;clear aC;obtain⟨q4,aD⟩:∃q,Q4O m.bal=q:=⟨_,rfl⟩;rw[aD]at af d;clear aD;obtain⟨q5,aE⟩:∃q,QcF m.ags=q:=⟨_,rfl⟩;rw[aE]at ae d;clear aE;obtain⟨q6,aF⟩:∃q,QdG g m.bag=q:=⟨_,rfl⟩;rw[aF]at ab d;clear aF;obtain⟨q7,aG⟩:∃q,Q5q m.got=q:=⟨_,rfl⟩;rw[aG]at ag d;clear aG
 have bx:=World.alloc_heap_new w (.cells #[.int .i64 g,.int .i64 kj,.slice o nj c,.int .i64 sf,.int .i64 kp,.slice ob np cb,.slice oR nr cR,.slice ot nt ct,.slice oa na ca,.slice om nm cm,.slice og ng cg,.int .i64 r,.int .i64 b] 39);have av:Below w.heap.size w (w.alloc (.cells #[.int .i64 g,.int .i64 kj,.slice o nj c,.int .i64 sf,.int .i64 kp,.slice ob np cb,.slice oR nr cR,.slice ot nt ct,.slice oa na ca,.slice om nm cm,.slice og ng cg,.int .i64 r,.int .i64 b] 39)):=KBq.alloc (Kaq _) _
 have ap:w.heap.size < (w.alloc (.cells #[.int .i64 g,.int .i64 kj,.slice o nj c,.int .i64 sf,.int .i64 kp,.slice ob np cb,.slice oR nr cR,.slice ot nt ct,.slice oa na ca,.slice om nm cm,.slice og ng cg,.int .i64 r,.int .i64 b] 39)).heap.size:=by simp
 obtain⟨z0,z1,z2,z3,z4,z5,z6,z7,z8,z9,y,z,A,_⟩:=Q1b bx;have HX:=Q00 bx;have C:=Q00 av;have aS:=Q00 ap;clear bx av ap;go_enter Tryz.func55,Tryz.ntmps55;go_wp2_with fail;generalize (w.alloc (.cells #[.int .i64 g,.int .i64 kj,.slice o nj c,.int .i64 sf,.int .i64 kp,.slice ob np cb,.slice oR nr cR,.slice ot nt ct,.slice oa na ca,.slice om nm cm,.slice og ng cg,.int .i64 r,.int .i64 b] 39))=W0 at *;refine(HN.out W0).mono ?_;rintro e _ ⟨rfl,rfl⟩
 cases q1 with
 |false=>
  go_wp2;refine bodyPost_ret (v:=.tuple #[.pointer none,.bool false]) (by simp[results,Tryz.results55,go_sem]) rfl ⟨.inl ⟨by rw[d.out];simp,rfl⟩,C.out⟩
 |true=>
  go_wp2_with fail;refine(HR.out W0).mono ?_;rintro e _ ⟨rfl,rfl⟩
  cases q2 with
  |false=>
   go_wp2;refine bodyPost_ret (v:=.tuple #[.pointer none,.bool false]) (by simp[results,Tryz.results55,go_sem]) rfl ⟨.inl ⟨by rw[d.out];simp,rfl⟩,C.out⟩
  |true=>
   go_wp2_with fail;refine(HG.out W0).mono ?_;rintro e _ ⟨rfl,rfl⟩
   cases q3 with
   |false=>
    go_wp2;refine bodyPost_ret (v:=.tuple #[.pointer none,.bool false]) (by simp[results,Tryz.results55,go_sem]) rfl ⟨.inl ⟨by rw[d.out];simp,rfl⟩,C.out⟩
   |true=>
    go_wp2_with fail;refine(af.out W0 C.out).mono ?_;rintro e w1 ⟨R,O,N,D,V,U,T,F,E,I,H,G,M,L,J,rfl,aw,a⟩;have aO:=Q00 aw;have s01:=a.size;have aU:=Q00 (Q0E HX.out a);have aq:=Q00 (C.out.trans (a.mono C.out.size));clear aw a z0 z1 z2 z3 z4 z5 z6 z7 z8 z9 y z A HX HN HR HG af;have f:=World.alloc_heap_new w1 (.cells #[.slice R O N,.int .i64 D,.slice V U T,.int .i64 F,.int .i64 E,.slice I H G,.slice M L J] 123)
    have ad:Below w1.heap.size w1 (w1.alloc (.cells #[.slice R O N,.int .i64 D,.slice V U T,.int .i64 F,.int .i64 E,.slice I H G,.slice M L J] 123)):=KBq.alloc (Kaq _) _;have ak:=Q00 (Q0E aU.out ad);have Y:=Q00 (aq.out.trans (ad.mono aq.out.size))
    have s12:w1.heap.size < (w1.alloc (.cells #[.slice R O N,.int .i64 D,.slice V U T,.int .i64 F,.int .i64 E,.slice I H G,.slice M L J] 123)).heap.size:=by simp
    obtain⟨z0,z1,z2,z3,z4,z5,z6,z7,z8,z9,y,z,A,_⟩:=Q1b ak.out;obtain⟨y0,y1,y2,y3,y4,y5,y6⟩:=cxb7v0v0 f;have HY:=Q00 f;have ah:=Q00 ad;clear f ad;go_wp2_with fail;generalize (w1.alloc (.cells #[.slice R O N,.int .i64 D,.slice V U T,.int .i64 F,.int .i64 E,.slice I H G,.slice M L J] 123))=w2 at *;clear z0 z1 z2 z3 z4 z5 z6 z7 z8 z9 y z A y0 y1 y2 y3 y4 y5 y6;refine(ae.out w2 Y.out).mono ?_;rintro e w3 ⟨pa,la,da,rfl,ax,a⟩;have aP:=Q00 ax;have s23:=a.size;have al:=Q00 (Q0E ak.out a);have Z:=Q00 (Y.out.trans (a.mono Y.out.size))
    have ai:=Q00 (ah.out.trans (a.mono ah.out.size));have f:=Q0E HY.out a;have a8:=Q00 a;clear ax a ak Y ah HY ae;obtain⟨z0,z1,z2,z3,z4,z5,z6,z7,z8,z9,y,z,A,_⟩:=Q1b al.out;obtain⟨y0,y1,y2,y3,y4,y5,y6⟩:=cxb7v0v0 f;have HY:=Q00 f;clear f;go_wp2_with fail;clear z0 z1 z2 z3 z4 z5 z6 z7 z8 z9 y z A y0 y1 y2 y3 y4 y5 y6;refine(ab.out w3 Z.out).mono ?_;rintro e w4 ⟨pm,lm,dm,rfl,ay,a⟩;have aQ:=Q00 ay;have s34:=a.size;have am:=Q00 (Q0E al.out a);have aa:=Q00 (Z.out.trans (a.mono Z.out.size));have aj:=Q00 (ai.out.trans (a.mono ai.out.size))
    have f:=Q0E HY.out a;have au:=Q00 a;clear ay a al Z ai HY ab;obtain⟨z0,z1,z2,z3,z4,z5,z6,z7,z8,z9,y,z,A,_⟩:=Q1b am.out;obtain⟨y0,y1,y2,y3,y4,y5,y6⟩:=cxb7v0v0 f;have HY:=Q00 f;clear f;go_wp2_with fail;clear z0 z1 z2 z3 z4 z5 z6 z7 z8 z9 y z A y0 y1 y2 y3 y4 y5 y6;refine(ag.out w4 aa.out).mono ?_;rintro e X ⟨pg,lg,dg,rfl,az,a⟩;have aR:=Q00 az;have s45:=a.size;have aV:=Q00 (Q0E am.out a);have aL:=Q00 (aa.out.trans (a.mono aa.out.size));have ar:=Q00 (aj.out.trans (a.mono aj.out.size));have f:=Q0E HY.out a;have an:=Q00 a
    clear az a am aa aj HY ag;obtain⟨z0,z1,z2,z3,z4,z5,z6,z7,z8,z9,y,z,A,_⟩:=Q1b aV.out;obtain⟨y0,y1,y2,y3,y4,y5,y6⟩:=cxb7v0v0 f;have HY:=Q00 f;clear f;replace C:=aL
    cases q4 with
    |false=>
     go_wp2;refine bodyPost_ret (v:=.tuple #[.pointer none,.bool false]) (by simp[results,Tryz.results55,go_sem]) rfl ⟨.inl ⟨by rw[d.out];simp,rfl⟩,C.out⟩
    |true=>
     cases q5 with
     |false=>
      go_wp2;refine bodyPost_ret (v:=.tuple #[.pointer none,.bool false]) (by simp[results,Tryz.results55,go_sem]) rfl ⟨.inl ⟨by rw[d.out];simp,rfl⟩,C.out⟩
     |true=>
      cases q6 with
      |false=>
       go_wp2;refine bodyPost_ret (v:=.tuple #[.pointer none,.bool false]) (by simp[results,Tryz.results55,go_sem]) rfl ⟨.inl ⟨by rw[d.out];simp,rfl⟩,C.out⟩
      |true=>
       cases q7 with
       |false=>
        go_wp2;refine bodyPost_ret (v:=.tuple #[.pointer none,.bool false]) (by simp[results,Tryz.results55,go_sem]) rfl ⟨.inl ⟨by rw[d.out];simp,rfl⟩,C.out⟩
       |true=>
        have bz:=World.alloc_heap_new X (.cells #[.int .i64 g,.slice R O N,.int .i64 D,.slice V U T,.int .i64 F,.int .i64 E,.slice I H G,.slice M L J,.slice pa la da,.slice pm lm dm,.slice pg lg dg,.int .i64 r,.int .i64 b] 126);have ao:Below X.heap.size X (X.alloc (.cells #[.int .i64 g,.slice R O N,.int .i64 D,.slice V U T,.int .i64 F,.int .i64 E,.slice I H G,.slice M L J,.slice pa la da,.slice pm lm dm,.slice pg lg dg,.int .i64 r,.int .i64 b] 126)):=KBq.alloc (Kaq _) _
        have s56:(X.alloc (.cells #[.int .i64 g,.slice R O N,.int .i64 D,.slice V U T,.int .i64 F,.int .i64 E,.slice I H G,.slice M L J,.slice pa la da,.slice pm lm dm,.slice pg lg dg,.int .i64 r,.int .i64 b] 126)).heap.size=X.heap.size+1:=by simp
        have aN:=Q00 bz;have aM:=Q00 (C.out.trans (ao.mono C.out.size));have ac:=Q00 ao;have aT:=Q00 s56;clear bz ao s56;go_wp2;refine bodyPost_ret (v:=.tuple #[.pointer (some ⟨X.heap.size,0,none⟩),.bool true]) (by simp[results,Tryz.results55,go_sem]) rfl ⟨.inr ⟨by rw[d.out];rfl,X.heap.size,rfl, ?_⟩,aM.out⟩;generalize (X.alloc (.cells #[.int .i64 g,.slice R O N,.int .i64 D,.slice V U T,.int .i64 F,.int .i64 E,.slice I H G,.slice M L J,.slice pa la da,.slice pm lm dm,.slice pg lg dg,.int .i64 r,.int .i64 b] 126))=w6 at *;have a9:=aT.out;have ap:=aS.out
        have aK:=au.out.trans (an.out.mono au.out.size);have a6:=aK.trans (ac.out.mono aK.size);have a7:=an.out.trans (ac.out.mono an.out.size);have a5:=ar.out.trans (ac.out.mono ar.out.size)
        exact⟨R,O,N,D,V,U,T,F,E,I,H,G,M,L,J,pa,la,da,pm,lm,dm,pg,lg,dg,W0.heap.size,w1.heap.size,w2.heap.size,w3.heap.size,w3.heap.size,w4.heap.size,w4.heap.size,X.heap.size,by rw[HV.out.1,HV.out.2.1,HV.out.2.2];exact aN.out,by omega,(aO.out (by trivial)).step (Stp.of (lo:=0) (hi:=0) a5) (.inl (Kcq _)),(InE.stp _ _).go (aP.out (by trivial)) (Stp.of (lo:=0) (hi:=0) a6) (.inl (Kcq _)),(InE.stp _ _).go (aQ.out (by trivial)) (Stp.of (lo:=0) (hi:=0) a7) (.inl (Kcq _)),InRow.step (aR.out (by trivial)) (Stp.of (lo:=0) (hi:=0) ac.out) (.inl (Kcq _))⟩
end Go.Proofs.YteffhdcankkfkaaGreat
