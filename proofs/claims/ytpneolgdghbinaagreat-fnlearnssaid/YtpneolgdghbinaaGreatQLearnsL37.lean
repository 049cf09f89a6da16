/- Several texts in one: STickS, SLearnS, SDraw5T, BalStep. -/
import Derived.Test.YtpneolgdghbinaaGreatQLearnsL35
import Derived.Test.YtpneolgdghbinaaGreatQLearnsL36
namespace Go.Proofs.YtpneolgdghbinaaGreat
open Go.ChangeShapes Go.WideShapes Go.ChangeAt Go.RowKit Go.Joins
set_option linter.unusedVariables false
set_option linter.unusedSimpArgs false
set_option maxRecDepth 100000
set_option maxHeartbeats 40000000
def Qji (w:World) (v:Value) (m:Bm):Prop:=∃o c ob cb oR cR bt ft ct,v=Q13 m.j.key (.slice o m.j.l.length c) m.j.safe m.p.key (.slice ob m.p.l.length cb) (.slice oR m.p.ring.length cR) (.slice (some ⟨bt,ft,none⟩) m.t.length ct)∧RdC w.heap.size w o m.j.l∧(o=none→c=0)∧RdK w.heap.size w ob m.p.l∧(ob=none→cb=0)∧RcR 0 w.heap.size w (.slice oR m.p.ring.length cR) m.p.ring∧bt < w.heap.size∧(∀i,i < m.t.length→∀j,j < Q0g.k→w.cell? ⟨bt,ft+i * Q0g.k+j,none⟩=(Q0g.cs (m.t.getD i Q0g.d))[j]?)
theorem Q3w {lo hi b j:Nat} {w w':World} (s:Stp lo hi w w') (hb:b < w.heap.size) (hd:b < lo∨hi≤b):w'.cell? ⟨b,j,none⟩=w.cell? ⟨b,j,none⟩:=by
 simp only [World.cell?,s.block b hb hd]
theorem Qga {v:Value} {m:Bm} {w:World} (h:Qji w v m) (d:fitBm m):
  Calls Tryz.prog 131 #[v] w fun e a=> ∃v',e=.returned v'∧OwBm w.heap.size a.heap.size a v' m∧Below w.heap.size w a:=by
 obtain ⟨o,c,x,f,g,k,s,b,i,e,y,h2,n,u,q,z,r⟩:=h;subst e;exact Qgg m.j.key o _ c m.j.safe m.p.key x _ f g _ k s b _ i m.j.l m.p.l m.p.ring m.t w rfl rfl rfl rfl y h2 n u q z r d
def Q1K (l:List Sl) (now a p v:Int):List Sl:=if 0≤(Q0Z l a p).1 then Q4c l a p v (now+50) else Q4c (Q43 l (Q2d l).a (Q2d l).p) a p v (now+50)
def OrBr (lo hi:Nat) (w:World) (v:Value) (m:Bm):Prop:=∃vl vb vr vt,v=Q13 m.j.key vl m.j.safe m.p.key vb vr vt∧RiV Q4j lo hi w vl m.j.l∧Qip vl∧RcPm lo hi w (plv m.p.key vb vr) m.p∧RiV Q0g lo hi w vt m.t
theorem OrBr.step {a b lo hi:Nat} {w d:World} {v:Value} {m:Bm} (h:OrBr a b w v m) (s:Stp lo hi w d) (c:hi≤a∨b≤lo):OrBr a b d v m:=by
 obtain ⟨i,g,f,k,rfl,n,h2,j,l⟩:=h;exact ⟨i,g,f,k,rfl,n.step s c,h2,j.step s c,l.step s c⟩
theorem OrBr.mono {a b f g:Nat} {w:World} {v:Value} {m:Bm} (h:OrBr a b w v m) (c:f≤a) (d:b≤g):OrBr f g w v m:=by
 obtain ⟨k,j,i,n,rfl,q,h2,l,p⟩:=h;exact ⟨k,j,i,n,rfl,q.mono c d,h2,l.mono c d,p.mono c d⟩
theorem OrBr.or {lo hi:Nat} {w:World} {v:Value} {m:Bm} (h:OrBr lo hi w v m) (d:hi≤w.heap.size) (p:0 < m.t.length):Qji w v m:=by
 obtain ⟨I,H,F,J,rfl,D,h2,u,G,s,rfl,b⟩:=h;obtain ⟨o,c,rfl,y⟩:=D.open;obtain ⟨x,E,q,i,f,a,z⟩:=u;simp only [Value.agg.injEq,Array.mk.injEq,List.cons.injEq,and_true,true_and] at q;obtain ⟨l,j⟩:=q;subst l j;obtain ⟨u9,g,rfl,k⟩:=RiV.open i;obtain ⟨A,B,rfl⟩:=RiR.len (RcR.ri a)
 rcases b with b|⟨C,r,rfl,_,n,b⟩
 ·rw [b] at p;simp at p
 ·exact ⟨o,c,u9,g,A,B,C,r,s,rfl,y.le d,(fun h=> h2 _ _ (by rw [h])),k.le d,(fun h=> f _ _ (by rw [h])),RcR.mon.go a (Kcq _) d,Kbq n d,b⟩
theorem OwBm.br {lo hi:Nat} {w:World} {v:Value} {m:Bm} (h:OwBm lo hi w v m):OrBr lo hi w v m:=by
 obtain ⟨j,g,f,l,rfl,⟨i,c,b⟩,h2,⟨k,d,a⟩⟩:=h;simp only [Value.agg.injEq,Array.mk.injEq,List.cons.injEq,and_true,true_and] at c d;subst c d;exact ⟨j,g,f,l,rfl,InRow.ri b,b.cap,h2,InRow.ri a⟩
def Q4G (m:Bm) (now a p v:Int):Bm:=⟨m.j,m.p,Q1K m.t now a p v⟩
theorem Q97 (l:List Sl) (a p v t:Int):(Q4c l a p v t).length=l.length:=by unfold Q4c;split <;> simp
theorem Qaf (l:List Sl) (a p:Int):(Q43 l a p).length=l.length:=by unfold Q43;split <;> simp [Q2t]
theorem QbZ (kj:Int) (o:Option Addr) (nj c:Nat) (sj kp:Int) (ob:Option Addr) (np cb:Nat) (oR:Option Addr) (nr cR:Nat) (ot:Option Addr) (nt ct:Nat) (lj:List Cd) (lb:List Bk) (lr:List (List (List Int))) (lt:List Sl) (now a p v:Int) (w:World)
  (bX:∀W:World,Below w.heap.size w W→Calls Tryz.prog 131 #[Q13 kj (.slice o nj c) sj kp (.slice ob np cb) (.slice oR nr cR) (.slice ot nt ct)] W fun e w'=> ∃v',e=.returned v'∧OwBm W.heap.size w'.heap.size w' v' ⟨⟨kj,lj,sj⟩,⟨kp,lb,lr⟩,lt⟩∧Below W.heap.size W w') (f:Q2h ⟨⟨kj,lj,sj⟩,⟨kp,lb,lr⟩,lt⟩=true) (hf:fitBm ⟨⟨kj,lj,sj⟩,⟨kp,lb,lr⟩,lt⟩) (c5:0≤now) (cX:now≤100000) (bV:Q0h a p=true) (b7:(Q0Z lt a p).1 < 0→Q0h (Q2d lt).a (Q2d lt).p=true) (bR:Q4m lt):
  Calls Tryz.prog 129 #[Q13 kj (.slice o nj c) sj kp (.slice ob np cb) (.slice oR nr cR) (.slice ot nt ct),.int .i64 now,Q6c a p,.int .i64 v] w fun e w'=> ∃v',e=.returned v'∧OrBr w.heap.size w'.heap.size w' v' (Q4G ⟨⟨kj,lj,sj⟩,⟨kp,lb,lr⟩,lt⟩ now a p v)∧Below w.heap.size w w':=by
 have cM:IntKind.i64.wrap (now+50)=now+50:=by rw [IntKind.wrap_i64];omega
 have b2:=Q01 bX;have bZ:=(Q07.1 (show Q0c lt=true from Q1N f)).2.1;have a5:=Q01 (show 0 < lt.length from Q40 f);have bf:=Q01 b7;have cA:=Q01 bR;have a8:=Q01 bZ;clear bX f hf b7 bR bZ;obtain ⟨W0,ak⟩:∃W,(((w.alloc (.cells #[.int .i64 kj,.slice o nj c,.int .i64 sj,.int .i64 kp,.slice ob np cb,.slice oR nr cR,.slice ot nt ct] 34)).alloc (.cells #[.int .i64 a,.int .i64 p] 36)).alloc (.cells #[.int .i64 0,.slice none 0 0,.int .i64 0,.int .i64 0,.slice none 0 0,.slice none 0 0,.slice none 0 0] 34))=W:=⟨_,rfl⟩;have ax:=alb0v0v3 ak;have HB:=Q01 ax;clear ax
 have y:=alz0v0v3 ak;obtain ⟨z0,z1,z2,z3,z4,z5,z6⟩:=alc7v0v3 ak;have zx:=alz0v1v3 ak;obtain ⟨x0,x1⟩:=alc2v1v3 ak;have m:=alz0v2v3 ak;obtain ⟨r0,r1,r2,r3,r4,r5,r6⟩:=alc7v2v3 ak;obtain ⟨X,T,P,V,N,U,O⟩:=alf7v2v3 ak;have db:w.heap.size+1+1 < W0.heap.size:=m;go_enter Tryz.func129,Tryz.ntmps129;go_wp2_with fail;refine (b2.out W0 HB.out).mono ?_;rintro e Z ⟨cY,rfl,b6,f⟩;have D:=Q01 b6;have cQ:=f.size;clear b6 b2;replace z0:=bC f z0 y;replace z1:=bC f z1 y;replace z2:=bC f z2 y;replace z3:=bC f z3 y;replace z4:=bC f z4 y;replace z5:=bC f z5 y
 replace z6:=bC f z6 y;replace y:=Kbq y f.size;replace x0:=bC f x0 zx;replace x1:=bC f x1 zx;replace zx:=Kbq zx f.size;replace r0:=bC f r0 m;replace r1:=bC f r1 m;replace r2:=bC f r2 m;replace r3:=bC f r3 m;replace r4:=bC f r4 m;replace r5:=bC f r5 m;replace r6:=bC f r6 m;replace X:=bF f X m;replace T:=bF f T m;replace P:=bF f P m;replace V:=bF f V m;replace N:=bF f N m;replace U:=bF f U m;replace O:=bF f O m;replace m:=Kbq m f.size;replace HB:=Q01 (HB.out.trans (f.mono HB.out.size));clear f
 obtain ⟨o9,c9,F,H,L,E,c8,aF,e9⟩:=D.out.rd.opn;dsimp only at e9;obtain ⟨J,aK⟩:∃x,lj.length=x:=⟨_,rfl⟩;obtain ⟨I,aV⟩:∃x,lb.length=x:=⟨_,rfl⟩;obtain ⟨G,aG⟩:∃x,lr.length=x:=⟨_,rfl⟩;obtain ⟨s,aD⟩:∃x,lt.length=x:=⟨_,rfl⟩;rw [aK,aV,aG,aD] at e9;subst e9;obtain ⟨bW,a9,be,bd⟩:=Q9p D.out;clear bW;have cf:=bd.row;have cl:=bd.rd;obtain ⟨c4,bQ,cP,av,cv,ce⟩:=cl;simp only [Value.agg.injEq,Array.mk.injEq,List.cons.injEq,and_true] at bQ;subst bQ;injection cv with et81 et82 et83;subst et81 et83;obtain ⟨g9,f9,cD,cn,an⟩:=Qgu ce a5.out;subst cD
 have bY:W0.heap.size≤g9:=(cf.1.lt g9 rfl).1;have af:=Q01 an;clear cf ce an bd a9 be et82;have aN:=Q01 (And.intro aK (And.intro aV (And.intro aG aD)));clear aK aV aG aD;obtain ⟨W2,ar⟩:∃W,(Z.alloc (.cells #[.int .i64 kj,.slice o9 J c9,.int .i64 sj,.int .i64 kp,.slice F I H,.slice L G E,.slice (some ⟨g9,f9,none⟩) s aF] 34))=W:=⟨_,rfl⟩;have q:=alb0v0v1 ar;replace z0:=bC q z0 y;replace z1:=bC q z1 y;replace z2:=bC q z2 y;replace z3:=bC q z3 y;replace z4:=bC q z4 y;replace z5:=bC q z5 y;replace z6:=bC q z6 y
 replace y:=Kbq y q.size;replace x0:=bC q x0 zx;replace x1:=bC q x1 zx;replace zx:=Kbq zx q.size;replace r0:=bC q r0 m;replace r1:=bC q r1 m;replace r2:=bC q r2 m;replace r3:=bC q r3 m;replace r4:=bC q r4 m;replace r5:=bC q r5 m;replace r6:=bC q r6 m;replace X:=bF q X m;replace T:=bF q T m;replace P:=bF q P m;replace V:=bF q V m;replace N:=bF q N m;replace U:=bF q U m;replace O:=bF q O m;replace m:=Kbq m q.size;replace HB:=Q01 (HB.out.trans (q.mono HB.out.size))
 clear q;have r:=alz0v0v1 ar;obtain ⟨u0,u1,u2,u3,u4,u5,u6⟩:=alc7v0v1 ar;obtain ⟨aa,ad,ag,ae,ac,ab,ah⟩:=alf7v0v1 ar;have hu:Z.heap.size < W2.heap.size:=r;have aT:=alb0v0v1 ar;replace af:Hid (∀i,i < lt.length→∀j,j < Q0g.k→W2.cell? ⟨g9,f9+i * Q0g.k+j,none⟩=(Q0g.cs (lt.getD i Q0g.d))[j]?):=Q01 (fun i hi j hj=> (aT.cell (p:=⟨g9,f9+i * Q0g.k+j,none⟩) cn).trans (af.out i hi j hj));have aY:=Q01 (Q6q g9 f9 aF lt a p v (now+50) W2 a5.out (by have:=a8.out;omega) bV (by omega) af.out);have M:Hid _:=alx0v0v1 ar;rw [aN.out.2.2.2] at aY;have cm:=Q01 aT;clear aT
 replace D:=Q01 (D.out.step (Stp.of (lo:=0) (hi:=0) cm.out) (.inl (Kcq _)));obtain ⟨el,a3⟩:∃x,Q4c lt a p v (now+50)=x:=⟨_,rfl⟩;have ch:=Q01 (show el.length=lt.length by rw [←a3];exact Q97 _ _ _ _ _);have a6:=Q01 (show 0≤(Q0Z lt a p).1→Q1K lt now a p v=el from fun h=> by unfold Q1K;rw [if_pos h,a3]);rw [a3] at aY;clear a3;have bb:=Q01 (show ¬0≤(Q0Z lt a p).1→Q1K lt now a p v=Q4c (Q43 lt (Q2d lt).a (Q2d lt).p) a p v (now+50) from fun h=> by unfold Q1K;rw [if_neg h]);go_wp2_with fail;refine (aY.out).mono ?_;rintro e v2 ⟨Y,f8,C,rfl,ci,ao,f,cV⟩;have aE:=Q01 ao
 have cZ:=f.size;replace M:=Q01 ((f.block _ hu).trans M.out);replace D:=Q01 (D.out.step (Stp.of (lo:=0) (hi:=0) f) (.inl (Kcq _)));replace af:Hid (∀i,i < lt.length→∀j,j < Q0g.k→v2.cell? ⟨g9,f9+i * Q0g.k+j,none⟩=(Q0g.cs (lt.getD i Q0g.d))[j]?):=Q01 (fun i hi j hj=> (f.cell (p:=⟨g9,f9+i * Q0g.k+j,none⟩) (show g9 < W2.heap.size by omega)).trans (af.out i hi j hj));clear ao aY;replace z0:=bC f z0 y;replace z1:=bC f z1 y;replace z2:=bC f z2 y;replace z3:=bC f z3 y;replace z4:=bC f z4 y;replace z5:=bC f z5 y;replace z6:=bC f z6 y;replace y:=Kbq y f.size
 replace x0:=bC f x0 zx;replace x1:=bC f x1 zx;replace zx:=Kbq zx f.size;replace r0:=bC f r0 m;replace r1:=bC f r1 m;replace r2:=bC f r2 m;replace r3:=bC f r3 m;replace r4:=bC f r4 m;replace r5:=bC f r5 m;replace r6:=bC f r6 m;replace X:=bF f X m;replace T:=bF f T m;replace P:=bF f P m;replace V:=bF f V m;replace N:=bF f N m;replace U:=bF f U m;replace O:=bF f O m;replace m:=Kbq m f.size;replace u0:=bC f u0 r;replace u1:=bC f u1 r;replace u2:=bC f u2 r;replace u3:=bC f u3 r;replace u4:=bC f u4 r;replace u5:=bC f u5 r
 replace u6:=bC f u6 r;replace aa:=bF f aa r;replace ad:=bF f ad r;replace ag:=bF f ag r;replace ae:=bF f ae r;replace ac:=bF f ac r;replace ab:=bF f ab r;replace ah:=bF f ah r;replace r:=Kbq r f.size;replace HB:=Q01 (HB.out.trans (f.mono HB.out.size));clear f;obtain ⟨W4,au⟩:∃W,(v2.alloc (.cells #[.slice (some ⟨Y,f8,none⟩) s C] 32))=W:=⟨_,rfl⟩;have l:=alb0v0v1 au;replace z0:=bC l z0 y;replace z1:=bC l z1 y;replace z2:=bC l z2 y;replace z3:=bC l z3 y;replace z4:=bC l z4 y;replace z5:=bC l z5 y;replace z6:=bC l z6 y
 replace y:=Kbq y l.size;replace x0:=bC l x0 zx;replace x1:=bC l x1 zx;replace zx:=Kbq zx l.size;replace r0:=bC l r0 m;replace r1:=bC l r1 m;replace r2:=bC l r2 m;replace r3:=bC l r3 m;replace r4:=bC l r4 m;replace r5:=bC l r5 m;replace r6:=bC l r6 m;replace X:=bF l X m;replace T:=bF l T m;replace P:=bF l P m;replace V:=bF l V m;replace N:=bF l N m;replace U:=bF l U m;replace O:=bF l O m;replace m:=Kbq m l.size;replace u0:=bC l u0 r;replace u1:=bC l u1 r
 replace u2:=bC l u2 r;replace u3:=bC l u3 r;replace u4:=bC l u4 r;replace u5:=bC l u5 r;replace u6:=bC l u6 r;replace aa:=bF l aa r;replace ad:=bF l ad r;replace ag:=bF l ag r;replace ae:=bF l ae r;replace ac:=bF l ac r;replace ab:=bF l ab r;replace ah:=bF l ah r;replace r:=Kbq r l.size;replace HB:=Q01 (HB.out.trans (l.mono HB.out.size));clear l;have zt:=alz0v0v1 au
 have t0:W4.cell? ⟨v2.heap.size,0,none⟩=some (.slice (some ⟨Y,f8,none⟩) s C):=by rw [←au];simp [go_sem]
 have aj:W4.frozen? ⟨v2.heap.size,0,none⟩=false:=by rw [←au];simp [go_sem]
 have da:v2.heap.size < W4.heap.size:=zt
 have A:w.heap.size+1+1 < Z.heap.size:=by omega
 have aS:=alb0v0v1 au;replace M:=Q01 ((aS.block _ (by omega)).trans M.out);replace D:=Q01 (D.out.step (Stp.of (lo:=0) (hi:=0) aS) (.inl (Kcq _)));replace af:Hid (∀i,i < lt.length→∀j,j < Q0g.k→W4.cell? ⟨g9,f9+i * Q0g.k+j,none⟩=(Q0g.cs (lt.getD i Q0g.d))[j]?):=Q01 (fun i hi j hj=> (aS.cell (p:=⟨g9,f9+i * Q0g.k+j,none⟩) (show g9 < v2.heap.size by omega)).trans (af.out i hi j hj))
 replace aE:Hid (∀i,i < el.length→∀j,j < Q0g.k→W4.cell? ⟨Y,f8+i * Q0g.k+j,none⟩=(Q0g.cs (el.getD i Q0g.d))[j]?):=Q01 (fun i hi j hj=> (aS.cell (p:=⟨Y,f8+i * Q0g.k+j,none⟩) ci).trans (aE.out i hi j hj));clear aS
 have a7:Hid (∀(SX:World) (Y f8 C:Nat) (el:List Sl),el.length=lt.length→Q1K lt now a p v=el→OwBm W0.heap.size Z.heap.size SX (Q13 kj (.slice o9 J c9) sj kp (.slice F I H) (.slice L G E) (.slice (some ⟨g9,f9,none⟩) s aF)) ⟨⟨kj,lj,sj⟩,⟨kp,lb,lr⟩,lt⟩→(∀i,i < el.length→∀j,j < Q0g.k→SX.cell? ⟨Y,f8+i * Q0g.k+j,none⟩=(Q0g.cs (el.getD i Q0g.d))[j]?)→Z.heap.size≤SX.heap.size→Y < SX.heap.size→w.heap.size≤Y→OrBr w.heap.size SX.heap.size SX (Q13 kj (.slice o9 J c9) sj kp (.slice F I H) (.slice L G E) (.slice (some ⟨Y,f8,none⟩) s C)) (Q4G ⟨⟨kj,lj,sj⟩,⟨kp,lb,lr⟩,lt⟩ now a p v)):=by
  refine Q01 ?_;intro SX Y f8 C el bE aX aM aA cg ck bY;obtain ⟨e1,e2,e3,e4⟩:=aN.out;rw [show Q4G ⟨⟨kj,lj,sj⟩,⟨kp,lb,lr⟩,lt⟩ now a p v=⟨⟨kj,lj,sj⟩,⟨kp,lb,lr⟩,el⟩ by rw [←aX];rfl]
  have e5:s=el.length:=by rw [bE,e4]
  obtain ⟨_,a9,be,_⟩:=Q9p aM;have cE:=a9.cap;obtain ⟨cT,bB,b1⟩:=a9;simp only [Value.agg.injEq,Array.mk.injEq,List.cons.injEq,and_true,true_and] at bB;subst bB
  have bM:w.heap.size≤W0.heap.size:=by omega
  exact ⟨_,_,_,_,rfl,(InRow.ri b1).mono bM cg,(fun n c h=> by injection h with h1 h2 h3;rw [←h3];exact capJm.one cE h1),be.mono bM cg,⟨some ⟨Y,f8,none⟩,C,by rw [e5],.inr ⟨Y,f8,rfl,bY,ck,aA⟩⟩⟩
 obtain ⟨ee,bu⟩:∃x,(Q0Z lt a p).1=x:=⟨_,rfl⟩;rw [bu] at bf a6 bb;simp only [bu];clear bu
 by_cases hy:0≤ee
 ·have cr:decide (0≤ee)=true:=by simp [hy]
  have bO:=a6.out hy;have bG:=Q01 bO;clear bO a6 bb
  have bs:Y < Z.heap.size∨Z.heap.size+1≤Y:=by omega
  have bn:Y < w.heap.size+1+1∨w.heap.size+1+1+1≤Y:=by omega
  have X5:(W4.setCell ⟨Z.heap.size,6,none⟩ (.slice (some ⟨Y,f8,none⟩) s C)).heap[Z.heap.size]? =some (.cells #[.int .i64 kj,.slice o9 J c9,.int .i64 sj,.int .i64 kp,.slice F I H,.slice L G E,.slice (some ⟨Y,f8,none⟩) s C] 34 (0,0)):=Q06 M.out 6 _;have s5:Stp Z.heap.size (Z.heap.size+1) W4 (W4.setCell ⟨Z.heap.size,6,none⟩ (.slice (some ⟨Y,f8,none⟩) s C)):=Q0x W4 Z.heap.size 6 _;obtain ⟨y0,y1,y2,y3,y4,y5,y6⟩:=cxb7v0v0 X5;have aB:=s5.cellP r0 (.inl A);have aR:=s5.cellP r1 (.inl A);have aH:=s5.cellP r2 (.inl A);have ay:=s5.cellP r3 (.inl A)
  have aU:=s5.cellP r4 (.inl A);have az:=s5.cellP r5 (.inl A);have aC:=s5.cellP r6 (.inl A);have bw:=Stp.frozen s5 X (by omega) (.inl A);have bj:=Stp.frozen s5 T (by omega) (.inl A);have bp:=Stp.frozen s5 P (by omega) (.inl A);have bg:=Stp.frozen s5 V (by omega) (.inl A);have bi:=Stp.frozen s5 N (by omega) (.inl A);have bk:=Stp.frozen s5 U (by omega) (.inl A);have bt:=Stp.frozen s5 O (by omega) (.inl A)
  have aO:Hid (OrBr w.heap.size (Q21 (W4.setCell ⟨Z.heap.size,6,none⟩ (.slice (some ⟨Y,f8,none⟩) s C)) (w.heap.size+1+1) (.int .i64 kj) (.slice o9 J c9) (.int .i64 sj) (.int .i64 kp) (.slice F I H) (.slice L G E) (.slice (some ⟨Y,f8,none⟩) s C)).heap.size (Q21 (W4.setCell ⟨Z.heap.size,6,none⟩ (.slice (some ⟨Y,f8,none⟩) s C)) (w.heap.size+1+1) (.int .i64 kj) (.slice o9 J c9) (.int .i64 sj) (.int .i64 kp) (.slice F I H) (.slice L G E) (.slice (some ⟨Y,f8,none⟩) s C)) (Q13 kj (.slice o9 J c9) sj kp (.slice F I H) (.slice L G E) (.slice (some ⟨Y,f8,none⟩) s C)) (Q4G ⟨⟨kj,lj,sj⟩,⟨kp,lb,lr⟩,lt⟩ now a p v)∧Below w.heap.size w (Q21 (W4.setCell ⟨Z.heap.size,6,none⟩ (.slice (some ⟨Y,f8,none⟩) s C)) (w.heap.size+1+1) (.int .i64 kj) (.slice o9 J c9) (.int .i64 sj) (.int .i64 kp) (.slice F I H) (.slice L G E) (.slice (some ⟨Y,f8,none⟩) s C))):=by
   have sR:=Q1b (W4.setCell ⟨Z.heap.size,6,none⟩ (.slice (some ⟨Y,f8,none⟩) s C)) (w.heap.size+1+1) (.int .i64 kj) (.slice o9 J c9) (.int .i64 sj) (.int .i64 kp) (.slice F I H) (.slice L G E) (.slice (some ⟨Y,f8,none⟩) s C)
   have al:(Q21 (W4.setCell ⟨Z.heap.size,6,none⟩ (.slice (some ⟨Y,f8,none⟩) s C)) (w.heap.size+1+1) (.int .i64 kj) (.slice o9 J c9) (.int .i64 sj) (.int .i64 kp) (.slice F I H) (.slice L G E) (.slice (some ⟨Y,f8,none⟩) s C)).heap.size=(W4.setCell ⟨Z.heap.size,6,none⟩ (.slice (some ⟨Y,f8,none⟩) s C)).heap.size:=Q0C _ _ _ _ _ _ _ _ _;have cC:=s5.size;have aM:=(D.out.step s5 (.inr (Kaq _))).step sR (.inl (by omega))
   have aA:∀i,i < el.length→∀j,j < Q0g.k→(Q21 (W4.setCell ⟨Z.heap.size,6,none⟩ (.slice (some ⟨Y,f8,none⟩) s C)) (w.heap.size+1+1) (.int .i64 kj) (.slice o9 J c9) (.int .i64 sj) (.int .i64 kp) (.slice F I H) (.slice L G E) (.slice (some ⟨Y,f8,none⟩) s C)).cell? ⟨Y,f8+i * Q0g.k+j,none⟩=(Q0g.cs (el.getD i Q0g.d))[j]? :=fun i hi j hj=> (Q3w sR (b:=Y) (j:=f8+i * Q0g.k+j) (by omega) bn).trans ((Q3w s5 (b:=Y) (j:=f8+i * Q0g.k+j) (by omega) bs).trans (aE.out i hi j hj))
   exact ⟨a7.out _ _ _ _ _ ch.out bG.out aM aA (by rw [al];omega) (by rw [al];omega) (by omega),Q0v (HB.out.trans (s5.below (by omega) HB.out.size)) (by omega) _ _ _ _ _ _ _⟩
  clear a7 X5 s5 D aE af M;go_wp2;refine bodyPost_ret (v:=Q13 kj (.slice o9 J c9) sj kp (.slice F I H) (.slice L G E) (.slice (some ⟨Y,f8,none⟩) s C)) (by simp [results,Tryz.results129,go_sem,r0,r1,r2,r3,r4,r5,r6,aB,aR,aH,ay,aU,az,aC]) rfl ⟨_,rfl,aO.out.1,aO.out.2⟩
 ·have cr:decide (0≤ee)=false:=by simp [hy]
  have ai:Hid _:=alx0v0v1 au;have aX:=bb.out (by omega);have a0:=Q01 aX;have b3:=bf.out (by omega);clear aX bb a6 bf aE;have ba:=Q01 (Q8T g9 f9 aF lt W4 (by omega) af.out (by have:=a8.out;omega));rw [aN.out.2.2.2] at ba;obtain ⟨sq,bJ⟩:∃x,Q2d lt=x:=⟨_,rfl⟩;rw [bJ] at ba a0 b3;clear bJ;go_wp2_with fail;refine (ba.out).mono ?_;rintro e v3 ⟨rfl,f⟩;have c0:=f.size;replace M:=Q01 ((f.block _ (by omega)).trans M.out);replace ai:=Q01 ((f.block _ (by omega)).trans ai.out);replace D:=Q01 (D.out.step (Stp.of (lo:=0) (hi:=0) f) (.inl (Kcq _)))
  replace af:Hid (∀i,i < lt.length→∀j,j < Q0g.k→v3.cell? ⟨g9,f9+i * Q0g.k+j,none⟩=(Q0g.cs (lt.getD i Q0g.d))[j]?):=Q01 (fun i hi j hj=> (f.cell (p:=⟨g9,f9+i * Q0g.k+j,none⟩) (show g9 < W4.heap.size by omega)).trans (af.out i hi j hj));clear ba;replace z0:=bC f z0 y;replace z1:=bC f z1 y;replace z2:=bC f z2 y;replace z3:=bC f z3 y;replace z4:=bC f z4 y;replace z5:=bC f z5 y;replace z6:=bC f z6 y;replace y:=Kbq y f.size;replace x0:=bC f x0 zx;replace x1:=bC f x1 zx;replace zx:=Kbq zx f.size;replace r0:=bC f r0 m;replace r1:=bC f r1 m;replace r2:=bC f r2 m
  replace r3:=bC f r3 m;replace r4:=bC f r4 m;replace r5:=bC f r5 m;replace r6:=bC f r6 m;replace X:=bF f X m;replace T:=bF f T m;replace P:=bF f P m;replace V:=bF f V m;replace N:=bF f N m;replace U:=bF f U m;replace O:=bF f O m;replace m:=Kbq m f.size;replace u0:=bC f u0 r;replace u1:=bC f u1 r;replace u2:=bC f u2 r;replace u3:=bC f u3 r;replace u4:=bC f u4 r;replace u5:=bC f u5 r;replace u6:=bC f u6 r;replace aa:=bF f aa r;replace ad:=bF f ad r;replace ag:=bF f ag r;replace ae:=bF f ae r
  replace ac:=bF f ac r;replace ab:=bF f ab r;replace ah:=bF f ah r;replace r:=Kbq r f.size;replace t0:=bC f t0 zt;replace aj:=bF f aj zt;replace zt:=Kbq zt f.size;replace HB:=Q01 (HB.out.trans (f.mono HB.out.size));clear f;obtain ⟨W6,aZ⟩:∃W,(v3.alloc (.cells #[.bool sq.u,.int .i64 sq.a,.int .i64 sq.p,.int .i64 sq.v,.int .i64 sq.t] 101))=W:=⟨_,rfl⟩;have g:=alb0v0v1 aZ;replace z0:=bC g z0 y;replace z1:=bC g z1 y;replace z2:=bC g z2 y;replace z3:=bC g z3 y;replace z4:=bC g z4 y;replace z5:=bC g z5 y;replace z6:=bC g z6 y
  replace y:=Kbq y g.size;replace x0:=bC g x0 zx;replace x1:=bC g x1 zx;replace zx:=Kbq zx g.size;replace r0:=bC g r0 m;replace r1:=bC g r1 m;replace r2:=bC g r2 m;replace r3:=bC g r3 m;replace r4:=bC g r4 m;replace r5:=bC g r5 m;replace r6:=bC g r6 m;replace X:=bF g X m;replace T:=bF g T m;replace P:=bF g P m;replace V:=bF g V m;replace N:=bF g N m;replace U:=bF g U m;replace O:=bF g O m;replace m:=Kbq m g.size;replace u0:=bC g u0 r;replace u1:=bC g u1 r
  replace u2:=bC g u2 r;replace u3:=bC g u3 r;replace u4:=bC g u4 r;replace u5:=bC g u5 r;replace u6:=bC g u6 r;replace aa:=bF g aa r;replace ad:=bF g ad r;replace ag:=bF g ag r;replace ae:=bF g ae r;replace ac:=bF g ac r;replace ab:=bF g ab r;replace ah:=bF g ah r;replace r:=Kbq r g.size;replace t0:=bC g t0 zt;replace aj:=bF g aj zt;replace zt:=Kbq zt g.size;replace HB:=Q01 (HB.out.trans (g.mono HB.out.size));clear g;have zq:=alz0v0v1 aZ;obtain ⟨q0,q1,q2,q3,q4⟩:=alc5v0v1 aZ
  have cW:v3.heap.size < W6.heap.size:=zq;have aI:=alb0v0v1 aZ;replace M:=Q01 ((aI.block _ (by omega)).trans M.out);replace ai:=Q01 ((aI.block _ (by omega)).trans ai.out);replace D:=Q01 (D.out.step (Stp.of (lo:=0) (hi:=0) aI) (.inl (Kcq _)));replace af:Hid (∀i,i < lt.length→∀j,j < Q0g.k→W6.cell? ⟨g9,f9+i * Q0g.k+j,none⟩=(Q0g.cs (lt.getD i Q0g.d))[j]?):=Q01 (fun i hi j hj=> (aI.cell (p:=⟨g9,f9+i * Q0g.k+j,none⟩) (show g9 < v3.heap.size by omega)).trans (af.out i hi j hj));clear aI;have aw:=Q01 (Q7E g9 f9 aF lt sq.a sq.p W6 a5.out a8.out b3 cA.out (by omega) af.out)
  rw [aN.out.2.2.2] at aw;obtain ⟨dl,bl⟩:∃x,Q43 lt sq.a sq.p=x:=⟨_,rfl⟩;obtain ⟨ed,bS⟩:∃x,(Q0Z lt sq.a sq.p).2=x:=⟨_,rfl⟩;have a1:=Q01 (show dl.length=lt.length by rw [←bl];exact Qaf _ _ _);rw [bl] at aw a0;rw [bS] at aw;clear bl bS;go_wp2_with fail;refine (aw.out).mono ?_;rintro e v4 ⟨g7,f7,av,rfl,cj,ap,f,cG⟩;have aW:=Q01 ap;have c1:=f.size;replace M:=Q01 ((f.block _ (by omega)).trans M.out);replace ai:=Q01 ((f.block _ (by omega)).trans ai.out);replace D:=Q01 (D.out.step (Stp.of (lo:=0) (hi:=0) f) (.inl (Kcq _)));clear aw ap af
  replace z0:=bC f z0 y;replace z1:=bC f z1 y;replace z2:=bC f z2 y;replace z3:=bC f z3 y;replace z4:=bC f z4 y;replace z5:=bC f z5 y;replace z6:=bC f z6 y;replace y:=Kbq y f.size;replace x0:=bC f x0 zx;replace x1:=bC f x1 zx;replace zx:=Kbq zx f.size;replace r0:=bC f r0 m;replace r1:=bC f r1 m;replace r2:=bC f r2 m;replace r3:=bC f r3 m;replace r4:=bC f r4 m;replace r5:=bC f r5 m;replace r6:=bC f r6 m;replace X:=bF f X m;replace T:=bF f T m;replace P:=bF f P m;replace V:=bF f V m;replace N:=bF f N m;replace U:=bF f U m
  replace O:=bF f O m;replace m:=Kbq m f.size;replace u0:=bC f u0 r;replace u1:=bC f u1 r;replace u2:=bC f u2 r;replace u3:=bC f u3 r;replace u4:=bC f u4 r;replace u5:=bC f u5 r;replace u6:=bC f u6 r;replace aa:=bF f aa r;replace ad:=bF f ad r;replace ag:=bF f ag r;replace ae:=bF f ae r;replace ac:=bF f ac r;replace ab:=bF f ab r;replace ah:=bF f ah r;replace r:=Kbq r f.size;replace t0:=bC f t0 zt;replace aj:=bF f aj zt;replace zt:=Kbq zt f.size;replace q0:=bC f q0 zq;replace q1:=bC f q1 zq;replace q2:=bC f q2 zq
  replace q3:=bC f q3 zq;replace q4:=bC f q4 zq;replace zq:=Kbq zq f.size;replace HB:=Q01 (HB.out.trans (f.mono HB.out.size));clear f
  have am:w.heap.size < v2.heap.size:=by omega
  have a2:w.heap.size+1 < v2.heap.size:=by omega
  have B:w.heap.size+1+1 < v2.heap.size:=by omega
  have z:Z.heap.size < v2.heap.size:=by omega
  have aQ:v2.heap.size+1≤v3.heap.size:=by omega
  obtain ⟨W7,bT⟩:∃W,v4.setCell ⟨v2.heap.size,0,none⟩ (.slice (some ⟨g7,f7,none⟩) s av)=W:=⟨_,rfl⟩
  have s7:Stp v2.heap.size (v2.heap.size+1) v4 W7:=by rw [←bT];exact Q0x v4 v2.heap.size 0 _
  have X7:W7.heap[v2.heap.size]? =some (.cells #[.slice (some ⟨g7,f7,none⟩) s av] 32 (0,0)):=by rw [←bT];exact Q06 ai.out 0 _
  have c7:=s7.size
  have b4:g7 < v2.heap.size∨v2.heap.size+1≤g7:=by omega
  replace aW:Hid (∀i,i < dl.length→∀j,j < Q0g.k→W7.cell? ⟨g7,f7+i * Q0g.k+j,none⟩=(Q0g.cs (dl.getD i Q0g.d))[j]?):=Q01 (fun i hi j hj=> (Q3w s7 (b:=g7) (j:=f7+i * Q0g.k+j) cj b4).trans (aW.out i hi j hj));replace M:=Q01 (s7.box M.out (.inl (by omega)));replace D:=Q01 (D.out.step s7 (.inr (by omega)));replace ai:=Q01 X7;have bz:=Q01 (Q00 X7 0 _ rfl);have b9:=Q01 (Q02 X7 0);clear X7;have aP:=Q01 (Q6q g7 f7 av dl a p v (now+50) W7 (by rw [a1.out];exact a5.out) (by rw [a1.out];have:=a8.out;omega) bV (by omega) aW.out);rw [a1.out,aN.out.2.2.2] at aP
  obtain ⟨aL,aJ⟩:∃x,Q4c dl a p v (now+50)=x:=⟨_,rfl⟩;obtain ⟨cU,bc⟩:∃x,(Q0Z dl a p).1=x:=⟨_,rfl⟩;have cu:=Q01 (show aL.length=lt.length by rw [←aJ,Q97];exact a1.out);rw [aJ] at aP a0;rw [bc] at aP;clear aJ bc;have t9:W7.cell? ⟨v2.heap.size,0,none⟩=some (.slice (some ⟨g7,f7,none⟩) s av):=bz.out;have b8:=Q01 s7;have cc:=s7.cellP x0 (.inl a2);have bP:=s7.cellP x1 (.inl a2);clear s7;go_wp2_with fail;have s7:=b8.out;clear t9 cc bP;replace z0:=s7.cellP z0 (.inl am);replace z1:=s7.cellP z1 (.inl am);replace z2:=s7.cellP z2 (.inl am)
  replace z3:=s7.cellP z3 (.inl am);replace z4:=s7.cellP z4 (.inl am);replace z5:=s7.cellP z5 (.inl am);replace z6:=s7.cellP z6 (.inl am);replace y:=Kbq y s7.size;replace x0:=s7.cellP x0 (.inl a2);replace x1:=s7.cellP x1 (.inl a2);replace zx:=Kbq zx s7.size;replace r0:=s7.cellP r0 (.inl B);replace r1:=s7.cellP r1 (.inl B);replace r2:=s7.cellP r2 (.inl B);replace r3:=s7.cellP r3 (.inl B);replace r4:=s7.cellP r4 (.inl B);replace r5:=s7.cellP r5 (.inl B);replace r6:=s7.cellP r6 (.inl B);replace X:=Stp.frozen s7 X m (.inl B);replace T:=Stp.frozen s7 T m (.inl B)
  replace P:=Stp.frozen s7 P m (.inl B);replace V:=Stp.frozen s7 V m (.inl B);replace N:=Stp.frozen s7 N m (.inl B);replace U:=Stp.frozen s7 U m (.inl B);replace O:=Stp.frozen s7 O m (.inl B);replace m:=Kbq m s7.size;replace u0:=s7.cellP u0 (.inl z);replace u1:=s7.cellP u1 (.inl z);replace u2:=s7.cellP u2 (.inl z);replace u3:=s7.cellP u3 (.inl z);replace u4:=s7.cellP u4 (.inl z);replace u5:=s7.cellP u5 (.inl z);replace u6:=s7.cellP u6 (.inl z);replace aa:=Stp.frozen s7 aa r (.inl z);replace ad:=Stp.frozen s7 ad r (.inl z)
  replace ag:=Stp.frozen s7 ag r (.inl z);replace ae:=Stp.frozen s7 ae r (.inl z);replace ac:=Stp.frozen s7 ac r (.inl z);replace ab:=Stp.frozen s7 ab r (.inl z);replace ah:=Stp.frozen s7 ah r (.inl z);replace r:=Kbq r s7.size;replace q0:=s7.cellP q0 (.inr aQ);replace q1:=s7.cellP q1 (.inr aQ);replace q2:=s7.cellP q2 (.inr aQ);replace q3:=s7.cellP q3 (.inr aQ);replace q4:=s7.cellP q4 (.inr aQ);replace zq:=Kbq zq s7.size;replace zt:=Kbq zt s7.size;replace HB:=Q01 (HB.out.trans (s7.below (by omega) HB.out.size));clear t0 aj
  have t0:W7.cell? ⟨v2.heap.size,0,none⟩=some (.slice (some ⟨g7,f7,none⟩) s av):=bz.out;have aj:=b9.out;clear bz b9 s7 b8;refine (aP.out).mono ?_;rintro e v5 ⟨g6,f6,R,rfl,cq,aq,f,cK⟩;have a4:=Q01 aq;have c3:=f.size;replace M:=Q01 ((f.block _ (by omega)).trans M.out);replace ai:=Q01 ((f.block _ (by omega)).trans ai.out);replace D:=Q01 (D.out.step (Stp.of (lo:=0) (hi:=0) f) (.inl (Kcq _)));clear aP aq aW;replace z0:=bC f z0 y;replace z1:=bC f z1 y;replace z2:=bC f z2 y;replace z3:=bC f z3 y;replace z4:=bC f z4 y;replace z5:=bC f z5 y
  replace z6:=bC f z6 y;replace y:=Kbq y f.size;replace x0:=bC f x0 zx;replace x1:=bC f x1 zx;replace zx:=Kbq zx f.size;replace r0:=bC f r0 m;replace r1:=bC f r1 m;replace r2:=bC f r2 m;replace r3:=bC f r3 m;replace r4:=bC f r4 m;replace r5:=bC f r5 m;replace r6:=bC f r6 m;replace X:=bF f X m;replace T:=bF f T m;replace P:=bF f P m;replace V:=bF f V m;replace N:=bF f N m;replace U:=bF f U m;replace O:=bF f O m;replace m:=Kbq m f.size;replace u0:=bC f u0 r;replace u1:=bC f u1 r;replace u2:=bC f u2 r;replace u3:=bC f u3 r
  replace u4:=bC f u4 r;replace u5:=bC f u5 r;replace u6:=bC f u6 r;replace aa:=bF f aa r;replace ad:=bF f ad r;replace ag:=bF f ag r;replace ae:=bF f ae r;replace ac:=bF f ac r;replace ab:=bF f ab r;replace ah:=bF f ah r;replace r:=Kbq r f.size;replace t0:=bC f t0 zt;replace aj:=bF f aj zt;replace zt:=Kbq zt f.size;replace q0:=bC f q0 zq;replace q1:=bC f q1 zq;replace q2:=bC f q2 zq;replace q3:=bC f q3 zq;replace q4:=bC f q4 zq;replace zq:=Kbq zq f.size;replace HB:=Q01 (HB.out.trans (f.mono HB.out.size));clear f
  obtain ⟨W8,b5⟩:∃W,v5.setCell ⟨v2.heap.size,0,none⟩ (.slice (some ⟨g6,f6,none⟩) s R)=W:=⟨_,rfl⟩
  have s8:Stp v2.heap.size (v2.heap.size+1) v5 W8:=by rw [←b5];exact Q0x v5 v2.heap.size 0 _
  have X8:W8.heap[v2.heap.size]? =some (.cells #[.slice (some ⟨g6,f6,none⟩) s R] 32 (0,0)):=by rw [←b5];exact Q06 ai.out 0 _
  have c6:=s8.size
  have bH:g6 < v2.heap.size∨v2.heap.size+1≤g6:=by omega
  replace a4:Hid (∀i,i < aL.length→∀j,j < Q0g.k→W8.cell? ⟨g6,f6+i * Q0g.k+j,none⟩=(Q0g.cs (aL.getD i Q0g.d))[j]?):=Q01 (fun i hi j hj=> (Q3w s8 (b:=g6) (j:=f6+i * Q0g.k+j) cq bH).trans (a4.out i hi j hj));replace M:=Q01 (s8.box M.out (.inl (by omega)));replace D:=Q01 (D.out.step s8 (.inr (by omega)));have t8:=Q00 X8 0 _ rfl;have cS:=Q02 X8 0;clear X8 ai;have cJ:=s8.cellP u0 (.inl z);have cN:=s8.cellP u1 (.inl z);have cO:=s8.cellP u2 (.inl z);have cI:=s8.cellP u3 (.inl z);have cL:=s8.cellP u4 (.inl z);have cF:=s8.cellP u5 (.inl z)
  have cH:=s8.cellP u6 (.inl z);have cw:=Stp.frozen s8 aa r (.inl z);have cx:=Stp.frozen s8 ad r (.inl z);have cB:=Stp.frozen s8 ag r (.inl z);have co:=Stp.frozen s8 ae r (.inl z);have cz:=Stp.frozen s8 ac r (.inl z);have cp:=Stp.frozen s8 ab r (.inl z);have cy:=Stp.frozen s8 ah r (.inl z);have bK:=s8.cellP r0 (.inl B);have bD:=s8.cellP r1 (.inl B);have bU:=s8.cellP r2 (.inl B);have cd:=s8.cellP r3 (.inl B);have bL:=s8.cellP r4 (.inl B);have ca:=s8.cellP r5 (.inl B);have bI:=s8.cellP r6 (.inl B)
  have bA:=Stp.frozen s8 X m (.inl B);have bx:=Stp.frozen s8 T m (.inl B);have bq:=Stp.frozen s8 P m (.inl B);have bo:=Stp.frozen s8 V m (.inl B);have bv:=Stp.frozen s8 N m (.inl B);have bm:=Stp.frozen s8 U m (.inl B);have bh:=Stp.frozen s8 O m (.inl B);have bN:=Q01 (HB.out.trans (s8.below (by omega) HB.out.size));have c2:=Kbq m s8.size;clear s8
  have bs:g6 < Z.heap.size∨Z.heap.size+1≤g6:=by omega
  have bn:g6 < w.heap.size+1+1∨w.heap.size+1+1+1≤g6:=by omega
  have X5:(W8.setCell ⟨Z.heap.size,6,none⟩ (.slice (some ⟨g6,f6,none⟩) s R)).heap[Z.heap.size]? =some (.cells #[.int .i64 kj,.slice o9 J c9,.int .i64 sj,.int .i64 kp,.slice F I H,.slice L G E,.slice (some ⟨g6,f6,none⟩) s R] 34 (0,0)):=Q06 M.out 6 _;have s5:Stp Z.heap.size (Z.heap.size+1) W8 (W8.setCell ⟨Z.heap.size,6,none⟩ (.slice (some ⟨g6,f6,none⟩) s R)):=Q0x W8 Z.heap.size 6 _;obtain ⟨y0,y1,y2,y3,y4,y5,y6⟩:=cxb7v0v0 X5;have aB:=s5.cellP bK (.inl A);have aR:=s5.cellP bD (.inl A);have aH:=s5.cellP bU (.inl A)
  have ay:=s5.cellP cd (.inl A);have aU:=s5.cellP bL (.inl A);have az:=s5.cellP ca (.inl A);have aC:=s5.cellP bI (.inl A);have bw:=Stp.frozen s5 bA (by omega) (.inl A);have bj:=Stp.frozen s5 bx (by omega) (.inl A);have bp:=Stp.frozen s5 bq (by omega) (.inl A);have bg:=Stp.frozen s5 bo (by omega) (.inl A);have bi:=Stp.frozen s5 bv (by omega) (.inl A);have bk:=Stp.frozen s5 bm (by omega) (.inl A);have bt:=Stp.frozen s5 bh (by omega) (.inl A)
  have aO:Hid (OrBr w.heap.size (Q21 (W8.setCell ⟨Z.heap.size,6,none⟩ (.slice (some ⟨g6,f6,none⟩) s R)) (w.heap.size+1+1) (.int .i64 kj) (.slice o9 J c9) (.int .i64 sj) (.int .i64 kp) (.slice F I H) (.slice L G E) (.slice (some ⟨g6,f6,none⟩) s R)).heap.size (Q21 (W8.setCell ⟨Z.heap.size,6,none⟩ (.slice (some ⟨g6,f6,none⟩) s R)) (w.heap.size+1+1) (.int .i64 kj) (.slice o9 J c9) (.int .i64 sj) (.int .i64 kp) (.slice F I H) (.slice L G E) (.slice (some ⟨g6,f6,none⟩) s R)) (Q13 kj (.slice o9 J c9) sj kp (.slice F I H) (.slice L G E) (.slice (some ⟨g6,f6,none⟩) s R)) (Q4G ⟨⟨kj,lj,sj⟩,⟨kp,lb,lr⟩,lt⟩ now a p v)∧Below w.heap.size w (Q21 (W8.setCell ⟨Z.heap.size,6,none⟩ (.slice (some ⟨g6,f6,none⟩) s R)) (w.heap.size+1+1) (.int .i64 kj) (.slice o9 J c9) (.int .i64 sj) (.int .i64 kp) (.slice F I H) (.slice L G E) (.slice (some ⟨g6,f6,none⟩) s R))):=by
   have sR:=Q1b (W8.setCell ⟨Z.heap.size,6,none⟩ (.slice (some ⟨g6,f6,none⟩) s R)) (w.heap.size+1+1) (.int .i64 kj) (.slice o9 J c9) (.int .i64 sj) (.int .i64 kp) (.slice F I H) (.slice L G E) (.slice (some ⟨g6,f6,none⟩) s R)
   have al:(Q21 (W8.setCell ⟨Z.heap.size,6,none⟩ (.slice (some ⟨g6,f6,none⟩) s R)) (w.heap.size+1+1) (.int .i64 kj) (.slice o9 J c9) (.int .i64 sj) (.int .i64 kp) (.slice F I H) (.slice L G E) (.slice (some ⟨g6,f6,none⟩) s R)).heap.size=(W8.setCell ⟨Z.heap.size,6,none⟩ (.slice (some ⟨g6,f6,none⟩) s R)).heap.size:=Q0C _ _ _ _ _ _ _ _ _;have cC:=s5.size;have aM:=(D.out.step s5 (.inr (Kaq _))).step sR (.inl (by omega))
   have aA:∀i,i < aL.length→∀j,j < Q0g.k→(Q21 (W8.setCell ⟨Z.heap.size,6,none⟩ (.slice (some ⟨g6,f6,none⟩) s R)) (w.heap.size+1+1) (.int .i64 kj) (.slice o9 J c9) (.int .i64 sj) (.int .i64 kp) (.slice F I H) (.slice L G E) (.slice (some ⟨g6,f6,none⟩) s R)).cell? ⟨g6,f6+i * Q0g.k+j,none⟩=(Q0g.cs (aL.getD i Q0g.d))[j]? :=fun i hi j hj=> (Q3w sR (b:=g6) (j:=f6+i * Q0g.k+j) (by omega) bn).trans ((Q3w s5 (b:=g6) (j:=f6+i * Q0g.k+j) (by omega) bs).trans (a4.out i hi j hj))
   exact ⟨a7.out _ _ _ _ _ cu.out a0.out aM aA (by rw [al];omega) (by rw [al];omega) (by omega),Q0v (bN.out.trans (s5.below (by omega) bN.out.size)) (by omega) _ _ _ _ _ _ _⟩
  clear a7 X5 s5 D a4 M;go_wp2;refine bodyPost_ret (v:=Q13 kj (.slice o9 J c9) sj kp (.slice F I H) (.slice L G E) (.slice (some ⟨g6,f6,none⟩) s R)) (by simp [results,Tryz.results129,go_sem,r0,r1,r2,r3,r4,r5,r6,aB,aR,aH,ay,aU,az,aC]) rfl ⟨_,rfl,aO.out.1,aO.out.2⟩
theorem Q74 (l:List Sl):∀k,k≤l.length→(Q4g l k=sl0∧∀j,j < k→(l.getD j sl0).u=false)∨∃j,j < k∧Q4g l k=l.getD j sl0∧(l.getD j sl0).u=true
 |0,_=> .inl ⟨rfl,fun j d=> absurd d (Nat.not_lt_zero _)⟩
 |k+1,hk=> by
  have c:=Q74 l k (by omega);rw [Q59 (by omega)]
  cases hu:(l.getD k sl0).u with
  |false=>
   rw [Q3W hu]
   rcases c with ⟨a,h2⟩|⟨j,a,h2,b⟩
   ·refine .inl ⟨a,fun j d=> ?_⟩
    by_cases e:j=k
    ·subst e;exact hu
    ·exact h2 j (by omega)
   ·exact .inr ⟨j,by omega,h2,b⟩
  |true=>
   rcases c with ⟨a,h2⟩|⟨j,a,h2,b⟩
   ·rw [a,Q3n hu rfl];exact .inr ⟨k,by omega,rfl,hu⟩
   ·rw [h2]
    by_cases ht:(l.getD k sl0).t < (l.getD j sl0).t
    ·rw [Q3S hu ht];exact .inr ⟨k,by omega,rfl,hu⟩
    ·rw [Q3Y b ht];exact .inr ⟨j,by omega,rfl,b⟩
theorem QeM {l:List Sl} {a p:Int} (b:Q0c l=true) (h:(Q0Z l a p).1 < 0):Q0h (Q2d l).a (Q2d l).p=true:=by
 have m:=(Q07.1 b).1;have d:=Q1o (show 0 < l.length by omega) a p
 have c:(l.getD (Q0S l.length a p) sl0).u=true:=by
  cases c:(l.getD (Q0S l.length a p) sl0).u with
  |true=> rfl
  |false=>
   obtain ⟨n,i⟩:∃n,l.length=n+1:=⟨l.length - 1,by omega⟩
   have e:Q0Z l a p=((Q0S l.length a p:Int),false):=by
    unfold Q0Z;have:=Q2I (a:=a) (p:=p) (f:=n) c;rw [←i] at this;exact this
   rw [e] at h;dsimp only at h;omega
 rcases Q74 l l.length (Kaq _) with ⟨_,h2⟩|⟨j,k,h2,g⟩
 ·rw [h2 _ d] at c;cases c
 ·show Q0h (Q4g l l.length).a (Q4g l l.length).p=true
  rw [h2];exact Q2j b j k g
def Q5x (m:Bm) (now a p v:Int):Bool:=Q2h m && ((decide (0≤now) && decide (now≤100000)) && (Q0h a p && (decide (0≤v) && decide (v < 6))))
def Q2p (m:Bm) (now a p v:Int):Bm:=if Q5x m now a p v=true then Q4G m now a p v else bm0
theorem Qde (l:List Sl) (now a p v:Int):(Q1K l now a p v).length=l.length:=by unfold Q1K;split <;> simp [Q97,Qaf]
structure DInv (k B R:Nat) (w0 wr:World) (m:List Sl) (b off c:Nat):Prop where
 ok:Q0c m=true
 cur:isCur k wr
 box:wr.heap[B]? =some (.cells #[.slice (some ⟨b,off,none⟩) m.length c] 32 (0,0))
 res:wr.heap[R]? =some (.cells #[.slice none 0 0] 32 (0,0))
 lt:b < wr.heap.size
 ge:w0.heap.size≤b
 rd:(∀i,i < m.length→∀j,j < Q0g.k→wr.cell? ⟨b,off+i * Q0g.k+j,none⟩=(Q0g.cs (m.getD i Q0g.d))[j]?)
 gr:w0.grownBy wr (some k)
theorem DInv.draw {k B R:Nat} {d wr x:World} {m:List Sl} {b off c:Nat} (h:DInv k B R d wr m b off c) (t:k < d.heap.size) (r:d.heap.size≤B) (s:d.heap.size≤R) (f:wr.drew.grownBy x (some k)) (q:isCur k x):DInv k B R d x m b off c:=by
 have a:wr.grownBy x (some k):=⟨f.os,f.tape,f.output,f.size,f.block⟩;have l:=(Array.getElem?_eq_some_iff.1 h.box).1;have g:=(Array.getElem?_eq_some_iff.1 h.res).1;have n:=h.ge;refine ⟨h.ok,q,(a.block B l (by simp;omega)).trans h.box,(a.block R g (by simp;omega)).trans h.res,Kbq h.lt a.size,h.ge,fun i hi j p=> (Q3D a h.lt (by omega)).trans (h.rd i hi j p),Q05 h.gr a⟩
theorem DInv.draw0 {k B R:Nat} {a wr x:World} {m:List Sl} {b off c:Nat} (h:DInv k B R a wr m b off c) (i:k < a.heap.size) (f:a.heap.size≤B) (g:a.heap.size≤R) (d:wr.grownBy x (some k)) (j:isCur k x):DInv k B R a x m b off c:=
 h.draw i f g ⟨d.os,d.tape,d.output,d.size,d.block⟩ j
theorem DInv.cell {k B R:Nat} {w0 wr:World} {m:List Sl} {b off c:Nat} (h:DInv k B R w0 wr m b off c):wr.cell? ⟨B,0,none⟩=some (.slice (some ⟨b,off,none⟩) m.length c):=Q0m h.box 0 _ rfl
theorem DInv.curd {k B R:Nat} {w0 wr:World} {m:List Sl} {b off c:Nat} (h:DInv k B R w0 wr m b off c):isCur k wr.drew:=h.cur.below (Below.drew (Below.refl _ _))
theorem DInv.size {k B R:Nat} {w0 wr:World} {m:List Sl} {b off c:Nat} (h:DInv k B R w0 wr m b off c) (hk:k < w0.heap.size):k < wr.heap.size:=Kbq hk h.gr.size
theorem DInv.store {k B R:Nat} {l x y:World} {m g:List Sl} {b off c f a c2:Nat} (h:DInv k B R l x m b off c) (L:k < l.heap.size) (E:l.heap.size≤B) (I:R < B) (J:l.heap.size≤R) (hm:Q0c g=true) (s:Below x.heap.size x y) (w:f < y.heap.size) (q:(∀i,i < g.length→∀j,j < Q0g.k→y.cell? ⟨f,a+i * Q0g.k+j,none⟩=(Q0g.cs (g.getD i Q0g.d))[j]?)) (D:f=b∨x.heap.size≤f):DInv k B R l (y.setCell ⟨B,0,none⟩ (.slice (some ⟨f,a,none⟩) g.length c2)) g f a c2:=by
 have C:=(Array.getElem?_eq_some_iff.1 h.box).1;have z:=(Array.getElem?_eq_some_iff.1 h.res).1;have r:=(s.block B C).trans h.box;have t:=(s.block R z).trans h.res;have A:f≠B:=Qdf (by have:=(Q07.1 hm).1;omega) r q;have v:=h.gr.size;have H:=h.ge;have u:Below (k+1) x (y.setCell ⟨B,0,none⟩ (.slice (some ⟨f,a,none⟩) g.length c2)):=(s.mono (by omega)).setCell (p:=⟨B,0,none⟩) (show k+1≤B by omega) _
 refine ⟨hm,h.cur.below u,Q4U y B 0 _ _ _ r,(Below.heap_setCell y ⟨B,0,none⟩ _ R (by simp;omega)).trans t,by simpa using w,by omega,fun i hi j G=> (World.cell?_setCell_far _ _ _ _ (fun e=> A e.symm)).trans (q i hi j G), ?_⟩;have n:Below l.heap.size x (y.setCell ⟨B,0,none⟩ (.slice (some ⟨f,a,none⟩) g.length c2)):=(s.mono v).setCell (p:=⟨B,0,none⟩) E _;exact ⟨n.os.trans h.gr.os,n.tape.trans h.gr.tape,n.output.trans h.gr.output,Kdq h.gr.size n.size,fun i hi F=> (n.block i hi).trans (h.gr.block i hi F)⟩
theorem Q5f {a p:Int} (ha:1≤a∧a≤3) (hp:80≤p∧p≤82):Q0h a p=true:=Q2l.2 (by omega)
theorem Q8U {l:List Sl} {a p:Int} (h:Q0c l=true):Q0c (Q43 l a p)=true:=by
 have b:=(Q07.1 h).1
 rcases Q1f l (by omega) a p with e|⟨i,hi,⟨e,_⟩|⟨e,_⟩⟩
 ·rw [Q6S (by rw [e])];exact h
 ·rw [Q6S (by rw [e])];exact h
 ·rw [Q5H e];exact Q8q h hi
theorem DInv.boxlt {k B R:Nat} {w0 wr:World} {m:List Sl} {b off c:Nat} (h:DInv k B R w0 wr m b off c):B < wr.heap.size:=(Array.getElem?_eq_some_iff.1 h.box).1
theorem DInv.frz {k B R:Nat} {w0 wr:World} {m:List Sl} {b off c:Nat} (h:DInv k B R w0 wr m b off c):wr.frozen? ⟨B,0,none⟩=false:=Q24 h.box 0
theorem DInv.dropped {k B:Nat} {w x y:World} {m:List Sl} {a p:Int} {b off c g f c2:Nat} (h:DInv k B w.heap.size w x m b off c) (t:k < w.heap.size) (r:w.heap.size < B) (n:g < y.heap.size) (q:(∀i,i < (Q43 m a p).length→∀j,j < Q0g.k→y.cell? ⟨g,f+i * Q0g.k+j,none⟩=(Q0g.cs ((Q43 m a p).getD i Q0g.d))[j]?)) (s:Below x.heap.size x y) (l:g=b∨x.heap.size≤g):DInv k B w.heap.size w (y.setCell ⟨B,0,none⟩ (.slice (some ⟨g,f,none⟩) m.length c2)) (Q43 m a p) g f c2:=by
 have h2:=h.store (c2:=c2) t (Nat.le_of_lt r) r (Kaq _) (Q8U h.ok) s n q l
 rwa [QaN] at h2
theorem DInv.putted {k B:Nat} {w x y:World} {m:List Sl} {a p v t:Int} {b off c g f c2:Nat} (h:DInv k B w.heap.size w x m b off c) (C:k < w.heap.size) (u:w.heap.size < B) (z:Q0h a p=true) (r:0≤v) (hv:v < 6) (n:0≤t) (D:t < 40) (q:g < y.heap.size) (s:(∀i,i < (Q4c m a p v t).length→∀j,j < Q0g.k→y.cell? ⟨g,f+i * Q0g.k+j,none⟩=(Q0g.cs ((Q4c m a p v t).getD i Q0g.d))[j]?)) (A:Below x.heap.size x y) (l:g=b∨x.heap.size≤g):DInv k B w.heap.size w (y.setCell ⟨B,0,none⟩ (.slice (some ⟨g,f,none⟩) m.length c2)) (Q4c m a p v t) g f c2:=by
 have h2:=h.store (c2:=c2) C (Nat.le_of_lt u) u (Kaq _) (Q7Z h.ok z ⟨r,by omega⟩ ⟨n,by omega⟩) A q s l
 rwa [Q82] at h2
theorem DInv.ended {k B:Nat} {w x y:World} {m:List Sl} {b off c:Nat} (h:DInv k B w.heap.size w x m b off c) (g:k < w.heap.size) (f:Below x.heap.size x y) (v:Value):isCur k (y.setCell ⟨w.heap.size,0,none⟩ v)∧w.grownBy (y.setCell ⟨w.heap.size,0,none⟩ v) (some k):=by
 have hs:=h.gr.size;have a:Below w.heap.size x (y.setCell ⟨w.heap.size,0,none⟩ v):=(f.mono hs).setCell (p:=⟨w.heap.size,0,none⟩) (Kaq _) v;refine ⟨h.cur.below (a.mono g),a.os.trans h.gr.os,a.tape.trans h.gr.tape,a.output.trans h.gr.output,Kdq hs a.size,fun i hi d=> (a.block i hi).trans (h.gr.block i hi d)⟩
theorem Qhq {n:Int} (b:1≤n) (h2:n≤16):Q0c (Q8m n)=true:=by
 have e:Q8m n=List.replicate n.toNat sl0:=by unfold Q8m;rw [if_pos ⟨b,h2⟩]
 rw [e];refine Q07.2 ⟨by rw [List.length_replicate];omega,by rw [List.length_replicate];omega,fun i hi=> ?_⟩;rw [List.length_replicate] at hi
 have a:(List.replicate n.toNat sl0).getD i sl0=sl0:=by simp [List.getD_eq_getElem?_getD,List.getElem?_replicate,hi]
 exact Q4H (by rw [a] <;> rfl) (by rw [a] <;> rfl)
theorem Qdi (k:Nat) (w:World) (hc:isCur k w) (C:k < w.heap.size):
  Calls Tryz.prog 136 #[.pointer (some ⟨k,0,none⟩)] w fun e w'=> ∃v' m,e=.returned v'∧Q0c m=true∧InTb w.heap.size w'.heap.size w' v' m∧isCur k w'∧w.grownBy w' (some k):=by
 obtain ⟨W0,F⟩:∃W,w.alloc (.cells #[.slice none 0 0] 32)=W:=⟨_,rfl⟩;have ao:=alb0v0v1 F
 have ae:w.grownBy W0 (some k):=by rw [←F];exact World.grownBy_alloc w _ _
 have ag:Hid _:=alx0v0v1 F;have T:=alz0v0v1 F;have Z:=Q01 (hc.below (ao.mono C));have ai:=Q01 ae;clear ao ae hc;go_enter Tryz.func136,Tryz.ntmps136;go_wp2_with fail;refine (Q0p k 8 W0 Z.out (by decide) (by decide)).mono ?_;rintro e M ⟨x,rfl,x0,x8,ad,J⟩;have X:=Q01 ad;have aj:=Q01 (Q05 ai.out J);have ah:Hid (M.heap[w.heap.size]? =some (.cells #[.slice none 0 0] 32 (0,0))):=(J.block _ T (by simp;omega)).trans ag.out;have ab:w.heap.size < M.heap.size:=Kbq T J.size;clear ad J ag Z ai F T;go_wp2_with fail;refine (Q6I (1+x) M).mono ?_
 rintro e v2 ⟨vt,rfl,⟨vl,rfl,t,_⟩,q⟩;have HK:=Q01 (Qhq (n:=1+x) (by omega) (by omega));generalize Qc8 (1+x)=fb;obtain ⟨m,hm⟩:∃m,Q8m (1+x)=m:=⟨_,rfl⟩;rw [hm] at t HK;clear hm
 obtain ⟨g,cap,rfl⟩:∃g cap,vl=.slice (some ⟨g,0,none⟩) m.length cap:=by
  rcases t.2 with ⟨h1,h2⟩|⟨g,cap,aB,h1,_⟩
  ·have:=(Q07.1 HK.out).1;omega
  ·exact ⟨g,cap,h1⟩
 have V:=t.lt g rfl;obtain ⟨W3,O⟩:∃W,v2.alloc (.cells #[.slice (some ⟨g,0,none⟩) m.length cap] 32)=W:=⟨_,rfl⟩;have N:=q.size;have E:=alb0v0v1 O
 have an:M.grownBy W3 (some k):=by
  have h:Below M.heap.size M W3:=q.trans (E.mono N);exact ⟨h.os,h.tape,h.output,h.size,fun i hi _=> h.block i hi⟩
 have P:Hid (DInv k v2.heap.size w.heap.size w W3 m g 0 cap):=by
  have ak:Below M.heap.size M W3:=q.trans (E.mono N);refine ⟨HK.out,X.out.below (ak.mono (by omega)),by rw [←O];exact World.alloc_heap_new v2 _,(ak.block _ ab).trans ah.out,Kbq V.2 E.size,by omega,fun i hi j hj=> (E.cell (p:=⟨g,0+i * Q0g.k+j,none⟩) V.2).trans (Q1t t rfl i hi j hj),Q05 aj.out an⟩
 have s:w.heap.size < v2.heap.size:=by omega
 generalize hBq:v2.heap.size=B at *;clear q E an t V ah X aj HK N ab;go_wp2_with fail;refine (Q0p k 10 W3 P.out.cur (by decide) (by decide)).mono ?_;rintro e v4 ⟨n2,rfl,n0,aC,af,ac⟩;have ap:=Q01 (P.out.draw0 C (Nat.le_of_lt s) (Kaq _) ac af);clear af ac P O hBq;go_wp2
 go_loopw [6] (fun iv wr=> ∃(i:Nat) (m:List Sl) (b off c:Nat),(i:Int)≤n2∧iv=.int .i64 i∧Hid (DInv k B w.heap.size w wr m b off c))
  (fun iv _=> n2.toNat - (intOf iv).toNat)
 case atStart=> exact ⟨0,m,g,0,cap,n0,rfl,ap⟩
 case round=>
  clear ap;obtain ⟨i,m,b,off,c,hi,rfl,u⟩:=hrel;have h1:=(Q07.1 u.out.ok).1;have az:=(Q07.1 u.out.ok).2.1
  by_cases hlt:(i:Int) < n2
  ·go_wp2_with fail
   refine (Q1v k 4 wr u.out.cur (by decide) (by decide)).mono ?_;rintro e v5 ⟨y,rfl,aa,am⟩;have z:=Q01 (u.out.draw0 C (Nat.le_of_lt s) (Kaq _) am aa);have ct:=z.out.cell;have al:=z.out.size C;clear aa am u
   cases y with
   |true=>
    go_wp2
    go_region_with (first|(go_at_call 130;have d:=Q1U k v5.drew z.out.curd al;with_reducible refine d.mono ?_;clear d;rintro e x0 ⟨fa,fp,rfl,ha,hp,l,f⟩;have A:=Q01 (z.out.draw C (Nat.le_of_lt s) (Kaq _) f l);have k0:=A.out.cell;have hF:=Q01 (Q5f ha hp);clear l f)|(go_at_call 168;have d:=Q7E b off c m fa fp x0 (by omega) az hF.out (Q2j A.out.ok) A.out.lt A.out.rd;with_reducible refine d.mono ?_;clear d;rintro e x1 ⟨b2,G,c2,rfl,q,H,r,D⟩;have k1:=(r.cell (p:=⟨B,0,none⟩) A.out.boxlt).trans k0;have f1:=(r.frozen (p:=⟨B,0,none⟩) A.out.boxlt).trans A.out.frz;have HS:=Q01 (A.out.dropped (c2:=c2) C s q H r D);clear q H r D))
    all_goals (
     go_wp2;go_roundw
     case rel=> exact ⟨i+1,_,b2,G,c2,by omega,by go_num,HS.out⟩
     case measure=> simp [intOf];omega)
   |false=>
    go_wp2
    go_region_with (first|(go_at_call 130;have d:=Q1U k v5.drew z.out.curd al;with_reducible refine d.mono ?_;clear d;rintro e x0 ⟨fa,fp,rfl,ha,hp,l,f⟩;have A:=Q01 (z.out.draw C (Nat.le_of_lt s) (Kaq _) f l);have k0:=A.out.cell;have hF:=Q01 (Q5f ha hp);clear l f)|(go_at_call 80;have d:=Q0p k 6 x0 A.out.cur (by decide) (by decide);with_reducible refine d.mono ?_;clear d;rintro e x1 ⟨av,rfl,au,ay,l,f⟩;have I1:=Q01 (A.out.draw0 C (Nat.le_of_lt s) (Kaq _) f l);have k1:=I1.out.cell;clear l f)|(go_at_call 80;have d:=Q0p k 40 x1 I1.out.cur (by decide) (by decide);with_reducible refine d.mono ?_;clear d;rintro e x2 ⟨tv,rfl,ar,Y,l,f⟩;have R:=Q01 (I1.out.draw0 C (Nat.le_of_lt s) (Kaq _) f l);have k2:=R.out.cell;clear l f)|(go_at_call 166;have d:=Q6q b off c m fa fp av tv x2 (by omega) (by omega) hF.out R.out.lt R.out.rd;with_reducible refine d.mono ?_;clear d;rintro e x3 ⟨b2,G,c2,rfl,q,H,r,D⟩;have k3:=(r.cell (p:=⟨B,0,none⟩) R.out.boxlt).trans k2;have f3:=(r.frozen (p:=⟨B,0,none⟩) R.out.boxlt).trans R.out.frz;have HS:=Q01 (R.out.putted (c2:=c2) C s hF.out au ay ar Y q H r D);clear q H r D))
    all_goals (
     go_wp2;go_roundw
     case rel=> exact ⟨i+1,_,b2,G,c2,by omega,by go_num,HS.out⟩
     case measure=> simp [intOf];omega)
  ·have e:(i:Int)=n2:=by omega
   have ct:=u.out.cell;have aD:decide ((i:Int) < n2)=false:=decide_eq_false hlt;have L:=Q5Q b off c m wr u.out.lt u.out.rd (by omega);have U:w.heap.size < wr.heap.size:=(Array.getElem?_eq_some_iff.1 u.out.res).1;clear e;go_wp2_with fail;refine L.mono ?_;rintro e y ⟨o2,c2,rfl,ho,I⟩;have HE:=Q01 (u.out.ended C I (.slice o2 m.length c2));have aw:=Q0m ((I.block _ U).trans u.out.res) 0 _ rfl;have aA:=Q24 ((I.block _ U).trans u.out.res) 0;have HO:=Q01 ho;have aq:=Q01 u.out.ok;have ax:=Q01 u.out.gr.size;clear L ho I ct u;go_wp2
   refine bodyPost_ret (v:=tab (.slice o2 m.length c2)) (by simp [results,Tryz.results136,go_sem,aw]) rfl ⟨_,m,rfl,aq.out,⟨_,rfl, ?_⟩,HE.out.1,HE.out.2⟩;have h:=ownsRow_setCell_below HO.out (a:=⟨w.heap.size,0,none⟩) U (.slice o2 m.length c2);exact InRow.of (Q04 h ax.out)
theorem Qbx {m:Pm} (h:Q28 m=true):Q3y m m=true:=by
 unfold Q3y;rw [decide_eq_true rfl,decide_eq_true rfl,Bool.true_and,Bool.true_and];refine Q5I rfl (fun i hi=> ?_);have a:=(Q4O ((Q1B h).2.2.2.2 i hi)).1;unfold Q1i;rw [if_pos ⟨a,a⟩];exact Q3x 8 (fun _ _=> rfl)
theorem QbF {m:Bm} (h1:Q0s m.j.key m.j.l m.j.safe=true) (h2:Q0c m.t=true) (h3:m.t.all isV=true) (h4:m.p=Q0Q m.j):Q2h m=true:=by
 unfold Q2h Q6Q;rw [h1,h2,h3,h4,Qbx (Q41 h1)]
 rfl
theorem Q9C {m:Bm} (h:Q2h m=true):m.t.all isV=true:=by
 unfold Q2h Q6Q at h;simp only [Bool.and_eq_true] at h;exact h.2.1.2
theorem QgW {m:Bm} {k i gg:Int} (a:Q2h m=true):Q2h (Q93 m k i gg)=true:=by
 unfold Q93
 split
 ·next h=>
  have b:=QcF h;have c:=Q1N a;have d:=Q9C a;refine QbF b.2.1 c d ?_
  show Qab m.p k i gg=_
  rw [Q2x a];exact b.2.2.2.1
 ·exact a
theorem Qg3 {l:List Sl} (h:l.all isV=true) (k:Nat):isV (l.getD k sl0)=true:=by
 by_cases hk:k < l.length
 ·rw [List.getD_eq_getElem?_getD,List.getElem?_eq_getElem hk]
  exact List.all_eq_true.1 h _ (List.getElem_mem hk)
 ·rw [List.getD_eq_getElem?_getD,List.getElem?_eq_none (by omega)]
  decide
theorem Q9e {l:List Sl} (h:l.all isV=true) (k:Nat) {s:Sl} (hs:isV s=true):(l.set k s).all isV=true:=by
 rw [List.all_eq_true] at h ⊢;intro x a
 rcases List.mem_or_eq_of_mem_set a with a|rfl
 ·exact h x a
 ·exact hs
theorem Q6m (n:Nat):∀(g:Nat) (l:List Sl) (i k:Nat),l.all isV=true→(Q2B n g l i k).all isV=true
 |0,l,_,_,h=> h
 |g+1,l,i,k,h=> by
  unfold Q2B
  split
  ·split
   ·exact Q6m n g _ _ _ (Q9e (Q9e h _ (Qg3 h k)) _ (by decide))
   ·exact Q6m n g _ _ _ h
  ·exact h
theorem QfZ {l:List Sl} (h:l.all isV=true) (a p:Int):(Q43 l a p).all isV=true:=by
 unfold Q43
 split
 ·exact Q6m _ _ _ _ _ (Q9e h _ (by decide))
 ·exact h
theorem Qcs {l:List Sl} (h:l.all isV=true) (a p:Int) {v t:Int} (hv:0≤v∧v < 6):(Q4c l a p v t).all isV=true:=by
 unfold Q4c
 split
 ·exact Q9e h _ (by unfold isV;simp;omega)
 ·exact h
theorem Q8C {m:Bm} {now a p v:Int} (b:Q2h m=true) (g:0≤now) (d:now≤100000) (c:Q0h a p=true) (hv:0≤v∧v < 6):Q2h (Q4G m now a p v)=true:=by
 have f:=Q4Q b;have h:=Q2x b;refine QbF f ?_ ?_ h
 ·show Q0c (Q1K m.t now a p v)=true
  unfold Q1K
  split
  ·exact Q7Z (Q1N b) c (by omega) (by omega)
  ·exact Q7Z (Q8U (Q1N b)) c (by omega) (by omega)
 ·show (Q1K m.t now a p v).all isV=true
  unfold Q1K
  split
  ·exact Qcs (Q9C b) a p hv
  ·exact Qcs (QfZ (Q9C b) _ _) a p hv
theorem Q7d {m:Bm} (h:Q2h m=true):fitBm m:=⟨by have:=(Q0X (Q4Q h)).2.1;omega,Q5q h,by have:=(Q07.1 (Q1N h)).2.1;omega⟩
theorem Qgw (key:Int) (n:Nat) (c:Q1P key=true) (d:1≤n) (h2:n≤16):Q2h ⟨⟨key,[],0⟩,⟨key,[],Q1e key [[]]⟩,List.replicate n sl0⟩=true:=by
 have a:Q0s key [] 0=true:=by unfold Q0s;rw [c];rfl
 refine QbF a ?_ ?_ ?_
 ·show Q0c (List.replicate n sl0)=true
  have e:Q8m (n:Int)=List.replicate n sl0:=by unfold Q8m;rw [if_pos ⟨by omega,by omega⟩];simp
  rw [←e];exact Qhq (by omega) (by omega)
 ·show (List.replicate n sl0).all isV=true
  rw [List.all_eq_true];intro x b;rw [List.eq_of_mem_replicate b]
  decide
 ·show (⟨key,[],Q1e key [[]]⟩:Pm)=Q0Q ⟨key,[],0⟩
  unfold Q0Q;rw [if_pos a]
  rfl
end Go.Proofs.YtpneolgdghbinaaGreat
