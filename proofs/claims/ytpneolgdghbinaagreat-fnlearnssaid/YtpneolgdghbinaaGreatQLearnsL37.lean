/- Several texts in one: STickS, SLearnS, SDraw5T, BalStep. -/
import Derived.Test.YtpneolgdghbinaaGreatQLearnsL35
import Derived.Test.YtpneolgdghbinaaGreatQLearnsL36
namespace Go.Proofs.YtpneolgdghbinaaGreat
open Go.ChangeShapes Go.WideShapes Go.ChangeAt Go.RowKit Go.Joins
set_option linter.unusedVariables false
set_option linter.unusedSimpArgs false
set_option maxRecDepth 100000
set_option maxHeartbeats 40000000
def Qjj (w:World) (v:Value) (m:Bm):Prop:=∃o c ob cb oR cR bt ft ct,v=Q13 m.j.key (.slice o m.j.l.length c) m.j.safe m.p.key (.slice ob m.p.l.length cb) (.slice oR m.p.ring.length cR) (.slice (some ⟨bt,ft,none⟩) m.t.length ct)∧RdC w.heap.size w o m.j.l∧(o=none→c=0)∧RdK w.heap.size w ob m.p.l∧(ob=none→cb=0)∧RcR 0 w.heap.size w (.slice oR m.p.ring.length cR) m.p.ring∧bt < w.heap.size∧(∀i,i < m.t.length→∀j,j < Q0g.k→w.cell? ⟨bt,ft+i * Q0g.k+j,none⟩=(Q0g.cs (m.t.getD i Q0g.d))[j]?)
theorem Q3s {lo hi b j:Nat} {w w':World} (s:Stp lo hi w w') (hb:b < w.heap.size) (hd:b < lo∨hi≤b):w'.cell? ⟨b,j,none⟩=w.cell? ⟨b,j,none⟩:=by
 simp only [World.cell?,s.block b hb hd]
theorem Qg9 {v:Value} {m:Bm} {w:World} (h:Qjj w v m) (x:fitBm m):
  Calls Tryz.prog 131 #[v] w fun e a=> ∃v',e=.returned v'∧OwBm w.heap.size a.heap.size a v' m∧Below w.heap.size w a:=by
 obtain ⟨o,c,z,f,y,d,b,i,g,e,k,h2,n,q,r,s,u⟩:=h;subst e;exact QgH m.j.key o _ c m.j.safe m.p.key z _ f y _ d b i _ g m.j.l m.p.l m.p.ring m.t w rfl rfl rfl rfl k h2 n q r s u x
def Q1I (l:List Sl) (now a p v:Int):List Sl:=if 0≤(Q0Z l a p).1 then Q4d l a p v (now+50) else Q4d (Q48 l (Q26 l).a (Q26 l).p) a p v (now+50)
def OrBr (lo hi:Nat) (w:World) (v:Value) (m:Bm):Prop:=∃vl vb vr vt,v=Q13 m.j.key vl m.j.safe m.p.key vb vr vt∧RiV Q4j lo hi w vl m.j.l∧Qip vl∧RcPm lo hi w (plv m.p.key vb vr) m.p∧RiV Q0g lo hi w vt m.t
theorem OrBr.step {a b lo hi:Nat} {w d:World} {v:Value} {m:Bm} (h:OrBr a b w v m) (s:Stp lo hi w d) (c:hi≤a∨b≤lo):OrBr a b d v m:=by
 obtain ⟨k,j,l,n,rfl,f,h2,g,i⟩:=h;exact ⟨k,j,l,n,rfl,f.step s c,h2,g.step s c,i.step s c⟩
theorem OrBr.mono {a b f g:Nat} {w:World} {v:Value} {m:Bm} (h:OrBr a b w v m) (c:f≤a) (d:b≤g):OrBr f g w v m:=by
 obtain ⟨n,l,p,q,rfl,i,h2,j,k⟩:=h;exact ⟨n,l,p,q,rfl,i.mono c d,h2,j.mono c d,k.mono c d⟩
theorem OrBr.or {lo hi:Nat} {w:World} {v:Value} {m:Bm} (h:OrBr lo hi w v m) (d:hi≤w.heap.size) (q:0 < m.t.length):Qjj w v m:=by
 obtain ⟨H,G,I,J,rfl,y,h2,z,F,s,rfl,a⟩:=h;obtain ⟨o,c,rfl,C⟩:=y.open;obtain ⟨D,E,p,j,k,b,A⟩:=z;simp only [Value.agg.injEq,Array.mk.injEq,List.cons.injEq,and_true,true_and] at p;obtain ⟨f,g⟩:=p;subst f g;obtain ⟨u9,n,rfl,l⟩:=RiV.open j;obtain ⟨B,u,rfl⟩:=RiR.len (RcR.ri b)
 rcases a with a|⟨r,x,rfl,_,i,a⟩
 ·rw [a] at q;simp at q
 ·exact ⟨o,c,u9,n,B,u,r,x,s,rfl,C.le d,(fun h=> h2 _ _ (by rw [h])),l.le d,(fun h=> k _ _ (by rw [h])),RcR.mon.go b (Kcq _) d,Kbq i d,a⟩
theorem OwBm.br {lo hi:Nat} {w:World} {v:Value} {m:Bm} (h:OwBm lo hi w v m):OrBr lo hi w v m:=by
 obtain ⟨g,f,j,k,rfl,⟨i,c,a⟩,h2,⟨l,d,b⟩⟩:=h;simp only [Value.agg.injEq,Array.mk.injEq,List.cons.injEq,and_true,true_and] at c d;subst c d;exact ⟨g,f,j,k,rfl,InRow.ri a,a.cap,h2,InRow.ri b⟩
def Q4q (m:Bm) (now a p v:Int):Bm:=⟨m.j,m.p,Q1I m.t now a p v⟩
theorem Q9D (l:List Sl) (a p v t:Int):(Q4d l a p v t).length=l.length:=by unfold Q4d;split <;> simp
theorem Qb0 (l:List Sl) (a p:Int):(Q48 l a p).length=l.length:=by unfold Q48;split <;> simp [Q2s]
theorem QbS (kj:Int) (o:Option Addr) (nj c:Nat) (sj kp:Int) (ob:Option Addr) (np cb:Nat) (oR:Option Addr) (nr cR:Nat) (ot:Option Addr) (nt ct:Nat) (lj:List Cd) (lb:List Bk) (lr:List (List (List Int))) (lt:List Sl) (now a p v:Int) (w:World)
  (bL:∀W:World,Below w.heap.size w W→Calls Tryz.prog 131 #[Q13 kj (.slice o nj c) sj kp (.slice ob np cb) (.slice oR nr cR) (.slice ot nt ct)] W fun e w'=> ∃v',e=.returned v'∧OwBm W.heap.size w'.heap.size w' v' ⟨⟨kj,lj,sj⟩,⟨kp,lb,lr⟩,lt⟩∧Below W.heap.size W w') (f:Q2g ⟨⟨kj,lj,sj⟩,⟨kp,lb,lr⟩,lt⟩=true) (hf:fitBm ⟨⟨kj,lj,sj⟩,⟨kp,lb,lr⟩,lt⟩) (cS:0≤now) (cT:now≤100000) (bQ:Q0h a p=true) (bZ:(Q0Z lt a p).1 < 0→Q0h (Q26 lt).a (Q26 lt).p=true) (bR:Q4E lt):
  Calls Tryz.prog 129 #[Q13 kj (.slice o nj c) sj kp (.slice ob np cb) (.slice oR nr cR) (.slice ot nt ct),.int .i64 now,Q6f a p,.int .i64 v] w fun e w'=> ∃v',e=.returned v'∧OrBr w.heap.size w'.heap.size w' v' (Q4q ⟨⟨kj,lj,sj⟩,⟨kp,lb,lr⟩,lt⟩ now a p v)∧Below w.heap.size w w':=by
 have cH:IntKind.i64.wrap (now+50)=now+50:=by rw [IntKind.wrap_i64];omega
 have bG:=Q01 bL;have bK:=(Q07.1 (show Q0c lt=true from Q1N f)).2.1;have a5:=Q01 (show 0 < lt.length from Q3R f);have bd:=Q01 bZ;have ch:=Q01 bR;have aW:=Q01 bK;clear bL f hf bZ bR bK;obtain ⟨W0,ak⟩:∃W,(((w.alloc (.cells #[.int .i64 kj,.slice o nj c,.int .i64 sj,.int .i64 kp,.slice ob np cb,.slice oR nr cR,.slice ot nt ct] 34)).alloc (.cells #[.int .i64 a,.int .i64 p] 36)).alloc (.cells #[.int .i64 0,.slice none 0 0,.int .i64 0,.int .i64 0,.slice none 0 0,.slice none 0 0,.slice none 0 0] 34))=W:=⟨_,rfl⟩;have aH:=alb0v0v3 ak;have HB:=Q01 aH;clear aH
 have y:=alz0v0v3 ak;obtain ⟨z0,z1,z2,z3,z4,z5,z6⟩:=alc7v0v3 ak;have zx:=alz0v1v3 ak;obtain ⟨x0,x1⟩:=alc2v1v3 ak;have m:=alz0v2v3 ak;obtain ⟨r0,r1,r2,r3,r4,r5,r6⟩:=alc7v2v3 ak;obtain ⟨O,P,R,T,U,V,X⟩:=alf7v2v3 ak;have c4:w.heap.size+1+1 < W0.heap.size:=m;go_enter Tryz.func129,Tryz.ntmps129;go_wp2_with fail;refine (bG.out W0 HB.out).mono ?_;rintro e Z ⟨c8,rfl,b4,f⟩;have C:=Q01 b4;have cV:=f.size;clear b4 bG;replace z0:=bC f z0 y;replace z1:=bC f z1 y;replace z2:=bC f z2 y;replace z3:=bC f z3 y;replace z4:=bC f z4 y;replace z5:=bC f z5 y
 replace z6:=bC f z6 y;replace y:=Kbq y f.size;replace x0:=bC f x0 zx;replace x1:=bC f x1 zx;replace zx:=Kbq zx f.size;replace r0:=bC f r0 m;replace r1:=bC f r1 m;replace r2:=bC f r2 m;replace r3:=bC f r3 m;replace r4:=bC f r4 m;replace r5:=bC f r5 m;replace r6:=bC f r6 m;replace O:=bF f O m;replace P:=bF f P m;replace R:=bF f R m;replace T:=bF f T m;replace U:=bF f U m;replace V:=bF f V m;replace X:=bF f X m;replace m:=Kbq m f.size;replace HB:=Q01 (HB.out.trans (f.mono HB.out.size));clear f
 obtain ⟨o9,c9,L,F,J,E,c6,aB,e9⟩:=C.out.rd.opn;dsimp only at e9;obtain ⟨G,aL⟩:∃x,lj.length=x:=⟨_,rfl⟩;obtain ⟨H,aM⟩:∃x,lb.length=x:=⟨_,rfl⟩;obtain ⟨I,aN⟩:∃x,lr.length=x:=⟨_,rfl⟩;obtain ⟨s,aO⟩:∃x,lt.length=x:=⟨_,rfl⟩;rw [aL,aM,aN,aO] at e9;subst e9;obtain ⟨bY,a9,bz,bA⟩:=Q9y C.out;clear bY;have ce:=bA.row;have cE:=bA.rd;obtain ⟨da,bJ,c5,ar,cm,cd⟩:=cE;simp only [Value.agg.injEq,Array.mk.injEq,List.cons.injEq,and_true] at bJ;subst bJ;injection cm with et81 et82 et83;subst et81 et83;obtain ⟨g9,f9,cl,cA,aq⟩:=Qgz cd a5.out;subst cl
 have bU:W0.heap.size≤g9:=(ce.1.lt g9 rfl).1;have aa:=Q01 aq;clear ce cd aq bA a9 bz et82;have az:=Q01 (And.intro aL (And.intro aM (And.intro aN aO)));clear aL aM aN aO;obtain ⟨W2,au⟩:∃W,(Z.alloc (.cells #[.int .i64 kj,.slice o9 G c9,.int .i64 sj,.int .i64 kp,.slice L H F,.slice J I E,.slice (some ⟨g9,f9,none⟩) s aB] 34))=W:=⟨_,rfl⟩;have q:=alb0v0v1 au;replace z0:=bC q z0 y;replace z1:=bC q z1 y;replace z2:=bC q z2 y;replace z3:=bC q z3 y;replace z4:=bC q z4 y;replace z5:=bC q z5 y;replace z6:=bC q z6 y
 replace y:=Kbq y q.size;replace x0:=bC q x0 zx;replace x1:=bC q x1 zx;replace zx:=Kbq zx q.size;replace r0:=bC q r0 m;replace r1:=bC q r1 m;replace r2:=bC q r2 m;replace r3:=bC q r3 m;replace r4:=bC q r4 m;replace r5:=bC q r5 m;replace r6:=bC q r6 m;replace O:=bF q O m;replace P:=bF q P m;replace R:=bF q R m;replace T:=bF q T m;replace U:=bF q U m;replace V:=bF q V m;replace X:=bF q X m;replace m:=Kbq m q.size;replace HB:=Q01 (HB.out.trans (q.mono HB.out.size))
 clear q;have r:=alz0v0v1 au;obtain ⟨u0,u1,u2,u3,u4,u5,u6⟩:=alc7v0v1 au;obtain ⟨ab,ac,ad,ae,af,ag,ah⟩:=alf7v0v1 au;have hu:Z.heap.size < W2.heap.size:=r;have aG:=alb0v0v1 au;replace aa:Hid (∀i,i < lt.length→∀j,j < Q0g.k→W2.cell? ⟨g9,f9+i * Q0g.k+j,none⟩=(Q0g.cs (lt.getD i Q0g.d))[j]?):=Q01 (fun i hi j hj=> (aG.cell (p:=⟨g9,f9+i * Q0g.k+j,none⟩) cA).trans (aa.out i hi j hj));have a0:=Q01 (Q6c g9 f9 aB lt a p v (now+50) W2 a5.out (by have:=aW.out;omega) bQ (by omega) aa.out);have M:Hid _:=alx0v0v1 au;rw [az.out.2.2.2] at a0;have cw:=Q01 aG;clear aG
 replace C:=Q01 (C.out.step (Stp.of (lo:=0) (hi:=0) cw.out) (.inl (Kcq _)));obtain ⟨el,a8⟩:∃x,Q4d lt a p v (now+50)=x:=⟨_,rfl⟩;have cj:=Q01 (show el.length=lt.length by rw [←a8];exact Q9D _ _ _ _ _);have a4:=Q01 (show 0≤(Q0Z lt a p).1→Q1I lt now a p v=el from fun h=> by unfold Q1I;rw [if_pos h,a8]);rw [a8] at a0;clear a8;have a2:=Q01 (show ¬0≤(Q0Z lt a p).1→Q1I lt now a p v=Q4d (Q48 lt (Q26 lt).a (Q26 lt).p) a p v (now+50) from fun h=> by unfold Q1I;rw [if_neg h]);go_wp2_with fail;refine (a0.out).mono ?_;rintro e v2 ⟨Y,f8,D,rfl,cz,ap,f,cU⟩;have aw:=Q01 ap
 have cW:=f.size;replace M:=Q01 ((f.block _ hu).trans M.out);replace C:=Q01 (C.out.step (Stp.of (lo:=0) (hi:=0) f) (.inl (Kcq _)));replace aa:Hid (∀i,i < lt.length→∀j,j < Q0g.k→v2.cell? ⟨g9,f9+i * Q0g.k+j,none⟩=(Q0g.cs (lt.getD i Q0g.d))[j]?):=Q01 (fun i hi j hj=> (f.cell (p:=⟨g9,f9+i * Q0g.k+j,none⟩) (show g9 < W2.heap.size by omega)).trans (aa.out i hi j hj));clear ap a0;replace z0:=bC f z0 y;replace z1:=bC f z1 y;replace z2:=bC f z2 y;replace z3:=bC f z3 y;replace z4:=bC f z4 y;replace z5:=bC f z5 y;replace z6:=bC f z6 y;replace y:=Kbq y f.size
 replace x0:=bC f x0 zx;replace x1:=bC f x1 zx;replace zx:=Kbq zx f.size;replace r0:=bC f r0 m;replace r1:=bC f r1 m;replace r2:=bC f r2 m;replace r3:=bC f r3 m;replace r4:=bC f r4 m;replace r5:=bC f r5 m;replace r6:=bC f r6 m;replace O:=bF f O m;replace P:=bF f P m;replace R:=bF f R m;replace T:=bF f T m;replace U:=bF f U m;replace V:=bF f V m;replace X:=bF f X m;replace m:=Kbq m f.size;replace u0:=bC f u0 r;replace u1:=bC f u1 r;replace u2:=bC f u2 r;replace u3:=bC f u3 r;replace u4:=bC f u4 r;replace u5:=bC f u5 r
 replace u6:=bC f u6 r;replace ab:=bF f ab r;replace ac:=bF f ac r;replace ad:=bF f ad r;replace ae:=bF f ae r;replace af:=bF f af r;replace ag:=bF f ag r;replace ah:=bF f ah r;replace r:=Kbq r f.size;replace HB:=Q01 (HB.out.trans (f.mono HB.out.size));clear f;obtain ⟨W4,av⟩:∃W,(v2.alloc (.cells #[.slice (some ⟨Y,f8,none⟩) s D] 32))=W:=⟨_,rfl⟩;have l:=alb0v0v1 av;replace z0:=bC l z0 y;replace z1:=bC l z1 y;replace z2:=bC l z2 y;replace z3:=bC l z3 y;replace z4:=bC l z4 y;replace z5:=bC l z5 y;replace z6:=bC l z6 y
 replace y:=Kbq y l.size;replace x0:=bC l x0 zx;replace x1:=bC l x1 zx;replace zx:=Kbq zx l.size;replace r0:=bC l r0 m;replace r1:=bC l r1 m;replace r2:=bC l r2 m;replace r3:=bC l r3 m;replace r4:=bC l r4 m;replace r5:=bC l r5 m;replace r6:=bC l r6 m;replace O:=bF l O m;replace P:=bF l P m;replace R:=bF l R m;replace T:=bF l T m;replace U:=bF l U m;replace V:=bF l V m;replace X:=bF l X m;replace m:=Kbq m l.size;replace u0:=bC l u0 r;replace u1:=bC l u1 r
 replace u2:=bC l u2 r;replace u3:=bC l u3 r;replace u4:=bC l u4 r;replace u5:=bC l u5 r;replace u6:=bC l u6 r;replace ab:=bF l ab r;replace ac:=bF l ac r;replace ad:=bF l ad r;replace ae:=bF l ae r;replace af:=bF l af r;replace ag:=bF l ag r;replace ah:=bF l ah r;replace r:=Kbq r l.size;replace HB:=Q01 (HB.out.trans (l.mono HB.out.size));clear l;have zt:=alz0v0v1 av
 have t0:W4.cell? ⟨v2.heap.size,0,none⟩=some (.slice (some ⟨Y,f8,none⟩) s D):=by rw [←av];simp [go_sem]
 have aj:W4.frozen? ⟨v2.heap.size,0,none⟩=false:=by rw [←av];simp [go_sem]
 have cX:v2.heap.size < W4.heap.size:=zt
 have B:w.heap.size+1+1 < Z.heap.size:=by omega
 have aE:=alb0v0v1 av;replace M:=Q01 ((aE.block _ (by omega)).trans M.out);replace C:=Q01 (C.out.step (Stp.of (lo:=0) (hi:=0) aE) (.inl (Kcq _)));replace aa:Hid (∀i,i < lt.length→∀j,j < Q0g.k→W4.cell? ⟨g9,f9+i * Q0g.k+j,none⟩=(Q0g.cs (lt.getD i Q0g.d))[j]?):=Q01 (fun i hi j hj=> (aE.cell (p:=⟨g9,f9+i * Q0g.k+j,none⟩) (show g9 < v2.heap.size by omega)).trans (aa.out i hi j hj))
 replace aw:Hid (∀i,i < el.length→∀j,j < Q0g.k→W4.cell? ⟨Y,f8+i * Q0g.k+j,none⟩=(Q0g.cs (el.getD i Q0g.d))[j]?):=Q01 (fun i hi j hj=> (aE.cell (p:=⟨Y,f8+i * Q0g.k+j,none⟩) cz).trans (aw.out i hi j hj));clear aE
 have a1:Hid (∀(SX:World) (Y f8 D:Nat) (el:List Sl),el.length=lt.length→Q1I lt now a p v=el→OwBm W0.heap.size Z.heap.size SX (Q13 kj (.slice o9 G c9) sj kp (.slice L H F) (.slice J I E) (.slice (some ⟨g9,f9,none⟩) s aB)) ⟨⟨kj,lj,sj⟩,⟨kp,lb,lr⟩,lt⟩→(∀i,i < el.length→∀j,j < Q0g.k→SX.cell? ⟨Y,f8+i * Q0g.k+j,none⟩=(Q0g.cs (el.getD i Q0g.d))[j]?)→Z.heap.size≤SX.heap.size→Y < SX.heap.size→w.heap.size≤Y→OrBr w.heap.size SX.heap.size SX (Q13 kj (.slice o9 G c9) sj kp (.slice L H F) (.slice J I E) (.slice (some ⟨Y,f8,none⟩) s D)) (Q4q ⟨⟨kj,lj,sj⟩,⟨kp,lb,lr⟩,lt⟩ now a p v)):=by
  refine Q01 ?_;intro SX Y f8 D el bP bb aD aI b3 cB bU;obtain ⟨e1,e2,e3,e4⟩:=az.out;rw [show Q4q ⟨⟨kj,lj,sj⟩,⟨kp,lb,lr⟩,lt⟩ now a p v=⟨⟨kj,lj,sj⟩,⟨kp,lb,lr⟩,el⟩ by rw [←bb];rfl]
  have e5:s=el.length:=by rw [bP,e4]
  obtain ⟨_,a9,bz,_⟩:=Q9y aD;have ck:=a9.cap;obtain ⟨c7,bI,bV⟩:=a9;simp only [Value.agg.injEq,Array.mk.injEq,List.cons.injEq,and_true,true_and] at bI;subst bI
  have bX:w.heap.size≤W0.heap.size:=by omega
  exact ⟨_,_,_,_,rfl,(InRow.ri bV).mono bX b3,(fun n c h=> by injection h with h1 h2 h3;rw [←h3];exact capJm.one ck h1),bz.mono bX b3,⟨some ⟨Y,f8,none⟩,D,by rw [e5],.inr ⟨Y,f8,rfl,bU,cB,aI⟩⟩⟩
 obtain ⟨ee,bv⟩:∃x,(Q0Z lt a p).1=x:=⟨_,rfl⟩;rw [bv] at bd a4 a2;simp only [bv];clear bv
 by_cases hy:0≤ee
 ·have cC:decide (0≤ee)=true:=by simp [hy]
  have bW:=a4.out hy;have bE:=Q01 bW;clear bW a4 a2
  have bw:Y < Z.heap.size∨Z.heap.size+1≤Y:=by omega
  have bx:Y < w.heap.size+1+1∨w.heap.size+1+1+1≤Y:=by omega
  have X5:(W4.setCell ⟨Z.heap.size,6,none⟩ (.slice (some ⟨Y,f8,none⟩) s D)).heap[Z.heap.size]? =some (.cells #[.int .i64 kj,.slice o9 G c9,.int .i64 sj,.int .i64 kp,.slice L H F,.slice J I E,.slice (some ⟨Y,f8,none⟩) s D] 34 (0,0)):=Q06 M.out 6 _;have s5:Stp Z.heap.size (Z.heap.size+1) W4 (W4.setCell ⟨Z.heap.size,6,none⟩ (.slice (some ⟨Y,f8,none⟩) s D)):=Q0x W4 Z.heap.size 6 _;obtain ⟨y0,y1,y2,y3,y4,y5,y6⟩:=cxb7v0v0 X5;have aP:=s5.cellP r0 (.inl B);have aQ:=s5.cellP r1 (.inl B);have aR:=s5.cellP r2 (.inl B);have aS:=s5.cellP r3 (.inl B)
  have aT:=s5.cellP r4 (.inl B);have aU:=s5.cellP r5 (.inl B);have aV:=s5.cellP r6 (.inl B);have bf:=Stp.frozen s5 O (by omega) (.inl B);have bg:=Stp.frozen s5 P (by omega) (.inl B);have bh:=Stp.frozen s5 R (by omega) (.inl B);have bi:=Stp.frozen s5 T (by omega) (.inl B);have bj:=Stp.frozen s5 U (by omega) (.inl B);have bk:=Stp.frozen s5 V (by omega) (.inl B);have bl:=Stp.frozen s5 X (by omega) (.inl B)
  have ay:Hid (OrBr w.heap.size (Q20 (W4.setCell ⟨Z.heap.size,6,none⟩ (.slice (some ⟨Y,f8,none⟩) s D)) (w.heap.size+1+1) (.int .i64 kj) (.slice o9 G c9) (.int .i64 sj) (.int .i64 kp) (.slice L H F) (.slice J I E) (.slice (some ⟨Y,f8,none⟩) s D)).heap.size (Q20 (W4.setCell ⟨Z.heap.size,6,none⟩ (.slice (some ⟨Y,f8,none⟩) s D)) (w.heap.size+1+1) (.int .i64 kj) (.slice o9 G c9) (.int .i64 sj) (.int .i64 kp) (.slice L H F) (.slice J I E) (.slice (some ⟨Y,f8,none⟩) s D)) (Q13 kj (.slice o9 G c9) sj kp (.slice L H F) (.slice J I E) (.slice (some ⟨Y,f8,none⟩) s D)) (Q4q ⟨⟨kj,lj,sj⟩,⟨kp,lb,lr⟩,lt⟩ now a p v)∧Below w.heap.size w (Q20 (W4.setCell ⟨Z.heap.size,6,none⟩ (.slice (some ⟨Y,f8,none⟩) s D)) (w.heap.size+1+1) (.int .i64 kj) (.slice o9 G c9) (.int .i64 sj) (.int .i64 kp) (.slice L H F) (.slice J I E) (.slice (some ⟨Y,f8,none⟩) s D))):=by
   have sR:=Q1b (W4.setCell ⟨Z.heap.size,6,none⟩ (.slice (some ⟨Y,f8,none⟩) s D)) (w.heap.size+1+1) (.int .i64 kj) (.slice o9 G c9) (.int .i64 sj) (.int .i64 kp) (.slice L H F) (.slice J I E) (.slice (some ⟨Y,f8,none⟩) s D)
   have al:(Q20 (W4.setCell ⟨Z.heap.size,6,none⟩ (.slice (some ⟨Y,f8,none⟩) s D)) (w.heap.size+1+1) (.int .i64 kj) (.slice o9 G c9) (.int .i64 sj) (.int .i64 kp) (.slice L H F) (.slice J I E) (.slice (some ⟨Y,f8,none⟩) s D)).heap.size=(W4.setCell ⟨Z.heap.size,6,none⟩ (.slice (some ⟨Y,f8,none⟩) s D)).heap.size:=Q0C _ _ _ _ _ _ _ _ _;have cD:=s5.size;have aD:=(C.out.step s5 (.inr (Kaq _))).step sR (.inl (by omega))
   have aI:∀i,i < el.length→∀j,j < Q0g.k→(Q20 (W4.setCell ⟨Z.heap.size,6,none⟩ (.slice (some ⟨Y,f8,none⟩) s D)) (w.heap.size+1+1) (.int .i64 kj) (.slice o9 G c9) (.int .i64 sj) (.int .i64 kp) (.slice L H F) (.slice J I E) (.slice (some ⟨Y,f8,none⟩) s D)).cell? ⟨Y,f8+i * Q0g.k+j,none⟩=(Q0g.cs (el.getD i Q0g.d))[j]? :=fun i hi j hj=> (Q3s sR (b:=Y) (j:=f8+i * Q0g.k+j) (by omega) bx).trans ((Q3s s5 (b:=Y) (j:=f8+i * Q0g.k+j) (by omega) bw).trans (aw.out i hi j hj))
   exact ⟨a1.out _ _ _ _ _ cj.out bE.out aD aI (by rw [al];omega) (by rw [al];omega) (by omega),Q0v (HB.out.trans (s5.below (by omega) HB.out.size)) (by omega) _ _ _ _ _ _ _⟩
  clear a1 X5 s5 C aw aa M;go_wp2;refine bodyPost_ret (v:=Q13 kj (.slice o9 G c9) sj kp (.slice L H F) (.slice J I E) (.slice (some ⟨Y,f8,none⟩) s D)) (by simp [results,Tryz.results129,go_sem,r0,r1,r2,r3,r4,r5,r6,aP,aQ,aR,aS,aT,aU,aV]) rfl ⟨_,rfl,ay.out.1,ay.out.2⟩
 ·have cC:decide (0≤ee)=false:=by simp [hy]
  have ai:Hid _:=alx0v0v1 av;have bb:=a2.out (by omega);have a3:=Q01 bb;have b2:=bd.out (by omega);clear bb a2 a4 bd aw;have a6:=Q01 (Q9k g9 f9 aB lt W4 (by omega) aa.out (by have:=aW.out;omega));rw [az.out.2.2.2] at a6;obtain ⟨sq,b1⟩:∃x,Q26 lt=x:=⟨_,rfl⟩;rw [b1] at a6 a3 b2;clear b1;go_wp2_with fail;refine (a6.out).mono ?_;rintro e v3 ⟨rfl,f⟩;have cY:=f.size;replace M:=Q01 ((f.block _ (by omega)).trans M.out);replace ai:=Q01 ((f.block _ (by omega)).trans ai.out);replace C:=Q01 (C.out.step (Stp.of (lo:=0) (hi:=0) f) (.inl (Kcq _)))
  replace aa:Hid (∀i,i < lt.length→∀j,j < Q0g.k→v3.cell? ⟨g9,f9+i * Q0g.k+j,none⟩=(Q0g.cs (lt.getD i Q0g.d))[j]?):=Q01 (fun i hi j hj=> (f.cell (p:=⟨g9,f9+i * Q0g.k+j,none⟩) (show g9 < W4.heap.size by omega)).trans (aa.out i hi j hj));clear a6;replace z0:=bC f z0 y;replace z1:=bC f z1 y;replace z2:=bC f z2 y;replace z3:=bC f z3 y;replace z4:=bC f z4 y;replace z5:=bC f z5 y;replace z6:=bC f z6 y;replace y:=Kbq y f.size;replace x0:=bC f x0 zx;replace x1:=bC f x1 zx;replace zx:=Kbq zx f.size;replace r0:=bC f r0 m;replace r1:=bC f r1 m;replace r2:=bC f r2 m
  replace r3:=bC f r3 m;replace r4:=bC f r4 m;replace r5:=bC f r5 m;replace r6:=bC f r6 m;replace O:=bF f O m;replace P:=bF f P m;replace R:=bF f R m;replace T:=bF f T m;replace U:=bF f U m;replace V:=bF f V m;replace X:=bF f X m;replace m:=Kbq m f.size;replace u0:=bC f u0 r;replace u1:=bC f u1 r;replace u2:=bC f u2 r;replace u3:=bC f u3 r;replace u4:=bC f u4 r;replace u5:=bC f u5 r;replace u6:=bC f u6 r;replace ab:=bF f ab r;replace ac:=bF f ac r;replace ad:=bF f ad r;replace ae:=bF f ae r
  replace af:=bF f af r;replace ag:=bF f ag r;replace ah:=bF f ah r;replace r:=Kbq r f.size;replace t0:=bC f t0 zt;replace aj:=bF f aj zt;replace zt:=Kbq zt f.size;replace HB:=Q01 (HB.out.trans (f.mono HB.out.size));clear f;obtain ⟨W6,a7⟩:∃W,(v3.alloc (.cells #[.bool sq.u,.int .i64 sq.a,.int .i64 sq.p,.int .i64 sq.v,.int .i64 sq.t] 101))=W:=⟨_,rfl⟩;have g:=alb0v0v1 a7;replace z0:=bC g z0 y;replace z1:=bC g z1 y;replace z2:=bC g z2 y;replace z3:=bC g z3 y;replace z4:=bC g z4 y;replace z5:=bC g z5 y;replace z6:=bC g z6 y
  replace y:=Kbq y g.size;replace x0:=bC g x0 zx;replace x1:=bC g x1 zx;replace zx:=Kbq zx g.size;replace r0:=bC g r0 m;replace r1:=bC g r1 m;replace r2:=bC g r2 m;replace r3:=bC g r3 m;replace r4:=bC g r4 m;replace r5:=bC g r5 m;replace r6:=bC g r6 m;replace O:=bF g O m;replace P:=bF g P m;replace R:=bF g R m;replace T:=bF g T m;replace U:=bF g U m;replace V:=bF g V m;replace X:=bF g X m;replace m:=Kbq m g.size;replace u0:=bC g u0 r;replace u1:=bC g u1 r
  replace u2:=bC g u2 r;replace u3:=bC g u3 r;replace u4:=bC g u4 r;replace u5:=bC g u5 r;replace u6:=bC g u6 r;replace ab:=bF g ab r;replace ac:=bF g ac r;replace ad:=bF g ad r;replace ae:=bF g ae r;replace af:=bF g af r;replace ag:=bF g ag r;replace ah:=bF g ah r;replace r:=Kbq r g.size;replace t0:=bC g t0 zt;replace aj:=bF g aj zt;replace zt:=Kbq zt g.size;replace HB:=Q01 (HB.out.trans (g.mono HB.out.size));clear g;have zq:=alz0v0v1 a7;obtain ⟨q0,q1,q2,q3,q4⟩:=alc5v0v1 a7
  have cZ:v3.heap.size < W6.heap.size:=zq;have aF:=alb0v0v1 a7;replace M:=Q01 ((aF.block _ (by omega)).trans M.out);replace ai:=Q01 ((aF.block _ (by omega)).trans ai.out);replace C:=Q01 (C.out.step (Stp.of (lo:=0) (hi:=0) aF) (.inl (Kcq _)));replace aa:Hid (∀i,i < lt.length→∀j,j < Q0g.k→W6.cell? ⟨g9,f9+i * Q0g.k+j,none⟩=(Q0g.cs (lt.getD i Q0g.d))[j]?):=Q01 (fun i hi j hj=> (aF.cell (p:=⟨g9,f9+i * Q0g.k+j,none⟩) (show g9 < v3.heap.size by omega)).trans (aa.out i hi j hj));clear aF;have ax:=Q01 (Q7z g9 f9 aB lt sq.a sq.p W6 a5.out aW.out b2 ch.out (by omega) aa.out)
  rw [az.out.2.2.2] at ax;obtain ⟨dl,bu⟩:∃x,Q48 lt sq.a sq.p=x:=⟨_,rfl⟩;obtain ⟨ed,bO⟩:∃x,(Q0Z lt sq.a sq.p).2=x:=⟨_,rfl⟩;have aZ:=Q01 (show dl.length=lt.length by rw [←bu];exact Qb0 _ _ _);rw [bu] at ax a3;rw [bO] at ax;clear bu bO;go_wp2_with fail;refine (ax.out).mono ?_;rintro e v4 ⟨g7,f7,ar,rfl,cy,ao,f,cG⟩;have aY:=Q01 ao;have c0:=f.size;replace M:=Q01 ((f.block _ (by omega)).trans M.out);replace ai:=Q01 ((f.block _ (by omega)).trans ai.out);replace C:=Q01 (C.out.step (Stp.of (lo:=0) (hi:=0) f) (.inl (Kcq _)));clear ax ao aa
  replace z0:=bC f z0 y;replace z1:=bC f z1 y;replace z2:=bC f z2 y;replace z3:=bC f z3 y;replace z4:=bC f z4 y;replace z5:=bC f z5 y;replace z6:=bC f z6 y;replace y:=Kbq y f.size;replace x0:=bC f x0 zx;replace x1:=bC f x1 zx;replace zx:=Kbq zx f.size;replace r0:=bC f r0 m;replace r1:=bC f r1 m;replace r2:=bC f r2 m;replace r3:=bC f r3 m;replace r4:=bC f r4 m;replace r5:=bC f r5 m;replace r6:=bC f r6 m;replace O:=bF f O m;replace P:=bF f P m;replace R:=bF f R m;replace T:=bF f T m;replace U:=bF f U m;replace V:=bF f V m
  replace X:=bF f X m;replace m:=Kbq m f.size;replace u0:=bC f u0 r;replace u1:=bC f u1 r;replace u2:=bC f u2 r;replace u3:=bC f u3 r;replace u4:=bC f u4 r;replace u5:=bC f u5 r;replace u6:=bC f u6 r;replace ab:=bF f ab r;replace ac:=bF f ac r;replace ad:=bF f ad r;replace ae:=bF f ae r;replace af:=bF f af r;replace ag:=bF f ag r;replace ah:=bF f ah r;replace r:=Kbq r f.size;replace t0:=bC f t0 zt;replace aj:=bF f aj zt;replace zt:=Kbq zt f.size;replace q0:=bC f q0 zq;replace q1:=bC f q1 zq;replace q2:=bC f q2 zq
  replace q3:=bC f q3 zq;replace q4:=bC f q4 zq;replace zq:=Kbq zq f.size;replace HB:=Q01 (HB.out.trans (f.mono HB.out.size));clear f
  have am:w.heap.size < v2.heap.size:=by omega
  have ba:w.heap.size+1 < v2.heap.size:=by omega
  have z:w.heap.size+1+1 < v2.heap.size:=by omega
  have A:Z.heap.size < v2.heap.size:=by omega
  have aK:v2.heap.size+1≤v3.heap.size:=by omega
  obtain ⟨W7,bM⟩:∃W,v4.setCell ⟨v2.heap.size,0,none⟩ (.slice (some ⟨g7,f7,none⟩) s ar)=W:=⟨_,rfl⟩
  have s7:Stp v2.heap.size (v2.heap.size+1) v4 W7:=by rw [←bM];exact Q0x v4 v2.heap.size 0 _
  have X7:W7.heap[v2.heap.size]? =some (.cells #[.slice (some ⟨g7,f7,none⟩) s ar] 32 (0,0)):=by rw [←bM];exact Q06 ai.out 0 _
  have c2:=s7.size
  have bT:g7 < v2.heap.size∨v2.heap.size+1≤g7:=by omega
  replace aY:Hid (∀i,i < dl.length→∀j,j < Q0g.k→W7.cell? ⟨g7,f7+i * Q0g.k+j,none⟩=(Q0g.cs (dl.getD i Q0g.d))[j]?):=Q01 (fun i hi j hj=> (Q3s s7 (b:=g7) (j:=f7+i * Q0g.k+j) cy bT).trans (aY.out i hi j hj));replace M:=Q01 (s7.box M.out (.inl (by omega)));replace C:=Q01 (C.out.step s7 (.inr (by omega)));replace ai:=Q01 X7;have be:=Q01 (Q00 X7 0 _ rfl);have bD:=Q01 (Q02 X7 0);clear X7;have aA:=Q01 (Q6c g7 f7 ar dl a p v (now+50) W7 (by rw [aZ.out];exact a5.out) (by rw [aZ.out];have:=aW.out;omega) bQ (by omega) aY.out);rw [aZ.out,az.out.2.2.2] at aA
  obtain ⟨aC,aJ⟩:∃x,Q4d dl a p v (now+50)=x:=⟨_,rfl⟩;obtain ⟨cP,bc⟩:∃x,(Q0Z dl a p).1=x:=⟨_,rfl⟩;have ci:=Q01 (show aC.length=lt.length by rw [←aJ,Q9D];exact aZ.out);rw [aJ] at aA a3;rw [bc] at aA;clear aJ bc;have t9:W7.cell? ⟨v2.heap.size,0,none⟩=some (.slice (some ⟨g7,f7,none⟩) s ar):=be.out;have bH:=Q01 s7;have cf:=s7.cellP x0 (.inl ba);have cg:=s7.cellP x1 (.inl ba);clear s7;go_wp2_with fail;have s7:=bH.out;clear t9 cf cg;replace z0:=s7.cellP z0 (.inl am);replace z1:=s7.cellP z1 (.inl am);replace z2:=s7.cellP z2 (.inl am)
  replace z3:=s7.cellP z3 (.inl am);replace z4:=s7.cellP z4 (.inl am);replace z5:=s7.cellP z5 (.inl am);replace z6:=s7.cellP z6 (.inl am);replace y:=Kbq y s7.size;replace x0:=s7.cellP x0 (.inl ba);replace x1:=s7.cellP x1 (.inl ba);replace zx:=Kbq zx s7.size;replace r0:=s7.cellP r0 (.inl z);replace r1:=s7.cellP r1 (.inl z);replace r2:=s7.cellP r2 (.inl z);replace r3:=s7.cellP r3 (.inl z);replace r4:=s7.cellP r4 (.inl z);replace r5:=s7.cellP r5 (.inl z);replace r6:=s7.cellP r6 (.inl z);replace O:=Stp.frozen s7 O m (.inl z);replace P:=Stp.frozen s7 P m (.inl z)
  replace R:=Stp.frozen s7 R m (.inl z);replace T:=Stp.frozen s7 T m (.inl z);replace U:=Stp.frozen s7 U m (.inl z);replace V:=Stp.frozen s7 V m (.inl z);replace X:=Stp.frozen s7 X m (.inl z);replace m:=Kbq m s7.size;replace u0:=s7.cellP u0 (.inl A);replace u1:=s7.cellP u1 (.inl A);replace u2:=s7.cellP u2 (.inl A);replace u3:=s7.cellP u3 (.inl A);replace u4:=s7.cellP u4 (.inl A);replace u5:=s7.cellP u5 (.inl A);replace u6:=s7.cellP u6 (.inl A);replace ab:=Stp.frozen s7 ab r (.inl A);replace ac:=Stp.frozen s7 ac r (.inl A)
  replace ad:=Stp.frozen s7 ad r (.inl A);replace ae:=Stp.frozen s7 ae r (.inl A);replace af:=Stp.frozen s7 af r (.inl A);replace ag:=Stp.frozen s7 ag r (.inl A);replace ah:=Stp.frozen s7 ah r (.inl A);replace r:=Kbq r s7.size;replace q0:=s7.cellP q0 (.inr aK);replace q1:=s7.cellP q1 (.inr aK);replace q2:=s7.cellP q2 (.inr aK);replace q3:=s7.cellP q3 (.inr aK);replace q4:=s7.cellP q4 (.inr aK);replace zq:=Kbq zq s7.size;replace zt:=Kbq zt s7.size;replace HB:=Q01 (HB.out.trans (s7.below (by omega) HB.out.size));clear t0 aj
  have t0:W7.cell? ⟨v2.heap.size,0,none⟩=some (.slice (some ⟨g7,f7,none⟩) s ar):=be.out;have aj:=bD.out;clear be bD s7 bH;refine (aA.out).mono ?_;rintro e v5 ⟨g6,f6,N,rfl,cx,an,f,cF⟩;have aX:=Q01 an;have c1:=f.size;replace M:=Q01 ((f.block _ (by omega)).trans M.out);replace ai:=Q01 ((f.block _ (by omega)).trans ai.out);replace C:=Q01 (C.out.step (Stp.of (lo:=0) (hi:=0) f) (.inl (Kcq _)));clear aA an aY;replace z0:=bC f z0 y;replace z1:=bC f z1 y;replace z2:=bC f z2 y;replace z3:=bC f z3 y;replace z4:=bC f z4 y;replace z5:=bC f z5 y
  replace z6:=bC f z6 y;replace y:=Kbq y f.size;replace x0:=bC f x0 zx;replace x1:=bC f x1 zx;replace zx:=Kbq zx f.size;replace r0:=bC f r0 m;replace r1:=bC f r1 m;replace r2:=bC f r2 m;replace r3:=bC f r3 m;replace r4:=bC f r4 m;replace r5:=bC f r5 m;replace r6:=bC f r6 m;replace O:=bF f O m;replace P:=bF f P m;replace R:=bF f R m;replace T:=bF f T m;replace U:=bF f U m;replace V:=bF f V m;replace X:=bF f X m;replace m:=Kbq m f.size;replace u0:=bC f u0 r;replace u1:=bC f u1 r;replace u2:=bC f u2 r;replace u3:=bC f u3 r
  replace u4:=bC f u4 r;replace u5:=bC f u5 r;replace u6:=bC f u6 r;replace ab:=bF f ab r;replace ac:=bF f ac r;replace ad:=bF f ad r;replace ae:=bF f ae r;replace af:=bF f af r;replace ag:=bF f ag r;replace ah:=bF f ah r;replace r:=Kbq r f.size;replace t0:=bC f t0 zt;replace aj:=bF f aj zt;replace zt:=Kbq zt f.size;replace q0:=bC f q0 zq;replace q1:=bC f q1 zq;replace q2:=bC f q2 zq;replace q3:=bC f q3 zq;replace q4:=bC f q4 zq;replace zq:=Kbq zq f.size;replace HB:=Q01 (HB.out.trans (f.mono HB.out.size));clear f
  obtain ⟨W8,bN⟩:∃W,v5.setCell ⟨v2.heap.size,0,none⟩ (.slice (some ⟨g6,f6,none⟩) s N)=W:=⟨_,rfl⟩
  have s8:Stp v2.heap.size (v2.heap.size+1) v5 W8:=by rw [←bN];exact Q0x v5 v2.heap.size 0 _
  have X8:W8.heap[v2.heap.size]? =some (.cells #[.slice (some ⟨g6,f6,none⟩) s N] 32 (0,0)):=by rw [←bN];exact Q06 ai.out 0 _
  have c3:=s8.size
  have bS:g6 < v2.heap.size∨v2.heap.size+1≤g6:=by omega
  replace aX:Hid (∀i,i < aC.length→∀j,j < Q0g.k→W8.cell? ⟨g6,f6+i * Q0g.k+j,none⟩=(Q0g.cs (aC.getD i Q0g.d))[j]?):=Q01 (fun i hi j hj=> (Q3s s8 (b:=g6) (j:=f6+i * Q0g.k+j) cx bS).trans (aX.out i hi j hj));replace M:=Q01 (s8.box M.out (.inl (by omega)));replace C:=Q01 (C.out.step s8 (.inr (by omega)));have t8:=Q00 X8 0 _ rfl;have cQ:=Q02 X8 0;clear X8 ai;have cI:=s8.cellP u0 (.inl A);have cJ:=s8.cellP u1 (.inl A);have cK:=s8.cellP u2 (.inl A);have cL:=s8.cellP u3 (.inl A);have cM:=s8.cellP u4 (.inl A);have cN:=s8.cellP u5 (.inl A)
  have cO:=s8.cellP u6 (.inl A);have cn:=Stp.frozen s8 ab r (.inl A);have co:=Stp.frozen s8 ac r (.inl A);have cp:=Stp.frozen s8 ad r (.inl A);have cq:=Stp.frozen s8 ae r (.inl A);have cr:=Stp.frozen s8 af r (.inl A);have cu:=Stp.frozen s8 ag r (.inl A);have cv:=Stp.frozen s8 ah r (.inl A);have b5:=s8.cellP r0 (.inl z);have b6:=s8.cellP r1 (.inl z);have b7:=s8.cellP r2 (.inl z);have b8:=s8.cellP r3 (.inl z);have b9:=s8.cellP r4 (.inl z);have ca:=s8.cellP r5 (.inl z);have cc:=s8.cellP r6 (.inl z)
  have bm:=Stp.frozen s8 O m (.inl z);have bn:=Stp.frozen s8 P m (.inl z);have bo:=Stp.frozen s8 R m (.inl z);have bp:=Stp.frozen s8 T m (.inl z);have bq:=Stp.frozen s8 U m (.inl z);have bs:=Stp.frozen s8 V m (.inl z);have bt:=Stp.frozen s8 X m (.inl z);have bB:=Q01 (HB.out.trans (s8.below (by omega) HB.out.size));have db:=Kbq m s8.size;clear s8
  have bw:g6 < Z.heap.size∨Z.heap.size+1≤g6:=by omega
  have bx:g6 < w.heap.size+1+1∨w.heap.size+1+1+1≤g6:=by omega
  have X5:(W8.setCell ⟨Z.heap.size,6,none⟩ (.slice (some ⟨g6,f6,none⟩) s N)).heap[Z.heap.size]? =some (.cells #[.int .i64 kj,.slice o9 G c9,.int .i64 sj,.int .i64 kp,.slice L H F,.slice J I E,.slice (some ⟨g6,f6,none⟩) s N] 34 (0,0)):=Q06 M.out 6 _;have s5:Stp Z.heap.size (Z.heap.size+1) W8 (W8.setCell ⟨Z.heap.size,6,none⟩ (.slice (some ⟨g6,f6,none⟩) s N)):=Q0x W8 Z.heap.size 6 _;obtain ⟨y0,y1,y2,y3,y4,y5,y6⟩:=cxb7v0v0 X5;have aP:=s5.cellP b5 (.inl B);have aQ:=s5.cellP b6 (.inl B);have aR:=s5.cellP b7 (.inl B)
  have aS:=s5.cellP b8 (.inl B);have aT:=s5.cellP b9 (.inl B);have aU:=s5.cellP ca (.inl B);have aV:=s5.cellP cc (.inl B);have bf:=Stp.frozen s5 bm (by omega) (.inl B);have bg:=Stp.frozen s5 bn (by omega) (.inl B);have bh:=Stp.frozen s5 bo (by omega) (.inl B);have bi:=Stp.frozen s5 bp (by omega) (.inl B);have bj:=Stp.frozen s5 bq (by omega) (.inl B);have bk:=Stp.frozen s5 bs (by omega) (.inl B);have bl:=Stp.frozen s5 bt (by omega) (.inl B)
  have ay:Hid (OrBr w.heap.size (Q20 (W8.setCell ⟨Z.heap.size,6,none⟩ (.slice (some ⟨g6,f6,none⟩) s N)) (w.heap.size+1+1) (.int .i64 kj) (.slice o9 G c9) (.int .i64 sj) (.int .i64 kp) (.slice L H F) (.slice J I E) (.slice (some ⟨g6,f6,none⟩) s N)).heap.size (Q20 (W8.setCell ⟨Z.heap.size,6,none⟩ (.slice (some ⟨g6,f6,none⟩) s N)) (w.heap.size+1+1) (.int .i64 kj) (.slice o9 G c9) (.int .i64 sj) (.int .i64 kp) (.slice L H F) (.slice J I E) (.slice (some ⟨g6,f6,none⟩) s N)) (Q13 kj (.slice o9 G c9) sj kp (.slice L H F) (.slice J I E) (.slice (some ⟨g6,f6,none⟩) s N)) (Q4q ⟨⟨kj,lj,sj⟩,⟨kp,lb,lr⟩,lt⟩ now a p v)∧Below w.heap.size w (Q20 (W8.setCell ⟨Z.heap.size,6,none⟩ (.slice (some ⟨g6,f6,none⟩) s N)) (w.heap.size+1+1) (.int .i64 kj) (.slice o9 G c9) (.int .i64 sj) (.int .i64 kp) (.slice L H F) (.slice J I E) (.slice (some ⟨g6,f6,none⟩) s N))):=by
   have sR:=Q1b (W8.setCell ⟨Z.heap.size,6,none⟩ (.slice (some ⟨g6,f6,none⟩) s N)) (w.heap.size+1+1) (.int .i64 kj) (.slice o9 G c9) (.int .i64 sj) (.int .i64 kp) (.slice L H F) (.slice J I E) (.slice (some ⟨g6,f6,none⟩) s N)
   have al:(Q20 (W8.setCell ⟨Z.heap.size,6,none⟩ (.slice (some ⟨g6,f6,none⟩) s N)) (w.heap.size+1+1) (.int .i64 kj) (.slice o9 G c9) (.int .i64 sj) (.int .i64 kp) (.slice L H F) (.slice J I E) (.slice (some ⟨g6,f6,none⟩) s N)).heap.size=(W8.setCell ⟨Z.heap.size,6,none⟩ (.slice (some ⟨g6,f6,none⟩) s N)).heap.size:=Q0C _ _ _ _ _ _ _ _ _;have cD:=s5.size;have aD:=(C.out.step s5 (.inr (Kaq _))).step sR (.inl (by omega))
   have aI:∀i,i < aC.length→∀j,j < Q0g.k→(Q20 (W8.setCell ⟨Z.heap.size,6,none⟩ (.slice (some ⟨g6,f6,none⟩) s N)) (w.heap.size+1+1) (.int .i64 kj) (.slice o9 G c9) (.int .i64 sj) (.int .i64 kp) (.slice L H F) (.slice J I E) (.slice (some ⟨g6,f6,none⟩) s N)).cell? ⟨g6,f6+i * Q0g.k+j,none⟩=(Q0g.cs (aC.getD i Q0g.d))[j]? :=fun i hi j hj=> (Q3s sR (b:=g6) (j:=f6+i * Q0g.k+j) (by omega) bx).trans ((Q3s s5 (b:=g6) (j:=f6+i * Q0g.k+j) (by omega) bw).trans (aX.out i hi j hj))
   exact ⟨a1.out _ _ _ _ _ ci.out a3.out aD aI (by rw [al];omega) (by rw [al];omega) (by omega),Q0v (bB.out.trans (s5.below (by omega) bB.out.size)) (by omega) _ _ _ _ _ _ _⟩
  clear a1 X5 s5 C aX M;go_wp2;refine bodyPost_ret (v:=Q13 kj (.slice o9 G c9) sj kp (.slice L H F) (.slice J I E) (.slice (some ⟨g6,f6,none⟩) s N)) (by simp [results,Tryz.results129,go_sem,r0,r1,r2,r3,r4,r5,r6,aP,aQ,aR,aS,aT,aU,aV]) rfl ⟨_,rfl,ay.out.1,ay.out.2⟩
theorem Q7U (l:List Sl):∀k,k≤l.length→(Q4c l k=sl0∧∀j,j < k→(l.getD j sl0).u=false)∨∃j,j < k∧Q4c l k=l.getD j sl0∧(l.getD j sl0).u=true
 |0,_=> .inl ⟨rfl,fun j c=> absurd c (Nat.not_lt_zero _)⟩
 |k+1,hk=> by
  have d:=Q7U l k (by omega);rw [Q5j (by omega)]
  cases hu:(l.getD k sl0).u with
  |false=>
   rw [Q3Y hu]
   rcases d with ⟨a,h2⟩|⟨j,a,h2,b⟩
   ·refine .inl ⟨a,fun j c=> ?_⟩
    by_cases e:j=k
    ·subst e;exact hu
    ·exact h2 j (by omega)
   ·exact .inr ⟨j,by omega,h2,b⟩
  |true=>
   rcases d with ⟨a,h2⟩|⟨j,a,h2,b⟩
   ·rw [a,Q3j hu rfl];exact .inr ⟨k,by omega,rfl,hu⟩
   ·rw [h2]
    by_cases ht:(l.getD k sl0).t < (l.getD j sl0).t
    ·rw [Q41 hu ht];exact .inr ⟨k,by omega,rfl,hu⟩
    ·rw [Q43 b ht];exact .inr ⟨j,by omega,rfl,b⟩
theorem QfS {l:List Sl} {a p:Int} (b:Q0c l=true) (h:(Q0Z l a p).1 < 0):Q0h (Q26 l).a (Q26 l).p=true:=by
 have m:=(Q07.1 b).1;have i:=Q1q (show 0 < l.length by omega) a p
 have c:(l.getD (Q0S l.length a p) sl0).u=true:=by
  cases c:(l.getD (Q0S l.length a p) sl0).u with
  |true=> rfl
  |false=>
   obtain ⟨n,k⟩:∃n,l.length=n+1:=⟨l.length - 1,by omega⟩
   have e:Q0Z l a p=((Q0S l.length a p:Int),false):=by
    unfold Q0Z;have:=Q2J (a:=a) (p:=p) (f:=n) c;rw [←k] at this;exact this
   rw [e] at h;dsimp only at h;omega
 rcases Q7U l l.length (Kaq _) with ⟨_,h2⟩|⟨j,d,h2,g⟩
 ·rw [h2 _ i] at c;cases c
 ·show Q0h (Q4c l l.length).a (Q4c l l.length).p=true
  rw [h2];exact Q2l b j d g
def Q5D (m:Bm) (now a p v:Int):Bool:=Q2g m && ((decide (0≤now) && decide (now≤100000)) && (Q0h a p && (decide (0≤v) && decide (v < 6))))
def Q2q (m:Bm) (now a p v:Int):Bm:=if Q5D m now a p v=true then Q4q m now a p v else bm0
theorem Qd4 (l:List Sl) (now a p v:Int):(Q1I l now a p v).length=l.length:=by unfold Q1I;split <;> simp [Q9D,Qb0]
structure DInv (k B R:Nat) (w0 wr:World) (m:List Sl) (b off c:Nat):Prop where
 ok:Q0c m=true
 cur:isCur k wr
 box:wr.heap[B]? =some (.cells #[.slice (some ⟨b,off,none⟩) m.length c] 32 (0,0))
 res:wr.heap[R]? =some (.cells #[.slice none 0 0] 32 (0,0))
 lt:b < wr.heap.size
 ge:w0.heap.size≤b
 rd:(∀i,i < m.length→∀j,j < Q0g.k→wr.cell? ⟨b,off+i * Q0g.k+j,none⟩=(Q0g.cs (m.getD i Q0g.d))[j]?)
 gr:w0.grownBy wr (some k)
theorem DInv.draw {k B R:Nat} {f wr x:World} {m:List Sl} {b off c:Nat} (h:DInv k B R f wr m b off c) (t:k < f.heap.size) (r:f.heap.size≤B) (s:f.heap.size≤R) (d:wr.drew.grownBy x (some k)) (p:isCur k x):DInv k B R f x m b off c:=by
 have a:wr.grownBy x (some k):=⟨d.os,d.tape,d.output,d.size,d.block⟩;have g:=(Array.getElem?_eq_some_iff.1 h.box).1;have l:=(Array.getElem?_eq_some_iff.1 h.res).1;have n:=h.ge;refine ⟨h.ok,p,(a.block B g (by simp;omega)).trans h.box,(a.block R l (by simp;omega)).trans h.res,Kbq h.lt a.size,h.ge,fun i hi j q=> (Q3E a h.lt (by omega)).trans (h.rd i hi j q),Q05 h.gr a⟩
theorem DInv.draw0 {k B R:Nat} {d wr x:World} {m:List Sl} {b off c:Nat} (h:DInv k B R d wr m b off c) (j:k < d.heap.size) (f:d.heap.size≤B) (g:d.heap.size≤R) (a:wr.grownBy x (some k)) (i:isCur k x):DInv k B R d x m b off c:=
 h.draw j f g ⟨a.os,a.tape,a.output,a.size,a.block⟩ i
theorem DInv.cell {k B R:Nat} {w0 wr:World} {m:List Sl} {b off c:Nat} (h:DInv k B R w0 wr m b off c):wr.cell? ⟨B,0,none⟩=some (.slice (some ⟨b,off,none⟩) m.length c):=Q0m h.box 0 _ rfl
theorem DInv.curd {k B R:Nat} {w0 wr:World} {m:List Sl} {b off c:Nat} (h:DInv k B R w0 wr m b off c):isCur k wr.drew:=h.cur.below (Below.drew (Below.refl _ _))
theorem DInv.size {k B R:Nat} {w0 wr:World} {m:List Sl} {b off c:Nat} (h:DInv k B R w0 wr m b off c) (hk:k < w0.heap.size):k < wr.heap.size:=Kbq hk h.gr.size
theorem DInv.store {k B R:Nat} {l x y:World} {m g:List Sl} {b off c f a c2:Nat} (h:DInv k B R l x m b off c) (L:k < l.heap.size) (E:l.heap.size≤B) (F:R < B) (J:l.heap.size≤R) (hm:Q0c g=true) (s:Below x.heap.size x y) (v:f < y.heap.size) (q:(∀i,i < g.length→∀j,j < Q0g.k→y.cell? ⟨f,a+i * Q0g.k+j,none⟩=(Q0g.cs (g.getD i Q0g.d))[j]?)) (D:f=b∨x.heap.size≤f):DInv k B R l (y.setCell ⟨B,0,none⟩ (.slice (some ⟨f,a,none⟩) g.length c2)) g f a c2:=by
 have u:=(Array.getElem?_eq_some_iff.1 h.box).1;have z:=(Array.getElem?_eq_some_iff.1 h.res).1;have n:=(s.block B u).trans h.box;have A:=(s.block R z).trans h.res;have w:f≠B:=Qdd (by have:=(Q07.1 hm).1;omega) n q;have C:=h.gr.size;have G:=h.ge;have t:Below (k+1) x (y.setCell ⟨B,0,none⟩ (.slice (some ⟨f,a,none⟩) g.length c2)):=(s.mono (by omega)).setCell (p:=⟨B,0,none⟩) (show k+1≤B by omega) _
 refine ⟨hm,h.cur.below t,Q4M y B 0 _ _ _ n,(Below.heap_setCell y ⟨B,0,none⟩ _ R (by simp;omega)).trans A,by simpa using v,by omega,fun i hi j H=> (World.cell?_setCell_far _ _ _ _ (fun e=> w e.symm)).trans (q i hi j H), ?_⟩;have r:Below l.heap.size x (y.setCell ⟨B,0,none⟩ (.slice (some ⟨f,a,none⟩) g.length c2)):=(s.mono C).setCell (p:=⟨B,0,none⟩) E _;exact ⟨r.os.trans h.gr.os,r.tape.trans h.gr.tape,r.output.trans h.gr.output,Kdq h.gr.size r.size,fun i hi I=> (r.block i hi).trans (h.gr.block i hi I)⟩
theorem Q57 {a p:Int} (ha:1≤a∧a≤3) (hp:80≤p∧p≤82):Q0h a p=true:=Q2j.2 (by omega)
theorem Q97 {l:List Sl} {a p:Int} (h:Q0c l=true):Q0c (Q48 l a p)=true:=by
 have b:=(Q07.1 h).1
 rcases Q1f l (by omega) a p with e|⟨i,hi,⟨e,_⟩|⟨e,_⟩⟩
 ·rw [Q6T (by rw [e])];exact h
 ·rw [Q6T (by rw [e])];exact h
 ·rw [Q5P e];exact Q8N h hi
theorem DInv.boxlt {k B R:Nat} {w0 wr:World} {m:List Sl} {b off c:Nat} (h:DInv k B R w0 wr m b off c):B < wr.heap.size:=(Array.getElem?_eq_some_iff.1 h.box).1
theorem DInv.frz {k B R:Nat} {w0 wr:World} {m:List Sl} {b off c:Nat} (h:DInv k B R w0 wr m b off c):wr.frozen? ⟨B,0,none⟩=false:=Q2f h.box 0
theorem DInv.dropped {k B:Nat} {w x y:World} {m:List Sl} {a p:Int} {b off c g f c2:Nat} (h:DInv k B w.heap.size w x m b off c) (t:k < w.heap.size) (r:w.heap.size < B) (n:g < y.heap.size) (q:(∀i,i < (Q48 m a p).length→∀j,j < Q0g.k→y.cell? ⟨g,f+i * Q0g.k+j,none⟩=(Q0g.cs ((Q48 m a p).getD i Q0g.d))[j]?)) (s:Below x.heap.size x y) (l:g=b∨x.heap.size≤g):DInv k B w.heap.size w (y.setCell ⟨B,0,none⟩ (.slice (some ⟨g,f,none⟩) m.length c2)) (Q48 m a p) g f c2:=by
 have h2:=h.store (c2:=c2) t (Nat.le_of_lt r) r (Kaq _) (Q97 h.ok) s n q l
 rwa [Qat] at h2
theorem DInv.putted {k B:Nat} {w x y:World} {m:List Sl} {a p v t:Int} {b off c g f c2:Nat} (h:DInv k B w.heap.size w x m b off c) (C:k < w.heap.size) (u:w.heap.size < B) (A:Q0h a p=true) (s:0≤v) (hv:v < 6) (r:0≤t) (D:t < 40) (n:g < y.heap.size) (q:(∀i,i < (Q4d m a p v t).length→∀j,j < Q0g.k→y.cell? ⟨g,f+i * Q0g.k+j,none⟩=(Q0g.cs ((Q4d m a p v t).getD i Q0g.d))[j]?)) (z:Below x.heap.size x y) (l:g=b∨x.heap.size≤g):DInv k B w.heap.size w (y.setCell ⟨B,0,none⟩ (.slice (some ⟨g,f,none⟩) m.length c2)) (Q4d m a p v t) g f c2:=by
 have h2:=h.store (c2:=c2) C (Nat.le_of_lt u) u (Kaq _) (Q7p h.ok A ⟨s,by omega⟩ ⟨r,by omega⟩) z n q l
 rwa [Q7Q] at h2
theorem DInv.ended {k B:Nat} {w x y:World} {m:List Sl} {b off c:Nat} (h:DInv k B w.heap.size w x m b off c) (f:k < w.heap.size) (d:Below x.heap.size x y) (v:Value):isCur k (y.setCell ⟨w.heap.size,0,none⟩ v)∧w.grownBy (y.setCell ⟨w.heap.size,0,none⟩ v) (some k):=by
 have hs:=h.gr.size;have a:Below w.heap.size x (y.setCell ⟨w.heap.size,0,none⟩ v):=(d.mono hs).setCell (p:=⟨w.heap.size,0,none⟩) (Kaq _) v;refine ⟨h.cur.below (a.mono f),a.os.trans h.gr.os,a.tape.trans h.gr.tape,a.output.trans h.gr.output,Kdq hs a.size,fun i hi g=> (a.block i hi).trans (h.gr.block i hi g)⟩
theorem Qhk {n:Int} (b:1≤n) (h2:n≤16):Q0c (Q8g n)=true:=by
 have e:Q8g n=List.replicate n.toNat sl0:=by unfold Q8g;rw [if_pos ⟨b,h2⟩]
 rw [e];refine Q07.2 ⟨by rw [List.length_replicate];omega,by rw [List.length_replicate];omega,fun i hi=> ?_⟩;rw [List.length_replicate] at hi
 have a:(List.replicate n.toNat sl0).getD i sl0=sl0:=by simp [List.getD_eq_getElem?_getD,List.getElem?_replicate,hi]
 exact Q4L (by rw [a] <;> rfl) (by rw [a] <;> rfl)
theorem Qdn (k:Nat) (w:World) (hc:isCur k w) (E:k < w.heap.size):
  Calls Tryz.prog 136 #[.pointer (some ⟨k,0,none⟩)] w fun e w'=> ∃v' m,e=.returned v'∧Q0c m=true∧InTb w.heap.size w'.heap.size w' v' m∧isCur k w'∧w.grownBy w' (some k):=by
 obtain ⟨W0,C⟩:∃W,w.alloc (.cells #[.slice none 0 0] 32)=W:=⟨_,rfl⟩;have af:=alb0v0v1 C
 have aj:w.grownBy W0 (some k):=by rw [←C];exact World.grownBy_alloc w _ _
 have ac:Hid _:=alx0v0v1 C;have U:=alz0v0v1 C;have X:=Q01 (hc.below (af.mono E));have Z:=Q01 aj;clear af aj hc;go_enter Tryz.func136,Tryz.ntmps136;go_wp2_with fail;refine (Q0p k 8 W0 X.out (by decide) (by decide)).mono ?_;rintro e M ⟨x,rfl,x0,x8,ag,J⟩;have Y:=Q01 ag;have aa:=Q01 (Q05 Z.out J);have ad:Hid (M.heap[w.heap.size]? =some (.cells #[.slice none 0 0] 32 (0,0))):=(J.block _ U (by simp;omega)).trans ac.out;have ao:w.heap.size < M.heap.size:=Kbq U J.size;clear ag J ac X Z C U;go_wp2_with fail;refine (Q6G (1+x) M).mono ?_
 rintro e v2 ⟨vt,rfl,⟨vl,rfl,t,_⟩,q⟩;have HK:=Q01 (Qhk (n:=1+x) (by omega) (by omega));generalize Qca (1+x)=fb;obtain ⟨m,hm⟩:∃m,Q8g (1+x)=m:=⟨_,rfl⟩;rw [hm] at t HK;clear hm
 obtain ⟨g,cap,rfl⟩:∃g cap,vl=.slice (some ⟨g,0,none⟩) m.length cap:=by
  rcases t.2 with ⟨h1,h2⟩|⟨g,cap,aA,h1,_⟩
  ·have:=(Q07.1 HK.out).1;omega
  ·exact ⟨g,cap,h1⟩
 have R:=t.lt g rfl;obtain ⟨W3,P⟩:∃W,v2.alloc (.cells #[.slice (some ⟨g,0,none⟩) m.length cap] 32)=W:=⟨_,rfl⟩;have V:=q.size;have D:=alb0v0v1 P
 have ak:M.grownBy W3 (some k):=by
  have h:Below M.heap.size M W3:=q.trans (D.mono V);exact ⟨h.os,h.tape,h.output,h.size,fun i hi _=> h.block i hi⟩
 have N:Hid (DInv k v2.heap.size w.heap.size w W3 m g 0 cap):=by
  have ae:Below M.heap.size M W3:=q.trans (D.mono V);refine ⟨HK.out,Y.out.below (ae.mono (by omega)),by rw [←P];exact World.alloc_heap_new v2 _,(ae.block _ ao).trans ad.out,Kbq R.2 D.size,by omega,fun i hi j hj=> (D.cell (p:=⟨g,0+i * Q0g.k+j,none⟩) R.2).trans (Q1r t rfl i hi j hj),Q05 aa.out ak⟩
 have s:w.heap.size < v2.heap.size:=by omega
 generalize hBq:v2.heap.size=B at *;clear q D ak t R ad Y aa HK V ao;go_wp2_with fail;refine (Q0p k 10 W3 N.out.cur (by decide) (by decide)).mono ?_;rintro e v4 ⟨n2,rfl,n0,aD,ah,al⟩;have ab:=Q01 (N.out.draw0 E (Nat.le_of_lt s) (Kaq _) al ah);clear ah al N P hBq;go_wp2
 go_loopw [6] (fun iv wr=> ∃(i:Nat) (m:List Sl) (b off c:Nat),(i:Int)≤n2∧iv=.int .i64 i∧Hid (DInv k B w.heap.size w wr m b off c))
  (fun iv _=> n2.toNat - (intOf iv).toNat)
 case atStart=> exact ⟨0,m,g,0,cap,n0,rfl,ab⟩
 case round=>
  clear ab;obtain ⟨i,m,b,off,c,hi,rfl,u⟩:=hrel;have h1:=(Q07.1 u.out.ok).1;have aw:=(Q07.1 u.out.ok).2.1
  by_cases hlt:(i:Int) < n2
  ·go_wp2_with fail
   refine (Q1w k 4 wr u.out.cur (by decide) (by decide)).mono ?_;rintro e v5 ⟨y,rfl,ai,am⟩;have z:=Q01 (u.out.draw0 E (Nat.le_of_lt s) (Kaq _) am ai);have ct:=z.out.cell;have an:=z.out.size E;clear ai am u
   cases y with
   |true=>
    go_wp2
    go_region_with (first|(go_at_call 130;have d:=Q1T k v5.drew z.out.curd an;with_reducible refine d.mono ?_;clear d;rintro e x0 ⟨fa,fp,rfl,ha,hp,f,l⟩;have A:=Q01 (z.out.draw E (Nat.le_of_lt s) (Kaq _) l f);have k0:=A.out.cell;have hF:=Q01 (Q57 ha hp);clear f l)|(go_at_call 168;have d:=Q7z b off c m fa fp x0 (by omega) aw hF.out (Q2l A.out.ok) A.out.lt A.out.rd;with_reducible refine d.mono ?_;clear d;rintro e x1 ⟨b2,H,c2,rfl,q,G,r,F⟩;have k1:=(r.cell (p:=⟨B,0,none⟩) A.out.boxlt).trans k0;have f1:=(r.frozen (p:=⟨B,0,none⟩) A.out.boxlt).trans A.out.frz;have HS:=Q01 (A.out.dropped (c2:=c2) E s q G r F);clear q G r F))
    all_goals (
     go_wp2;go_roundw
     case rel=> exact ⟨i+1,_,b2,H,c2,by omega,by go_num,HS.out⟩
     case measure=> simp [intOf];omega)
   |false=>
    go_wp2
    go_region_with (first|(go_at_call 130;have d:=Q1T k v5.drew z.out.curd an;with_reducible refine d.mono ?_;clear d;rintro e x0 ⟨fa,fp,rfl,ha,hp,f,l⟩;have A:=Q01 (z.out.draw E (Nat.le_of_lt s) (Kaq _) l f);have k0:=A.out.cell;have hF:=Q01 (Q57 ha hp);clear f l)|(go_at_call 80;have d:=Q0p k 6 x0 A.out.cur (by decide) (by decide);with_reducible refine d.mono ?_;clear d;rintro e x1 ⟨av,rfl,aq,ar,f,l⟩;have I1:=Q01 (A.out.draw0 E (Nat.le_of_lt s) (Kaq _) l f);have k1:=I1.out.cell;clear f l)|(go_at_call 80;have d:=Q0p k 40 x1 I1.out.cur (by decide) (by decide);with_reducible refine d.mono ?_;clear d;rintro e x2 ⟨tv,rfl,az,ap,f,l⟩;have O:=Q01 (I1.out.draw0 E (Nat.le_of_lt s) (Kaq _) l f);have k2:=O.out.cell;clear f l)|(go_at_call 166;have d:=Q6c b off c m fa fp av tv x2 (by omega) (by omega) hF.out O.out.lt O.out.rd;with_reducible refine d.mono ?_;clear d;rintro e x3 ⟨b2,H,c2,rfl,q,G,r,F⟩;have k3:=(r.cell (p:=⟨B,0,none⟩) O.out.boxlt).trans k2;have f3:=(r.frozen (p:=⟨B,0,none⟩) O.out.boxlt).trans O.out.frz;have HS:=Q01 (O.out.putted (c2:=c2) E s hF.out aq ar az ap q G r F);clear q G r F))
    all_goals (
     go_wp2;go_roundw
     case rel=> exact ⟨i+1,_,b2,H,c2,by omega,by go_num,HS.out⟩
     case measure=> simp [intOf];omega)
  ·have e:(i:Int)=n2:=by omega
   have ct:=u.out.cell;have aC:decide ((i:Int) < n2)=false:=decide_eq_false hlt;have L:=Q5O b off c m wr u.out.lt u.out.rd (by omega);have T:w.heap.size < wr.heap.size:=(Array.getElem?_eq_some_iff.1 u.out.res).1;clear e;go_wp2_with fail;refine L.mono ?_;rintro e y ⟨o2,c2,rfl,ho,I⟩;have HE:=Q01 (u.out.ended E I (.slice o2 m.length c2));have au:=Q0m ((I.block _ T).trans u.out.res) 0 _ rfl;have aB:=Q2f ((I.block _ T).trans u.out.res) 0;have HO:=Q01 ho;have ax:=Q01 u.out.ok;have ay:=Q01 u.out.gr.size;clear L ho I ct u;go_wp2
   refine bodyPost_ret (v:=tab (.slice o2 m.length c2)) (by simp [results,Tryz.results136,go_sem,au]) rfl ⟨_,m,rfl,ax.out,⟨_,rfl, ?_⟩,HE.out.1,HE.out.2⟩;have h:=ownsRow_setCell_below HO.out (a:=⟨w.heap.size,0,none⟩) T (.slice o2 m.length c2);exact InRow.of (Q04 h ay.out)
theorem Qbs {m:Pm} (h:Q27 m=true):Q3M m m=true:=by
 unfold Q3M;rw [decide_eq_true rfl,decide_eq_true rfl,Bool.true_and,Bool.true_and];refine Q5N rfl (fun i hi=> ?_);have a:=(Q4S ((Q1B h).2.2.2.2 i hi)).1;unfold Q1k;rw [if_pos ⟨a,a⟩];exact Q3w 8 (fun _ _=> rfl)
theorem Qbe {m:Bm} (h1:Q0s m.j.key m.j.l m.j.safe=true) (h2:Q0c m.t=true) (h3:m.t.all isV=true) (h4:m.p=Q0Q m.j):Q2g m=true:=by
 unfold Q2g Q6M;rw [h1,h2,h3,h4,Qbs (Q44 h1)]
 rfl
theorem Q8U {m:Bm} (h:Q2g m=true):m.t.all isV=true:=by
 unfold Q2g Q6M at h;simp only [Bool.and_eq_true] at h;exact h.2.1.2
theorem Qga {m:Bm} {k i gg:Int} (a:Q2g m=true):Q2g (Q9c m k i gg)=true:=by
 unfold Q9c
 split
 ·next h=>
  have b:=Qch h;have c:=Q1N a;have d:=Q8U a;refine Qbe b.2.1 c d ?_
  show Qau m.p k i gg=_
  rw [Q2v a];exact b.2.2.2.1
 ·exact a
theorem QgJ {l:List Sl} (h:l.all isV=true) (k:Nat):isV (l.getD k sl0)=true:=by
 by_cases hk:k < l.length
 ·rw [List.getD_eq_getElem?_getD,List.getElem?_eq_getElem hk]
  exact List.all_eq_true.1 h _ (List.getElem_mem hk)
 ·rw [List.getD_eq_getElem?_getD,List.getElem?_eq_none (by omega)]
  decide
theorem Q9m {l:List Sl} (h:l.all isV=true) (k:Nat) {s:Sl} (hs:isV s=true):(l.set k s).all isV=true:=by
 rw [List.all_eq_true] at h ⊢;intro x a
 rcases List.mem_or_eq_of_mem_set a with a|rfl
 ·exact h x a
 ·exact hs
theorem Q61 (n:Nat):∀(g:Nat) (l:List Sl) (i k:Nat),l.all isV=true→(Q2B n g l i k).all isV=true
 |0,l,_,_,h=> h
 |g+1,l,i,k,h=> by
  unfold Q2B
  split
  ·split
   ·exact Q61 n g _ _ _ (Q9m (Q9m h _ (QgJ h k)) _ (by decide))
   ·exact Q61 n g _ _ _ h
  ·exact h
theorem Qeu {l:List Sl} (h:l.all isV=true) (a p:Int):(Q48 l a p).all isV=true:=by
 unfold Q48
 split
 ·exact Q61 _ _ _ _ _ (Q9m h _ (by decide))
 ·exact h
theorem QcR {l:List Sl} (h:l.all isV=true) (a p:Int) {v t:Int} (hv:0≤v∧v < 6):(Q4d l a p v t).all isV=true:=by
 unfold Q4d
 split
 ·exact Q9m h _ (by unfold isV;simp;omega)
 ·exact h
theorem Q8v {m:Bm} {now a p v:Int} (b:Q2g m=true) (g:0≤now) (h:now≤100000) (c:Q0h a p=true) (hv:0≤v∧v < 6):Q2g (Q4q m now a p v)=true:=by
 have d:=Q4Q b;have f:=Q2v b;refine Qbe d ?_ ?_ f
 ·show Q0c (Q1I m.t now a p v)=true
  unfold Q1I
  split
  ·exact Q7p (Q1N b) c (by omega) (by omega)
  ·exact Q7p (Q97 (Q1N b)) c (by omega) (by omega)
 ·show (Q1I m.t now a p v).all isV=true
  unfold Q1I
  split
  ·exact QcR (Q8U b) a p hv
  ·exact QcR (Qeu (Q8U b) _ _) a p hv
theorem Q83 {m:Bm} (h:Q2g m=true):fitBm m:=⟨by have:=(Q0X (Q4Q h)).2.1;omega,Q5K h,by have:=(Q07.1 (Q1N h)).2.1;omega⟩
theorem Qgv (key:Int) (n:Nat) (b:Q1P key=true) (d:1≤n) (h2:n≤16):Q2g ⟨⟨key,[],0⟩,⟨key,[],Q1e key [[]]⟩,List.replicate n sl0⟩=true:=by
 have a:Q0s key [] 0=true:=by unfold Q0s;rw [b];rfl
 refine Qbe a ?_ ?_ ?_
 ·show Q0c (List.replicate n sl0)=true
  have e:Q8g (n:Int)=List.replicate n sl0:=by unfold Q8g;rw [if_pos ⟨by omega,by omega⟩];simp
  rw [←e];exact Qhk (by omega) (by omega)
 ·show (List.replicate n sl0).all isV=true
  rw [List.all_eq_true];intro x c;rw [List.eq_of_mem_replicate c]
  decide
 ·show (⟨key,[],Q1e key [[]]⟩:Pm)=Q0Q ⟨key,[],0⟩
  unfold Q0Q;rw [if_pos a]
  rfl
end Go.Proofs.YtpneolgdghbinaaGreat
