/- Several texts in one: STickS, SLearnS, SDraw5T, BalStep, SBent5T, SBDraw, SDrSend, SDrBals. -/
import Derived.Test.YtpneolgdghbinaaGreatQCrashesL33
import Derived.Test.YtpneolgdghbinaaGreatQCrashesL34
namespace Go.Proofs.YtpneolgdghbinaaGreat
open Go.ChangeShapes Go.WideShapes Go.ChangeAt Go.RowKit Go.Joins
set_option linter.unusedVariables false
set_option linter.unusedSimpArgs false
set_option maxRecDepth 100000
set_option maxHeartbeats 40000000
def Qj4 (w:World) (v:Value) (m:Bm):Prop:=∃o c ob cb oR cR bt ft ct,v=Q0O m.j.key (.slice o m.j.l.length c) m.j.safe m.p.key (.slice ob m.p.l.length cb) (.slice oR m.p.ring.length cR) (.slice (some ⟨bt,ft,none⟩) m.t.length ct)/\RdC w.heap.size w o m.j.l/\(o=none->c=0)/\RdK w.heap.size w ob m.p.l/\(ob=none->cb=0)/\RcR 0 w.heap.size w (.slice oR m.p.ring.length cR) m.p.ring/\bt < w.heap.size/\(∀i,i < m.t.length->∀j,j < Q0g.k->w.cell? ⟨bt,ft+i * Q0g.k+j,none⟩=(Q0g.cs (m.t.getD i Q0g.d))[j]?)
theorem Q3o {lo hi b j:Nat} {w w':World} (s:Stp lo hi w w') (hb:b < w.heap.size) (hd:b < lo\/hi<=b):w'.cell? ⟨b,j,none⟩=w.cell? ⟨b,j,none⟩:=by
 simp only[World.cell?,s.block b hb hd]
theorem QgO {v:Value} {m:Bm} {w:World} (h:Qj4 w v m) (y:fitBm m):
  Calls Tryz.prog 131 #[v] w fun e a=> ∃b,e=.returned b/\OwBm w.heap.size a.heap.size a b m/\Below w.heap.size w a:=by
 obtain⟨o,c,A,g,z,f,d,k,i,e,n,h2,q,r,s,u,x⟩:=h;subst e;exact QgW m.j.key o _ c m.j.safe m.p.key A _ g z _ f d k _ i m.j.l m.p.l m.p.ring m.t w rfl rfl rfl rfl n h2 q r s u x y
def Qh6 (m:Bm) (now:Int):Bm:=⟨m.j,m.p,(Q8x m.t now).1⟩
def Qcj (m:Bm) (now:Int):Bool:=Q1J m && (decide (0<=now) && decide (now<=100000))
def Q7t (m:Bm) (now:Int):Bm:=if Qcj m now=true then Qh6 m now else bm0
def Q7g (m:Bm) (now:Int):Int:=if Qcj m now=true then((Q8x m.t now).2:Nat)else -1
def Q4U (l:List Sl) (now a p v:Int):List Sl:=if 0<=(Q1n l a p).1 then Q6R l a p v (now+50)else Q6R (Q3R l (Q5u l).a (Q5u l).p) a p v (now+50)
def roomV (v:Value):Prop:=Qi3 v/\∀o n c,v=.slice o n c->n<=c
theorem InRow.roomV {lo hi:Nat} {w:World} {e:TypeId} {size:Nat} {v:Value} {n:Nat} {d:List Value} (h:InRow lo hi w e size v n d):roomV v:=by
 refine⟨h.cap,fun o i c hv=>?_⟩
 rcases h.1.2 with⟨a,_⟩|⟨g,cap,b,a,_,_,f,_⟩
 ·rw[a]at hv
  injection hv with _ h2 h3;omega
 ·rw[a]at hv
  injection hv with _ h2 h3;omega
def OrBr (lo hi:Nat) (w:World) (v:Value) (m:Bm):Prop:=∃vl vb vr vt,v=Q0O m.j.key vl m.j.safe m.p.key vb vr vt/\RiV Q3F lo hi w vl m.j.l/\roomV vl/\RcPm lo hi w (plv m.p.key vb vr) m.p/\RiV Q0g lo hi w vt m.t
theorem OrBr.step {a b lo hi:Nat} {w d:World} {v:Value} {m:Bm} (h:OrBr a b w v m) (s:Stp lo hi w d) (c:hi<=a\/b<=lo):OrBr a b d v m:=by
 obtain⟨k,j,l,n,rfl,f,h2,g,i⟩:=h;exact⟨k,j,l,n,rfl,f.step s c,h2,g.step s c,i.step s c⟩
theorem OrBr.mono {a b f g:Nat} {w:World} {v:Value} {m:Bm} (h:OrBr a b w v m) (c:f<=a) (d:b<=g):OrBr f g w v m:=by
 obtain⟨n,l,p,q,rfl,i,h2,j,k⟩:=h;exact⟨n,l,p,q,rfl,i.mono c d,h2,j.mono c d,k.mono c d⟩
theorem OrBr.or {lo hi:Nat} {w:World} {v:Value} {m:Bm} (h:OrBr lo hi w v m) (d:hi<=w.heap.size) (q:0 < m.t.length):Qj4 w v m:=by
 obtain⟨H,G,I,J,rfl,y,h2,z,F,s,rfl,a⟩:=h;obtain⟨o,c,rfl,C⟩:=y.open;obtain⟨D,E,p,j,k,b,A⟩:=z;simp only[Value.agg.injEq,Array.mk.injEq,List.cons.injEq,and_true,true_and]at p;obtain⟨f,g⟩:=p;subst f g;obtain⟨u9,n,rfl,l⟩:=RiV.open j;obtain⟨B,u,rfl⟩:=RiR.len (RcR.ri b)
 rcases a with a|⟨r,x,rfl,_,i,a⟩
 ·rw[a]at q;simp at q
 ·exact⟨o,c,u9,n,B,u,r,x,s,rfl,C.le d,(fun h=>h2.1 _ _ (by rw[h])),l.le d,(fun h=>k _ _ (by rw[h])),RcR.mon.go b (Kcq _) d,Kbq i d,a⟩
theorem OwBm.br {lo hi:Nat} {w:World} {v:Value} {m:Bm} (h:OwBm lo hi w v m):OrBr lo hi w v m:=by
 obtain⟨g,f,j,k,rfl,⟨i,c,a⟩,h2,⟨l,d,b⟩⟩:=h;simp only[Value.agg.injEq,Array.mk.injEq,List.cons.injEq,and_true,true_and]at c d;subst c d;exact⟨g,f,j,k,rfl,InRow.ri a,InRow.roomV a,h2,InRow.ri b⟩
def Q79 (m:Bm) (now a p v:Int):Bm:=⟨m.j,m.p,Q4U m.t now a p v⟩
theorem QbX (l:List Sl) (a p v t:Int):(Q6R l a p v t).length=l.length:=by unfold Q6R;split <;> simp
theorem QdV (l:List Sl) (a p:Int):(Q3R l a p).length=l.length:=by unfold Q3R;split <;> simp[Q1p]
theorem Qbt (Z:Int) (o:Option Addr) (nj c:Nat) (sj kp:Int) (ob:Option Addr) (np cb:Nat) (oR:Option Addr) (nr cR:Nat) (ot:Option Addr) (nt ct:Nat) (lj:List Cd) (lb:List Bk) (lr:List (List (List Int))) (lt:List Sl) (now a p v:Int) (w:World)
  (bM:∀W:World,Below w.heap.size w W->Calls Tryz.prog 131 #[Q0O Z (.slice o nj c) sj kp (.slice ob np cb) (.slice oR nr cR) (.slice ot nt ct)] W fun e w'=> ∃v',e=.returned v'/\OwBm W.heap.size w'.heap.size w' v' ⟨⟨Z,lj,sj⟩,⟨kp,lb,lr⟩,lt⟩/\Below W.heap.size W w') (f:Q1J ⟨⟨Z,lj,sj⟩,⟨kp,lb,lr⟩,lt⟩=true) (hf:fitBm ⟨⟨Z,lj,sj⟩,⟨kp,lb,lr⟩,lt⟩) (cS:0<=now) (cT:now<=100000) (bR:Q0o a p=true) (bZ:(Q1n lt a p).1 < 0->Q0o (Q5u lt).a (Q5u lt).p=true) (bS:Q4o lt):
  Calls Tryz.prog 129 #[Q0O Z (.slice o nj c) sj kp (.slice ob np cb) (.slice oR nr cR) (.slice ot nt ct),.int .i64 now,Qb3 a p,.int .i64 v] w fun e w'=> ∃v',e=.returned v'/\OrBr w.heap.size w'.heap.size w' v' (Q79 ⟨⟨Z,lj,sj⟩,⟨kp,lb,lr⟩,lt⟩ now a p v)/\Below w.heap.size w w':=by
 have cG:IntKind.i64.wrap (now+50)=now+50:=by rw[IntKind.wrap_i64];omega
 have bH:=Q02 bM;have bL:=(Q0d.1 (show Q0e lt=true from Q1F f)).2.1;have a5:=Q02 (show 0 < lt.length from Q3V f);have be:=Q02 bZ;have ch:=Q02 bS;have aW:=Q02 bL;clear bM f hf bZ bS bL;obtain⟨W0,ak⟩:∃W,(((w.alloc (.cells #[.int .i64 Z,.slice o nj c,.int .i64 sj,.int .i64 kp,.slice ob np cb,.slice oR nr cR,.slice ot nt ct] 34)).alloc (.cells #[.int .i64 a,.int .i64 p] 36)).alloc (.cells #[.int .i64 0,.slice none 0 0,.int .i64 0,.int .i64 0,.slice none 0 0,.slice none 0 0,.slice none 0 0] 34))=W:=⟨_,rfl⟩;have aH:=alb0v0v3 ak;have HB:=Q02 aH;clear aH
 have s:=alz0v0v3 ak;obtain⟨z0,z1,z2,z3,z4,z5,z6⟩:=alc7v0v3 ak;have zx:=alz0v1v3 ak;obtain⟨x0,x1⟩:=alc2v1v3 ak;have m:=alz0v2v3 ak;obtain⟨r0,r1,r2,r3,r4,r5,r6⟩:=alc7v2v3 ak;obtain⟨N,O,P,R,T,U,V⟩:=alf7v2v3 ak;have c4:w.heap.size+1+1 < W0.heap.size:=m;go_enter Tryz.func129,Tryz.ntmps129;go_wp2_with fail;refine(bH.out W0 HB.out).mono ?_;rintro e Y ⟨c8,rfl,b4,f⟩;have B:=Q02 b4;have cV:=f.size;clear b4 bH;replace z0:=bC f z0 s;replace z1:=bC f z1 s;replace z2:=bC f z2 s;replace z3:=bC f z3 s;replace z4:=bC f z4 s;replace z5:=bC f z5 s
 replace z6:=bC f z6 s;replace s:=Kbq s f.size;replace x0:=bC f x0 zx;replace x1:=bC f x1 zx;replace zx:=Kbq zx f.size;replace r0:=bC f r0 m;replace r1:=bC f r1 m;replace r2:=bC f r2 m;replace r3:=bC f r3 m;replace r4:=bC f r4 m;replace r5:=bC f r5 m;replace r6:=bC f r6 m;replace N:=bF f N m;replace O:=bF f O m;replace P:=bF f P m;replace R:=bF f R m;replace T:=bF f T m;replace U:=bF f U m;replace V:=bF f V m;replace m:=Kbq m f.size;replace HB:=Q02 (HB.out.trans (f.mono HB.out.size));clear f
 obtain⟨o9,c9,J,E,I,D,c6,aB,e9⟩:=B.out.rd.opn;dsimp only at e9;obtain⟨F,aL⟩:∃x,lj.length=x:=⟨_,rfl⟩;obtain⟨G,aM⟩:∃x,lb.length=x:=⟨_,rfl⟩;obtain⟨H,aN⟩:∃x,lr.length=x:=⟨_,rfl⟩;obtain⟨r,aO⟩:∃x,lt.length=x:=⟨_,rfl⟩;rw[aL,aM,aN,aO]at e9;subst e9;obtain⟨bY,a9,bA,bB⟩:=Q9o B.out;clear bY;have ce:=bB.row;have cD:=bB.rd;obtain⟨da,bK,c5,ar,cl,cd⟩:=cD;simp only[Value.agg.injEq,Array.mk.injEq,List.cons.injEq,and_true]at bK;subst bK;injection cl with et81 et82 et83;subst et81 et83;obtain⟨g9,f9,ck,cz,aq⟩:=Qg4 cd a5.out;subst ck
 have bV:W0.heap.size<=g9:=(ce.1.lt g9 rfl).1;have aa:=Q02 aq;clear ce cd aq bB a9 bA et82;have az:=Q02 (And.intro aL (And.intro aM (And.intro aN aO)));clear aL aM aN aO;obtain⟨W2,au⟩:∃W,(Y.alloc (.cells #[.int .i64 Z,.slice o9 F c9,.int .i64 sj,.int .i64 kp,.slice J G E,.slice I H D,.slice (some ⟨g9,f9,none⟩) r aB] 34))=W:=⟨_,rfl⟩;have n:=alb0v0v1 au;replace z0:=bC n z0 s;replace z1:=bC n z1 s;replace z2:=bC n z2 s;replace z3:=bC n z3 s;replace z4:=bC n z4 s;replace z5:=bC n z5 s;replace z6:=bC n z6 s
 replace s:=Kbq s n.size;replace x0:=bC n x0 zx;replace x1:=bC n x1 zx;replace zx:=Kbq zx n.size;replace r0:=bC n r0 m;replace r1:=bC n r1 m;replace r2:=bC n r2 m;replace r3:=bC n r3 m;replace r4:=bC n r4 m;replace r5:=bC n r5 m;replace r6:=bC n r6 m;replace N:=bF n N m;replace O:=bF n O m;replace P:=bF n P m;replace R:=bF n R m;replace T:=bF n T m;replace U:=bF n U m;replace V:=bF n V m;replace m:=Kbq m n.size;replace HB:=Q02 (HB.out.trans (n.mono HB.out.size))
 clear n;have q:=alz0v0v1 au;obtain⟨u0,u1,u2,u3,u4,u5,u6⟩:=alc7v0v1 au;obtain⟨ab,ac,ad,ae,af,ag,ah⟩:=alf7v0v1 au;have hu:Y.heap.size < W2.heap.size:=q;have aG:=alb0v0v1 au;replace aa:Hid (∀i,i < lt.length->∀j,j < Q0g.k->W2.cell? ⟨g9,f9+i * Q0g.k+j,none⟩=(Q0g.cs (lt.getD i Q0g.d))[j]?):=Q02 (fun i hi j hj=>(aG.cell (p:=⟨g9,f9+i * Q0g.k+j,none⟩) cz).trans (aa.out i hi j hj));have a0:=Q02 (Q68 g9 f9 aB lt a p v (now+50) W2 a5.out (by have:=aW.out;omega) bR (by omega) aa.out);have L:Hid _:=alx0v0v1 au;rw[az.out.2.2.2]at a0;have cv:=Q02 aG;clear aG
 replace B:=Q02 (B.out.step (Stp.of (lo:=0) (hi:=0) cv.out) (.inl (Kcq _)));obtain⟨el,a8⟩:∃x,Q6R lt a p v (now+50)=x:=⟨_,rfl⟩;have cj:=Q02 (show el.length=lt.length by rw[<-a8];exact QbX _ _ _ _ _);have a4:=Q02 (show 0<=(Q1n lt a p).1->Q4U lt now a p v=el from fun h=>by unfold Q4U;rw[if_pos h,a8]);rw[a8]at a0;clear a8;have a2:=Q02 (show ¬0<=(Q1n lt a p).1->Q4U lt now a p v=Q6R (Q3R lt (Q5u lt).a (Q5u lt).p) a p v (now+50)from fun h=>by unfold Q4U;rw[if_neg h]);go_wp2_with fail;refine(a0.out).mono ?_;rintro e v2 ⟨X,f8,C,rfl,cy,ap,f,cU⟩;have aw:=Q02 ap
 have cW:=f.size;replace L:=Q02 ((f.block _ hu).trans L.out);replace B:=Q02 (B.out.step (Stp.of (lo:=0) (hi:=0) f) (.inl (Kcq _)));replace aa:Hid (∀i,i < lt.length->∀j,j < Q0g.k->v2.cell? ⟨g9,f9+i * Q0g.k+j,none⟩=(Q0g.cs (lt.getD i Q0g.d))[j]?):=Q02 (fun i hi j hj=>(f.cell (p:=⟨g9,f9+i * Q0g.k+j,none⟩) (show g9 < W2.heap.size by omega)).trans (aa.out i hi j hj));clear ap a0;replace z0:=bC f z0 s;replace z1:=bC f z1 s;replace z2:=bC f z2 s;replace z3:=bC f z3 s;replace z4:=bC f z4 s;replace z5:=bC f z5 s;replace z6:=bC f z6 s;replace s:=Kbq s f.size
 replace x0:=bC f x0 zx;replace x1:=bC f x1 zx;replace zx:=Kbq zx f.size;replace r0:=bC f r0 m;replace r1:=bC f r1 m;replace r2:=bC f r2 m;replace r3:=bC f r3 m;replace r4:=bC f r4 m;replace r5:=bC f r5 m;replace r6:=bC f r6 m;replace N:=bF f N m;replace O:=bF f O m;replace P:=bF f P m;replace R:=bF f R m;replace T:=bF f T m;replace U:=bF f U m;replace V:=bF f V m;replace m:=Kbq m f.size;replace u0:=bC f u0 q;replace u1:=bC f u1 q;replace u2:=bC f u2 q;replace u3:=bC f u3 q;replace u4:=bC f u4 q;replace u5:=bC f u5 q
 replace u6:=bC f u6 q;replace ab:=bF f ab q;replace ac:=bF f ac q;replace ad:=bF f ad q;replace ae:=bF f ae q;replace af:=bF f af q;replace ag:=bF f ag q;replace ah:=bF f ah q;replace q:=Kbq q f.size;replace HB:=Q02 (HB.out.trans (f.mono HB.out.size));clear f;obtain⟨W4,av⟩:∃W,(v2.alloc (.cells #[.slice (some ⟨X,f8,none⟩) r C] 32))=W:=⟨_,rfl⟩;have l:=alb0v0v1 av;replace z0:=bC l z0 s;replace z1:=bC l z1 s;replace z2:=bC l z2 s;replace z3:=bC l z3 s;replace z4:=bC l z4 s;replace z5:=bC l z5 s;replace z6:=bC l z6 s
 replace s:=Kbq s l.size;replace x0:=bC l x0 zx;replace x1:=bC l x1 zx;replace zx:=Kbq zx l.size;replace r0:=bC l r0 m;replace r1:=bC l r1 m;replace r2:=bC l r2 m;replace r3:=bC l r3 m;replace r4:=bC l r4 m;replace r5:=bC l r5 m;replace r6:=bC l r6 m;replace N:=bF l N m;replace O:=bF l O m;replace P:=bF l P m;replace R:=bF l R m;replace T:=bF l T m;replace U:=bF l U m;replace V:=bF l V m;replace m:=Kbq m l.size;replace u0:=bC l u0 q;replace u1:=bC l u1 q
 replace u2:=bC l u2 q;replace u3:=bC l u3 q;replace u4:=bC l u4 q;replace u5:=bC l u5 q;replace u6:=bC l u6 q;replace ab:=bF l ab q;replace ac:=bF l ac q;replace ad:=bF l ad q;replace ae:=bF l ae q;replace af:=bF l af q;replace ag:=bF l ag q;replace ah:=bF l ah q;replace q:=Kbq q l.size;replace HB:=Q02 (HB.out.trans (l.mono HB.out.size));clear l;have zt:=alz0v0v1 av
 have t0:W4.cell? ⟨v2.heap.size,0,none⟩=some (.slice (some ⟨X,f8,none⟩) r C):=by rw[<-av];simp[go_sem]
 have aj:W4.frozen? ⟨v2.heap.size,0,none⟩=false:=by rw[<-av];simp[go_sem]
 have cX:v2.heap.size < W4.heap.size:=zt
 have A:w.heap.size+1+1 < Y.heap.size:=by omega
 have aE:=alb0v0v1 av;replace L:=Q02 ((aE.block _ (by omega)).trans L.out);replace B:=Q02 (B.out.step (Stp.of (lo:=0) (hi:=0) aE) (.inl (Kcq _)));replace aa:Hid (∀i,i < lt.length->∀j,j < Q0g.k->W4.cell? ⟨g9,f9+i * Q0g.k+j,none⟩=(Q0g.cs (lt.getD i Q0g.d))[j]?):=Q02 (fun i hi j hj=>(aE.cell (p:=⟨g9,f9+i * Q0g.k+j,none⟩) (show g9 < v2.heap.size by omega)).trans (aa.out i hi j hj))
 replace aw:Hid (∀i,i < el.length->∀j,j < Q0g.k->W4.cell? ⟨X,f8+i * Q0g.k+j,none⟩=(Q0g.cs (el.getD i Q0g.d))[j]?):=Q02 (fun i hi j hj=>(aE.cell (p:=⟨X,f8+i * Q0g.k+j,none⟩) cy).trans (aw.out i hi j hj));clear aE
 have a1:Hid (∀(SX:World) (X f8 C:Nat) (el:List Sl),el.length=lt.length->Q4U lt now a p v=el->OwBm W0.heap.size Y.heap.size SX (Q0O Z (.slice o9 F c9) sj kp (.slice J G E) (.slice I H D) (.slice (some ⟨g9,f9,none⟩) r aB)) ⟨⟨Z,lj,sj⟩,⟨kp,lb,lr⟩,lt⟩->(∀i,i < el.length->∀j,j < Q0g.k->SX.cell? ⟨X,f8+i * Q0g.k+j,none⟩=(Q0g.cs (el.getD i Q0g.d))[j]?)->Y.heap.size<=SX.heap.size->X < SX.heap.size->w.heap.size<=X->OrBr w.heap.size SX.heap.size SX (Q0O Z (.slice o9 F c9) sj kp (.slice J G E) (.slice I H D) (.slice (some ⟨X,f8,none⟩) r C)) (Q79 ⟨⟨Z,lj,sj⟩,⟨kp,lb,lr⟩,lt⟩ now a p v)):=by
  refine Q02 ?_;intro SX X f8 C el bQ bb aD aI b3 cA bV;obtain⟨e1,e2,e3,e4⟩:=az.out;rw[show Q79 ⟨⟨Z,lj,sj⟩,⟨kp,lb,lr⟩,lt⟩ now a p v=⟨⟨Z,lj,sj⟩,⟨kp,lb,lr⟩,el⟩by rw[<-bb];rfl]
  have e5:r=el.length:=by rw[bQ,e4]
  obtain⟨_,a9,bA,_⟩:=Q9o aD;have cO:=a9.cap;obtain⟨c7,bJ,bd⟩:=a9;simp only[Value.agg.injEq,Array.mk.injEq,List.cons.injEq,and_true,true_and]at bJ;subst bJ
  have bX:w.heap.size<=W0.heap.size:=by omega
  exact⟨_,_,_,_,rfl,(InRow.ri bd).mono bX b3,InRow.roomV bd,bA.mono bX b3,⟨some ⟨X,f8,none⟩,C,by rw[e5],.inr ⟨X,f8,rfl,bV,cA,aI⟩⟩⟩
 obtain⟨ee,bw⟩:∃x,(Q1n lt a p).1=x:=⟨_,rfl⟩;rw[bw]at be a4 a2;simp only[bw];clear bw
 by_cases hy:0<=ee
 ·have cB:decide (0<=ee)=true:=by simp[hy]
  have bW:=a4.out hy;have bG:=Q02 bW;clear bW a4 a2
  have bx:X < Y.heap.size\/Y.heap.size+1<=X:=by omega
  have bz:X < w.heap.size+1+1\/w.heap.size+1+1+1<=X:=by omega
  have X5:(W4.setCell ⟨Y.heap.size,6,none⟩ (.slice (some ⟨X,f8,none⟩) r C)).heap[Y.heap.size]? =some (.cells #[.int .i64 Z,.slice o9 F c9,.int .i64 sj,.int .i64 kp,.slice J G E,.slice I H D,.slice (some ⟨X,f8,none⟩) r C] 34 (0,0)):=Q05 L.out 6 _;have s5:Stp Y.heap.size (Y.heap.size+1) W4 (W4.setCell ⟨Y.heap.size,6,none⟩ (.slice (some ⟨X,f8,none⟩) r C)):=Q0w W4 Y.heap.size 6 _;obtain⟨y0,y1,y2,y3,y4,y5,y6⟩:=cxb7v0v0 X5;have aP:=s5.cellP r0 (.inl A);have aQ:=s5.cellP r1 (.inl A);have aR:=s5.cellP r2 (.inl A);have aS:=s5.cellP r3 (.inl A)
  have aT:=s5.cellP r4 (.inl A);have aU:=s5.cellP r5 (.inl A);have aV:=s5.cellP r6 (.inl A);have bg:=Stp.frozen s5 N (by omega) (.inl A);have bh:=Stp.frozen s5 O (by omega) (.inl A);have bi:=Stp.frozen s5 P (by omega) (.inl A);have bj:=Stp.frozen s5 R (by omega) (.inl A);have bk:=Stp.frozen s5 T (by omega) (.inl A);have bl:=Stp.frozen s5 U (by omega) (.inl A);have bm:=Stp.frozen s5 V (by omega) (.inl A)
  have ay:Hid (OrBr w.heap.size (Q1Q (W4.setCell ⟨Y.heap.size,6,none⟩ (.slice (some ⟨X,f8,none⟩) r C)) (w.heap.size+1+1) (.int .i64 Z) (.slice o9 F c9) (.int .i64 sj) (.int .i64 kp) (.slice J G E) (.slice I H D) (.slice (some ⟨X,f8,none⟩) r C)).heap.size (Q1Q (W4.setCell ⟨Y.heap.size,6,none⟩ (.slice (some ⟨X,f8,none⟩) r C)) (w.heap.size+1+1) (.int .i64 Z) (.slice o9 F c9) (.int .i64 sj) (.int .i64 kp) (.slice J G E) (.slice I H D) (.slice (some ⟨X,f8,none⟩) r C)) (Q0O Z (.slice o9 F c9) sj kp (.slice J G E) (.slice I H D) (.slice (some ⟨X,f8,none⟩) r C)) (Q79 ⟨⟨Z,lj,sj⟩,⟨kp,lb,lr⟩,lt⟩ now a p v)/\Below w.heap.size w (Q1Q (W4.setCell ⟨Y.heap.size,6,none⟩ (.slice (some ⟨X,f8,none⟩) r C)) (w.heap.size+1+1) (.int .i64 Z) (.slice o9 F c9) (.int .i64 sj) (.int .i64 kp) (.slice J G E) (.slice I H D) (.slice (some ⟨X,f8,none⟩) r C))):=by
   have sR:=Q0U (W4.setCell ⟨Y.heap.size,6,none⟩ (.slice (some ⟨X,f8,none⟩) r C)) (w.heap.size+1+1) (.int .i64 Z) (.slice o9 F c9) (.int .i64 sj) (.int .i64 kp) (.slice J G E) (.slice I H D) (.slice (some ⟨X,f8,none⟩) r C)
   have al:(Q1Q (W4.setCell ⟨Y.heap.size,6,none⟩ (.slice (some ⟨X,f8,none⟩) r C)) (w.heap.size+1+1) (.int .i64 Z) (.slice o9 F c9) (.int .i64 sj) (.int .i64 kp) (.slice J G E) (.slice I H D) (.slice (some ⟨X,f8,none⟩) r C)).heap.size=(W4.setCell ⟨Y.heap.size,6,none⟩ (.slice (some ⟨X,f8,none⟩) r C)).heap.size:=Q0y _ _ _ _ _ _ _ _ _;have cC:=s5.size;have aD:=(B.out.step s5 (.inr (Kaq _))).step sR (.inl (by omega))
   have aI:∀i,i < el.length->∀j,j < Q0g.k->(Q1Q (W4.setCell ⟨Y.heap.size,6,none⟩ (.slice (some ⟨X,f8,none⟩) r C)) (w.heap.size+1+1) (.int .i64 Z) (.slice o9 F c9) (.int .i64 sj) (.int .i64 kp) (.slice J G E) (.slice I H D) (.slice (some ⟨X,f8,none⟩) r C)).cell? ⟨X,f8+i * Q0g.k+j,none⟩=(Q0g.cs (el.getD i Q0g.d))[j]? :=fun i hi j hj=>(Q3o sR (b:=X) (j:=f8+i * Q0g.k+j) (by omega) bz).trans ((Q3o s5 (b:=X) (j:=f8+i * Q0g.k+j) (by omega) bx).trans (aw.out i hi j hj))
   exact⟨a1.out _ _ _ _ _ cj.out bG.out aD aI (by rw[al];omega) (by rw[al];omega) (by omega),Q0r (HB.out.trans (s5.below (by omega) HB.out.size)) (by omega) _ _ _ _ _ _ _⟩
  clear a1 X5 s5 B aw aa L;go_wp2;refine bodyPost_ret (v:=Q0O Z (.slice o9 F c9) sj kp (.slice J G E) (.slice I H D) (.slice (some ⟨X,f8,none⟩) r C)) (by simp[results,Tryz.results129,go_sem,r0,r1,r2,r3,r4,r5,r6,aP,aQ,aR,aS,aT,aU,aV]) rfl ⟨_,rfl,ay.out.1,ay.out.2⟩
 ·have cB:decide (0<=ee)=false:=by simp[hy]
  have ai:Hid _:=alx0v0v1 av;have bb:=a2.out (by omega);have a3:=Q02 bb;have b2:=be.out (by omega);clear bb a2 a4 be aw;have a6:=Q02 (Q8X g9 f9 aB lt W4 (by omega) aa.out (by have:=aW.out;omega));rw[az.out.2.2.2]at a6;obtain⟨sq,b1⟩:∃x,Q5u lt=x:=⟨_,rfl⟩;rw[b1]at a6 a3 b2;clear b1;go_wp2_with fail;refine(a6.out).mono ?_;rintro e v3 ⟨rfl,f⟩;have cY:=f.size;replace L:=Q02 ((f.block _ (by omega)).trans L.out);replace ai:=Q02 ((f.block _ (by omega)).trans ai.out);replace B:=Q02 (B.out.step (Stp.of (lo:=0) (hi:=0) f) (.inl (Kcq _)))
  replace aa:Hid (∀i,i < lt.length->∀j,j < Q0g.k->v3.cell? ⟨g9,f9+i * Q0g.k+j,none⟩=(Q0g.cs (lt.getD i Q0g.d))[j]?):=Q02 (fun i hi j hj=>(f.cell (p:=⟨g9,f9+i * Q0g.k+j,none⟩) (show g9 < W4.heap.size by omega)).trans (aa.out i hi j hj));clear a6;replace z0:=bC f z0 s;replace z1:=bC f z1 s;replace z2:=bC f z2 s;replace z3:=bC f z3 s;replace z4:=bC f z4 s;replace z5:=bC f z5 s;replace z6:=bC f z6 s;replace s:=Kbq s f.size;replace x0:=bC f x0 zx;replace x1:=bC f x1 zx;replace zx:=Kbq zx f.size;replace r0:=bC f r0 m;replace r1:=bC f r1 m;replace r2:=bC f r2 m
  replace r3:=bC f r3 m;replace r4:=bC f r4 m;replace r5:=bC f r5 m;replace r6:=bC f r6 m;replace N:=bF f N m;replace O:=bF f O m;replace P:=bF f P m;replace R:=bF f R m;replace T:=bF f T m;replace U:=bF f U m;replace V:=bF f V m;replace m:=Kbq m f.size;replace u0:=bC f u0 q;replace u1:=bC f u1 q;replace u2:=bC f u2 q;replace u3:=bC f u3 q;replace u4:=bC f u4 q;replace u5:=bC f u5 q;replace u6:=bC f u6 q;replace ab:=bF f ab q;replace ac:=bF f ac q;replace ad:=bF f ad q;replace ae:=bF f ae q
  replace af:=bF f af q;replace ag:=bF f ag q;replace ah:=bF f ah q;replace q:=Kbq q f.size;replace t0:=bC f t0 zt;replace aj:=bF f aj zt;replace zt:=Kbq zt f.size;replace HB:=Q02 (HB.out.trans (f.mono HB.out.size));clear f;obtain⟨W6,a7⟩:∃W,(v3.alloc (.cells #[.bool sq.u,.int .i64 sq.a,.int .i64 sq.p,.int .i64 sq.v,.int .i64 sq.t] 101))=W:=⟨_,rfl⟩;have g:=alb0v0v1 a7;replace z0:=bC g z0 s;replace z1:=bC g z1 s;replace z2:=bC g z2 s;replace z3:=bC g z3 s;replace z4:=bC g z4 s;replace z5:=bC g z5 s;replace z6:=bC g z6 s
  replace s:=Kbq s g.size;replace x0:=bC g x0 zx;replace x1:=bC g x1 zx;replace zx:=Kbq zx g.size;replace r0:=bC g r0 m;replace r1:=bC g r1 m;replace r2:=bC g r2 m;replace r3:=bC g r3 m;replace r4:=bC g r4 m;replace r5:=bC g r5 m;replace r6:=bC g r6 m;replace N:=bF g N m;replace O:=bF g O m;replace P:=bF g P m;replace R:=bF g R m;replace T:=bF g T m;replace U:=bF g U m;replace V:=bF g V m;replace m:=Kbq m g.size;replace u0:=bC g u0 q;replace u1:=bC g u1 q
  replace u2:=bC g u2 q;replace u3:=bC g u3 q;replace u4:=bC g u4 q;replace u5:=bC g u5 q;replace u6:=bC g u6 q;replace ab:=bF g ab q;replace ac:=bF g ac q;replace ad:=bF g ad q;replace ae:=bF g ae q;replace af:=bF g af q;replace ag:=bF g ag q;replace ah:=bF g ah q;replace q:=Kbq q g.size;replace t0:=bC g t0 zt;replace aj:=bF g aj zt;replace zt:=Kbq zt g.size;replace HB:=Q02 (HB.out.trans (g.mono HB.out.size));clear g;have zq:=alz0v0v1 a7;obtain⟨q0,q1,q2,q3,q4⟩:=alc5v0v1 a7
  have cZ:v3.heap.size < W6.heap.size:=zq;have aF:=alb0v0v1 a7;replace L:=Q02 ((aF.block _ (by omega)).trans L.out);replace ai:=Q02 ((aF.block _ (by omega)).trans ai.out);replace B:=Q02 (B.out.step (Stp.of (lo:=0) (hi:=0) aF) (.inl (Kcq _)));replace aa:Hid (∀i,i < lt.length->∀j,j < Q0g.k->W6.cell? ⟨g9,f9+i * Q0g.k+j,none⟩=(Q0g.cs (lt.getD i Q0g.d))[j]?):=Q02 (fun i hi j hj=>(aF.cell (p:=⟨g9,f9+i * Q0g.k+j,none⟩) (show g9 < v3.heap.size by omega)).trans (aa.out i hi j hj));clear aF;have ax:=Q02 (Q7N g9 f9 aB lt sq.a sq.p W6 a5.out aW.out b2 ch.out (by omega) aa.out)
  rw[az.out.2.2.2]at ax;obtain⟨dl,bv⟩:∃x,Q3R lt sq.a sq.p=x:=⟨_,rfl⟩;obtain⟨ed,bP⟩:∃x,(Q1n lt sq.a sq.p).2=x:=⟨_,rfl⟩;have aZ:=Q02 (show dl.length=lt.length by rw[<-bv];exact QdV _ _ _);rw[bv]at ax a3;rw[bP]at ax;clear bv bP;go_wp2_with fail;refine(ax.out).mono ?_;rintro e v4 ⟨g7,f7,ar,rfl,cx,ao,f,cF⟩;have aY:=Q02 ao;have c0:=f.size;replace L:=Q02 ((f.block _ (by omega)).trans L.out);replace ai:=Q02 ((f.block _ (by omega)).trans ai.out);replace B:=Q02 (B.out.step (Stp.of (lo:=0) (hi:=0) f) (.inl (Kcq _)));clear ax ao aa
  replace z0:=bC f z0 s;replace z1:=bC f z1 s;replace z2:=bC f z2 s;replace z3:=bC f z3 s;replace z4:=bC f z4 s;replace z5:=bC f z5 s;replace z6:=bC f z6 s;replace s:=Kbq s f.size;replace x0:=bC f x0 zx;replace x1:=bC f x1 zx;replace zx:=Kbq zx f.size;replace r0:=bC f r0 m;replace r1:=bC f r1 m;replace r2:=bC f r2 m;replace r3:=bC f r3 m;replace r4:=bC f r4 m;replace r5:=bC f r5 m;replace r6:=bC f r6 m;replace N:=bF f N m;replace O:=bF f O m;replace P:=bF f P m;replace R:=bF f R m;replace T:=bF f T m;replace U:=bF f U m
  replace V:=bF f V m;replace m:=Kbq m f.size;replace u0:=bC f u0 q;replace u1:=bC f u1 q;replace u2:=bC f u2 q;replace u3:=bC f u3 q;replace u4:=bC f u4 q;replace u5:=bC f u5 q;replace u6:=bC f u6 q;replace ab:=bF f ab q;replace ac:=bF f ac q;replace ad:=bF f ad q;replace ae:=bF f ae q;replace af:=bF f af q;replace ag:=bF f ag q;replace ah:=bF f ah q;replace q:=Kbq q f.size;replace t0:=bC f t0 zt;replace aj:=bF f aj zt;replace zt:=Kbq zt f.size;replace q0:=bC f q0 zq;replace q1:=bC f q1 zq;replace q2:=bC f q2 zq
  replace q3:=bC f q3 zq;replace q4:=bC f q4 zq;replace zq:=Kbq zq f.size;replace HB:=Q02 (HB.out.trans (f.mono HB.out.size));clear f
  have am:w.heap.size < v2.heap.size:=by omega
  have ba:w.heap.size+1 < v2.heap.size:=by omega
  have y:w.heap.size+1+1 < v2.heap.size:=by omega
  have z:Y.heap.size < v2.heap.size:=by omega
  have aK:v2.heap.size+1<=v3.heap.size:=by omega
  obtain⟨W7,bN⟩:∃W,v4.setCell ⟨v2.heap.size,0,none⟩ (.slice (some ⟨g7,f7,none⟩) r ar)=W:=⟨_,rfl⟩
  have s7:Stp v2.heap.size (v2.heap.size+1) v4 W7:=by rw[<-bN];exact Q0w v4 v2.heap.size 0 _
  have X7:W7.heap[v2.heap.size]? =some (.cells #[.slice (some ⟨g7,f7,none⟩) r ar] 32 (0,0)):=by rw[<-bN];exact Q05 ai.out 0 _
  have c2:=s7.size
  have bU:g7 < v2.heap.size\/v2.heap.size+1<=g7:=by omega
  replace aY:Hid (∀i,i < dl.length->∀j,j < Q0g.k->W7.cell? ⟨g7,f7+i * Q0g.k+j,none⟩=(Q0g.cs (dl.getD i Q0g.d))[j]?):=Q02 (fun i hi j hj=>(Q3o s7 (b:=g7) (j:=f7+i * Q0g.k+j) cx bU).trans (aY.out i hi j hj));replace L:=Q02 (s7.box L.out (.inl (by omega)));replace B:=Q02 (B.out.step s7 (.inr (by omega)));replace ai:=Q02 X7;have bf:=Q02 (Q00 X7 0 _ rfl);have bE:=Q02 (Q01 X7 0);clear X7;have aA:=Q02 (Q68 g7 f7 ar dl a p v (now+50) W7 (by rw[aZ.out];exact a5.out) (by rw[aZ.out];have:=aW.out;omega) bR (by omega) aY.out);rw[aZ.out,az.out.2.2.2]at aA
  obtain⟨aC,aJ⟩:∃x,Q6R dl a p v (now+50)=x:=⟨_,rfl⟩;obtain⟨cP,bc⟩:∃x,(Q1n dl a p).1=x:=⟨_,rfl⟩;have ci:=Q02 (show aC.length=lt.length by rw[<-aJ,QbX];exact aZ.out);rw[aJ]at aA a3;rw[bc]at aA;clear aJ bc;have t9:W7.cell? ⟨v2.heap.size,0,none⟩=some (.slice (some ⟨g7,f7,none⟩) r ar):=bf.out;have bI:=Q02 s7;have cf:=s7.cellP x0 (.inl ba);have cg:=s7.cellP x1 (.inl ba);clear s7;go_wp2_with fail;have s7:=bI.out;clear t9 cf cg;replace z0:=s7.cellP z0 (.inl am);replace z1:=s7.cellP z1 (.inl am);replace z2:=s7.cellP z2 (.inl am)
  replace z3:=s7.cellP z3 (.inl am);replace z4:=s7.cellP z4 (.inl am);replace z5:=s7.cellP z5 (.inl am);replace z6:=s7.cellP z6 (.inl am);replace s:=Kbq s s7.size;replace x0:=s7.cellP x0 (.inl ba);replace x1:=s7.cellP x1 (.inl ba);replace zx:=Kbq zx s7.size;replace r0:=s7.cellP r0 (.inl y);replace r1:=s7.cellP r1 (.inl y);replace r2:=s7.cellP r2 (.inl y);replace r3:=s7.cellP r3 (.inl y);replace r4:=s7.cellP r4 (.inl y);replace r5:=s7.cellP r5 (.inl y);replace r6:=s7.cellP r6 (.inl y);replace N:=Stp.frozen s7 N m (.inl y);replace O:=Stp.frozen s7 O m (.inl y)
  replace P:=Stp.frozen s7 P m (.inl y);replace R:=Stp.frozen s7 R m (.inl y);replace T:=Stp.frozen s7 T m (.inl y);replace U:=Stp.frozen s7 U m (.inl y);replace V:=Stp.frozen s7 V m (.inl y);replace m:=Kbq m s7.size;replace u0:=s7.cellP u0 (.inl z);replace u1:=s7.cellP u1 (.inl z);replace u2:=s7.cellP u2 (.inl z);replace u3:=s7.cellP u3 (.inl z);replace u4:=s7.cellP u4 (.inl z);replace u5:=s7.cellP u5 (.inl z);replace u6:=s7.cellP u6 (.inl z);replace ab:=Stp.frozen s7 ab q (.inl z);replace ac:=Stp.frozen s7 ac q (.inl z)
  replace ad:=Stp.frozen s7 ad q (.inl z);replace ae:=Stp.frozen s7 ae q (.inl z);replace af:=Stp.frozen s7 af q (.inl z);replace ag:=Stp.frozen s7 ag q (.inl z);replace ah:=Stp.frozen s7 ah q (.inl z);replace q:=Kbq q s7.size;replace q0:=s7.cellP q0 (.inr aK);replace q1:=s7.cellP q1 (.inr aK);replace q2:=s7.cellP q2 (.inr aK);replace q3:=s7.cellP q3 (.inr aK);replace q4:=s7.cellP q4 (.inr aK);replace zq:=Kbq zq s7.size;replace zt:=Kbq zt s7.size;replace HB:=Q02 (HB.out.trans (s7.below (by omega) HB.out.size));clear t0 aj
  have t0:W7.cell? ⟨v2.heap.size,0,none⟩=some (.slice (some ⟨g7,f7,none⟩) r ar):=bf.out;have aj:=bE.out;clear bf bE s7 bI;refine(aA.out).mono ?_;rintro e v5 ⟨g6,f6,M,rfl,cw,an,f,cE⟩;have aX:=Q02 an;have c1:=f.size;replace L:=Q02 ((f.block _ (by omega)).trans L.out);replace ai:=Q02 ((f.block _ (by omega)).trans ai.out);replace B:=Q02 (B.out.step (Stp.of (lo:=0) (hi:=0) f) (.inl (Kcq _)));clear aA an aY;replace z0:=bC f z0 s;replace z1:=bC f z1 s;replace z2:=bC f z2 s;replace z3:=bC f z3 s;replace z4:=bC f z4 s;replace z5:=bC f z5 s
  replace z6:=bC f z6 s;replace s:=Kbq s f.size;replace x0:=bC f x0 zx;replace x1:=bC f x1 zx;replace zx:=Kbq zx f.size;replace r0:=bC f r0 m;replace r1:=bC f r1 m;replace r2:=bC f r2 m;replace r3:=bC f r3 m;replace r4:=bC f r4 m;replace r5:=bC f r5 m;replace r6:=bC f r6 m;replace N:=bF f N m;replace O:=bF f O m;replace P:=bF f P m;replace R:=bF f R m;replace T:=bF f T m;replace U:=bF f U m;replace V:=bF f V m;replace m:=Kbq m f.size;replace u0:=bC f u0 q;replace u1:=bC f u1 q;replace u2:=bC f u2 q;replace u3:=bC f u3 q
  replace u4:=bC f u4 q;replace u5:=bC f u5 q;replace u6:=bC f u6 q;replace ab:=bF f ab q;replace ac:=bF f ac q;replace ad:=bF f ad q;replace ae:=bF f ae q;replace af:=bF f af q;replace ag:=bF f ag q;replace ah:=bF f ah q;replace q:=Kbq q f.size;replace t0:=bC f t0 zt;replace aj:=bF f aj zt;replace zt:=Kbq zt f.size;replace q0:=bC f q0 zq;replace q1:=bC f q1 zq;replace q2:=bC f q2 zq;replace q3:=bC f q3 zq;replace q4:=bC f q4 zq;replace zq:=Kbq zq f.size;replace HB:=Q02 (HB.out.trans (f.mono HB.out.size));clear f
  obtain⟨W8,bO⟩:∃W,v5.setCell ⟨v2.heap.size,0,none⟩ (.slice (some ⟨g6,f6,none⟩) r M)=W:=⟨_,rfl⟩
  have s8:Stp v2.heap.size (v2.heap.size+1) v5 W8:=by rw[<-bO];exact Q0w v5 v2.heap.size 0 _
  have X8:W8.heap[v2.heap.size]? =some (.cells #[.slice (some ⟨g6,f6,none⟩) r M] 32 (0,0)):=by rw[<-bO];exact Q05 ai.out 0 _
  have c3:=s8.size
  have bT:g6 < v2.heap.size\/v2.heap.size+1<=g6:=by omega
  replace aX:Hid (∀i,i < aC.length->∀j,j < Q0g.k->W8.cell? ⟨g6,f6+i * Q0g.k+j,none⟩=(Q0g.cs (aC.getD i Q0g.d))[j]?):=Q02 (fun i hi j hj=>(Q3o s8 (b:=g6) (j:=f6+i * Q0g.k+j) cw bT).trans (aX.out i hi j hj));replace L:=Q02 (s8.box L.out (.inl (by omega)));replace B:=Q02 (B.out.step s8 (.inr (by omega)));have t8:=Q00 X8 0 _ rfl;have cQ:=Q01 X8 0;clear X8 ai;have cH:=s8.cellP u0 (.inl z);have cI:=s8.cellP u1 (.inl z);have cJ:=s8.cellP u2 (.inl z);have cK:=s8.cellP u3 (.inl z);have cL:=s8.cellP u4 (.inl z);have cM:=s8.cellP u5 (.inl z)
  have cN:=s8.cellP u6 (.inl z);have cm:=Stp.frozen s8 ab q (.inl z);have cn:=Stp.frozen s8 ac q (.inl z);have co:=Stp.frozen s8 ad q (.inl z);have cp:=Stp.frozen s8 ae q (.inl z);have cq:=Stp.frozen s8 af q (.inl z);have cr:=Stp.frozen s8 ag q (.inl z);have cu:=Stp.frozen s8 ah q (.inl z);have b5:=s8.cellP r0 (.inl y);have b6:=s8.cellP r1 (.inl y);have b7:=s8.cellP r2 (.inl y);have b8:=s8.cellP r3 (.inl y);have b9:=s8.cellP r4 (.inl y);have ca:=s8.cellP r5 (.inl y);have cc:=s8.cellP r6 (.inl y)
  have bn:=Stp.frozen s8 N m (.inl y);have bo:=Stp.frozen s8 O m (.inl y);have bp:=Stp.frozen s8 P m (.inl y);have bq:=Stp.frozen s8 R m (.inl y);have bs:=Stp.frozen s8 T m (.inl y);have bt:=Stp.frozen s8 U m (.inl y);have bu:=Stp.frozen s8 V m (.inl y);have bD:=Q02 (HB.out.trans (s8.below (by omega) HB.out.size));have db:=Kbq m s8.size;clear s8
  have bx:g6 < Y.heap.size\/Y.heap.size+1<=g6:=by omega
  have bz:g6 < w.heap.size+1+1\/w.heap.size+1+1+1<=g6:=by omega
  have X5:(W8.setCell ⟨Y.heap.size,6,none⟩ (.slice (some ⟨g6,f6,none⟩) r M)).heap[Y.heap.size]? =some (.cells #[.int .i64 Z,.slice o9 F c9,.int .i64 sj,.int .i64 kp,.slice J G E,.slice I H D,.slice (some ⟨g6,f6,none⟩) r M] 34 (0,0)):=Q05 L.out 6 _;have s5:Stp Y.heap.size (Y.heap.size+1) W8 (W8.setCell ⟨Y.heap.size,6,none⟩ (.slice (some ⟨g6,f6,none⟩) r M)):=Q0w W8 Y.heap.size 6 _;obtain⟨y0,y1,y2,y3,y4,y5,y6⟩:=cxb7v0v0 X5;have aP:=s5.cellP b5 (.inl A);have aQ:=s5.cellP b6 (.inl A);have aR:=s5.cellP b7 (.inl A)
  have aS:=s5.cellP b8 (.inl A);have aT:=s5.cellP b9 (.inl A);have aU:=s5.cellP ca (.inl A);have aV:=s5.cellP cc (.inl A);have bg:=Stp.frozen s5 bn (by omega) (.inl A);have bh:=Stp.frozen s5 bo (by omega) (.inl A);have bi:=Stp.frozen s5 bp (by omega) (.inl A);have bj:=Stp.frozen s5 bq (by omega) (.inl A);have bk:=Stp.frozen s5 bs (by omega) (.inl A);have bl:=Stp.frozen s5 bt (by omega) (.inl A);have bm:=Stp.frozen s5 bu (by omega) (.inl A)
  have ay:Hid (OrBr w.heap.size (Q1Q (W8.setCell ⟨Y.heap.size,6,none⟩ (.slice (some ⟨g6,f6,none⟩) r M)) (w.heap.size+1+1) (.int .i64 Z) (.slice o9 F c9) (.int .i64 sj) (.int .i64 kp) (.slice J G E) (.slice I H D) (.slice (some ⟨g6,f6,none⟩) r M)).heap.size (Q1Q (W8.setCell ⟨Y.heap.size,6,none⟩ (.slice (some ⟨g6,f6,none⟩) r M)) (w.heap.size+1+1) (.int .i64 Z) (.slice o9 F c9) (.int .i64 sj) (.int .i64 kp) (.slice J G E) (.slice I H D) (.slice (some ⟨g6,f6,none⟩) r M)) (Q0O Z (.slice o9 F c9) sj kp (.slice J G E) (.slice I H D) (.slice (some ⟨g6,f6,none⟩) r M)) (Q79 ⟨⟨Z,lj,sj⟩,⟨kp,lb,lr⟩,lt⟩ now a p v)/\Below w.heap.size w (Q1Q (W8.setCell ⟨Y.heap.size,6,none⟩ (.slice (some ⟨g6,f6,none⟩) r M)) (w.heap.size+1+1) (.int .i64 Z) (.slice o9 F c9) (.int .i64 sj) (.int .i64 kp) (.slice J G E) (.slice I H D) (.slice (some ⟨g6,f6,none⟩) r M))):=by
   have sR:=Q0U (W8.setCell ⟨Y.heap.size,6,none⟩ (.slice (some ⟨g6,f6,none⟩) r M)) (w.heap.size+1+1) (.int .i64 Z) (.slice o9 F c9) (.int .i64 sj) (.int .i64 kp) (.slice J G E) (.slice I H D) (.slice (some ⟨g6,f6,none⟩) r M)
   have al:(Q1Q (W8.setCell ⟨Y.heap.size,6,none⟩ (.slice (some ⟨g6,f6,none⟩) r M)) (w.heap.size+1+1) (.int .i64 Z) (.slice o9 F c9) (.int .i64 sj) (.int .i64 kp) (.slice J G E) (.slice I H D) (.slice (some ⟨g6,f6,none⟩) r M)).heap.size=(W8.setCell ⟨Y.heap.size,6,none⟩ (.slice (some ⟨g6,f6,none⟩) r M)).heap.size:=Q0y _ _ _ _ _ _ _ _ _;have cC:=s5.size;have aD:=(B.out.step s5 (.inr (Kaq _))).step sR (.inl (by omega))
   have aI:∀i,i < aC.length->∀j,j < Q0g.k->(Q1Q (W8.setCell ⟨Y.heap.size,6,none⟩ (.slice (some ⟨g6,f6,none⟩) r M)) (w.heap.size+1+1) (.int .i64 Z) (.slice o9 F c9) (.int .i64 sj) (.int .i64 kp) (.slice J G E) (.slice I H D) (.slice (some ⟨g6,f6,none⟩) r M)).cell? ⟨g6,f6+i * Q0g.k+j,none⟩=(Q0g.cs (aC.getD i Q0g.d))[j]? :=fun i hi j hj=>(Q3o sR (b:=g6) (j:=f6+i * Q0g.k+j) (by omega) bz).trans ((Q3o s5 (b:=g6) (j:=f6+i * Q0g.k+j) (by omega) bx).trans (aX.out i hi j hj))
   exact⟨a1.out _ _ _ _ _ ci.out a3.out aD aI (by rw[al];omega) (by rw[al];omega) (by omega),Q0r (bD.out.trans (s5.below (by omega) bD.out.size)) (by omega) _ _ _ _ _ _ _⟩
  clear a1 X5 s5 B aX L;go_wp2;refine bodyPost_ret (v:=Q0O Z (.slice o9 F c9) sj kp (.slice J G E) (.slice I H D) (.slice (some ⟨g6,f6,none⟩) r M)) (by simp[results,Tryz.results129,go_sem,r0,r1,r2,r3,r4,r5,r6,aP,aQ,aR,aS,aT,aU,aV]) rfl ⟨_,rfl,ay.out.1,ay.out.2⟩
theorem QaD (l:List Sl):∀k,k<=l.length->(Q4T l k=sl0/\∀j,j < k->(l.getD j sl0).u=false)\/∃j,j < k/\Q4T l k=l.getD j sl0/\(l.getD j sl0).u=true
 |0,_=> .inl ⟨rfl,fun j c=>absurd c (KMq _)⟩
 |k+1,hk=>by
  have d:=QaD l k (by omega);rw[Q7u (by omega)]
  cases hu:(l.getD k sl0).u with
  |false=>
   rw[Q5k hu]
   rcases d with⟨a,h2⟩|⟨j,a,h2,b⟩
   ·refine .inl ⟨a,fun j c=>?_⟩
    by_cases e:j=k
    ·subst e;exact hu
    ·exact h2 j (by omega)
   ·exact .inr ⟨j,by omega,h2,b⟩
  |true=>
   rcases d with⟨a,h2⟩|⟨j,a,h2,b⟩
   ·rw[a,Q4Q hu rfl];exact .inr ⟨k,by omega,rfl,hu⟩
   ·rw[h2]
    by_cases ht:(l.getD k sl0).t < (l.getD j sl0).t
    ·rw[Q5m hu ht];exact .inr ⟨k,by omega,rfl,hu⟩
    ·rw[Q5N b ht];exact .inr ⟨j,by omega,rfl,b⟩
theorem Qek {l:List Sl} {a p:Int} (b:Q0e l=true) (h:(Q1n l a p).1 < 0):Q0o (Q5u l).a (Q5u l).p=true:=by
 have m:=(Q0d.1 b).1;have i:=Q1v (show 0 < l.length by omega) a p
 have c:(l.getD (Q12 l.length a p) sl0).u=true:=by
  cases c:(l.getD (Q12 l.length a p) sl0).u with
  |true=>rfl
  |false=>
   obtain⟨n,k⟩:∃n,l.length=n+1:=⟨l.length - 1,by omega⟩
   have e:Q1n l a p=((Q12 l.length a p:Int),false):=by
    unfold Q1n;have:=Q4M (a:=a) (p:=p) (f:=n) c;rw[<-k]at this;exact this
   rw[e]at h;dsimp only at h;omega
 rcases QaD l l.length (Kaq _)with⟨_,h2⟩|⟨j,d,h2,g⟩
 ·rw[h2 _ i]at c;cases c
 ·show Q0o (Q4T l l.length).a (Q4T l l.length).p=true
  rw[h2];exact Q28 b j d g
structure DInv (k B R:Nat) (w0 wr:World) (m:List Sl) (b off c:Nat):Prop where
 ok:Q0e m=true
 cur:isCur k wr
 box:wr.heap[B]? =some (.cells #[.slice (some ⟨b,off,none⟩) m.length c] 32 (0,0))
 res:wr.heap[R]? =some (.cells #[.slice none 0 0] 32 (0,0))
 lt:b < wr.heap.size
 ge:w0.heap.size<=b
 rd:(∀i,i < m.length->∀j,j < Q0g.k->wr.cell? ⟨b,off+i * Q0g.k+j,none⟩=(Q0g.cs (m.getD i Q0g.d))[j]?)
 gr:w0.grownBy wr (some k)
theorem DInv.draw {k B R:Nat} {f wr x:World} {m:List Sl} {b off c:Nat} (h:DInv k B R f wr m b off c) (t:k < f.heap.size) (r:f.heap.size<=B) (s:f.heap.size<=R) (d:wr.drew.grownBy x (some k)) (p:isCur k x):DInv k B R f x m b off c:=by
 have a:wr.grownBy x (some k):=⟨d.os,d.tape,d.output,d.size,d.block⟩;have g:=(KEq h.box);have l:=(KEq h.res);have n:=h.ge;refine⟨h.ok,p,(a.block B g (by simp;omega)).trans h.box,(a.block R l (by simp;omega)).trans h.res,Kbq h.lt a.size,h.ge,fun i hi j q=>(Q4H a h.lt (by omega)).trans (h.rd i hi j q),Q0m h.gr a⟩
theorem DInv.draw0 {k B R:Nat} {d wr x:World} {m:List Sl} {b off c:Nat} (h:DInv k B R d wr m b off c) (j:k < d.heap.size) (f:d.heap.size<=B) (g:d.heap.size<=R) (a:wr.grownBy x (some k)) (i:isCur k x):DInv k B R d x m b off c:=
 h.draw j f g ⟨a.os,a.tape,a.output,a.size,a.block⟩ i
theorem DInv.cell {k B R:Nat} {w0 wr:World} {m:List Sl} {b off c:Nat} (h:DInv k B R w0 wr m b off c):wr.cell? ⟨B,0,none⟩=some (.slice (some ⟨b,off,none⟩) m.length c):=Q0k h.box 0 _ rfl
theorem DInv.curd {k B R:Nat} {w0 wr:World} {m:List Sl} {b off c:Nat} (h:DInv k B R w0 wr m b off c):isCur k wr.drew:=h.cur.below (KHq KBq)
theorem DInv.size {k B R:Nat} {w0 wr:World} {m:List Sl} {b off c:Nat} (h:DInv k B R w0 wr m b off c) (hk:k < w0.heap.size):k < wr.heap.size:=Kbq hk h.gr.size
theorem DInv.store {k B R:Nat} {l x y:World} {m g:List Sl} {b off c f a c2:Nat} (h:DInv k B R l x m b off c) (L:k < l.heap.size) (E:l.heap.size<=B) (F:R < B) (J:l.heap.size<=R) (hm:Q0e g=true) (s:Below x.heap.size x y) (v:f < y.heap.size) (q:(∀i,i < g.length->∀j,j < Q0g.k->y.cell? ⟨f,a+i * Q0g.k+j,none⟩=(Q0g.cs (g.getD i Q0g.d))[j]?)) (D:f=b\/x.heap.size<=f):DInv k B R l (y.setCell ⟨B,0,none⟩ (.slice (some ⟨f,a,none⟩) g.length c2)) g f a c2:=by
 have u:=(KEq h.box);have z:=(KEq h.res);have n:=(s.block B u).trans h.box;have A:=(s.block R z).trans h.res;have w:f≠B:=Qdi (by have:=(Q0d.1 hm).1;omega) n q;have C:=h.gr.size;have G:=h.ge;have t:Below (k+1) x (y.setCell ⟨B,0,none⟩ (.slice (some ⟨f,a,none⟩) g.length c2)):=(s.mono (by omega)).setCell (p:=⟨B,0,none⟩) (show k+1<=B by omega) _
 refine⟨hm,h.cur.below t,Q4G y B 0 _ _ _ n,(Below.heap_setCell y ⟨B,0,none⟩ _ R (by simp;omega)).trans A,by simpa using v,by omega,fun i hi j H=>(World.cell?_setCell_far _ _ _ _ (fun e=>w e.symm)).trans (q i hi j H), ?_⟩;have r:Below l.heap.size x (y.setCell ⟨B,0,none⟩ (.slice (some ⟨f,a,none⟩) g.length c2)):=(s.mono C).setCell (p:=⟨B,0,none⟩) E _;exact⟨r.os.trans h.gr.os,r.tape.trans h.gr.tape,r.output.trans h.gr.output,Kdq h.gr.size r.size,fun i hi I=>(r.block i hi).trans (h.gr.block i hi I)⟩
theorem Q5a {a p:Int} (ha:1<=a/\a<=3) (hp:80<=p/\p<=82):Q0o a p=true:=Q2K.2 (by omega)
theorem Qcx {l:List Sl} {a p:Int} (h:Q0e l=true):Q0e (Q3R l a p)=true:=by
 have b:=(Q0d.1 h).1
 rcases Q2g l (by omega) a p with e|⟨i,hi,⟨e,_⟩|⟨e,_⟩⟩
 ·rw[Q6S (by rw[e])];exact h
 ·rw[Q6S (by rw[e])];exact h
 ·rw[Qar e];exact Q8E h hi
theorem DInv.boxlt {k B R:Nat} {w0 wr:World} {m:List Sl} {b off c:Nat} (h:DInv k B R w0 wr m b off c):B < wr.heap.size:=(KEq h.box)
theorem DInv.frz {k B R:Nat} {w0 wr:World} {m:List Sl} {b off c:Nat} (h:DInv k B R w0 wr m b off c):wr.frozen? ⟨B,0,none⟩=false:=Q26 h.box 0
theorem DInv.dropped {k B:Nat} {w x y:World} {m:List Sl} {a p:Int} {b off c g f c2:Nat} (h:DInv k B w.heap.size w x m b off c) (t:k < w.heap.size) (r:w.heap.size < B) (n:g < y.heap.size) (q:(∀i,i < (Q3R m a p).length->∀j,j < Q0g.k->y.cell? ⟨g,f+i * Q0g.k+j,none⟩=(Q0g.cs ((Q3R m a p).getD i Q0g.d))[j]?)) (s:Below x.heap.size x y) (l:g=b\/x.heap.size<=g):DInv k B w.heap.size w (y.setCell ⟨B,0,none⟩ (.slice (some ⟨g,f,none⟩) m.length c2)) (Q3R m a p) g f c2:=by
 have h2:=h.store (c2:=c2) t (KIq r) r (Kaq _) (Qcx h.ok) s n q l
 rwa [Q9Q]at h2
theorem DInv.putted {k B:Nat} {w x y:World} {m:List Sl} {a p v t:Int} {b off c g f c2:Nat} (h:DInv k B w.heap.size w x m b off c) (C:k < w.heap.size) (u:w.heap.size < B) (A:Q0o a p=true) (s:0<=v) (hv:v < 6) (r:0<=t) (D:t < 40) (n:g < y.heap.size) (q:(∀i,i < (Q6R m a p v t).length->∀j,j < Q0g.k->y.cell? ⟨g,f+i * Q0g.k+j,none⟩=(Q0g.cs ((Q6R m a p v t).getD i Q0g.d))[j]?)) (z:Below x.heap.size x y) (l:g=b\/x.heap.size<=g):DInv k B w.heap.size w (y.setCell ⟨B,0,none⟩ (.slice (some ⟨g,f,none⟩) m.length c2)) (Q6R m a p v t) g f c2:=by
 have h2:=h.store (c2:=c2) C (KIq u) u (Kaq _) (Qbz h.ok A ⟨s,by omega⟩ ⟨r,by omega⟩) z n q l
 rwa [QbB]at h2
theorem DInv.ended {k B:Nat} {w x y:World} {m:List Sl} {b off c:Nat} (h:DInv k B w.heap.size w x m b off c) (f:k < w.heap.size) (d:Below x.heap.size x y) (v:Value):isCur k (y.setCell ⟨w.heap.size,0,none⟩ v)/\w.grownBy (y.setCell ⟨w.heap.size,0,none⟩ v) (some k):=by
 have hs:=h.gr.size;have a:Below w.heap.size x (y.setCell ⟨w.heap.size,0,none⟩ v):=(d.mono hs).setCell (p:=⟨w.heap.size,0,none⟩) (Kaq _) v;refine⟨h.cur.below (a.mono f),a.os.trans h.gr.os,a.tape.trans h.gr.tape,a.output.trans h.gr.output,Kdq hs a.size,fun i hi g=>(a.block i hi).trans (h.gr.block i hi g)⟩
theorem Qfx {n:Int} (b:1<=n) (h2:n<=16):Q0e (Q7c n)=true:=by
 have e:Q7c n=List.replicate n.toNat sl0:=by unfold Q7c;rw[if_pos ⟨b,h2⟩]
 rw[e];refine Q0d.2 ⟨by rw[List.length_replicate];omega,by rw[List.length_replicate];omega,fun i hi=>?_⟩;rw[List.length_replicate]at hi
 have a:(List.replicate n.toNat sl0).getD i sl0=sl0:=by simp[KFq,List.getElem?_replicate,hi]
 exact Q4u (by rw[a] <;> rfl) (by rw[a] <;> rfl)
theorem QcV (k:Nat) (w:World) (hc:isCur k w) (E:k < w.heap.size):
  Calls Tryz.prog 136 #[.pointer (some ⟨k,0,none⟩)] w fun e w'=> ∃v' m,e=.returned v'/\Q0e m=true/\InTb w.heap.size w'.heap.size w' v' m/\isCur k w'/\w.grownBy w' (some k):=by
 obtain⟨W0,C⟩:∃W,w.alloc (.cells #[.slice none 0 0] 32)=W:=⟨_,rfl⟩;have af:=alb0v0v1 C
 have aj:w.grownBy W0 (some k):=by rw[<-C];exact World.grownBy_alloc w _ _
 have ac:Hid _:=alx0v0v1 C;have U:=alz0v0v1 C;have X:=Q02 (hc.below (af.mono E));have Z:=Q02 aj;clear af aj hc;go_enter Tryz.func136,Tryz.ntmps136;go_wp2_with fail;refine(Q0t k 8 W0 X.out (by decide) (by decide)).mono ?_;rintro e M ⟨x,rfl,x0,x8,ag,J⟩;have Y:=Q02 ag;have aa:=Q02 (Q0m Z.out J);have ad:Hid (M.heap[w.heap.size]? =some (.cells #[.slice none 0 0] 32 (0,0))):=(J.block _ U (by simp;omega)).trans ac.out;have ao:w.heap.size < M.heap.size:=Kbq U J.size;clear ag J ac X Z C U;go_wp2_with fail;refine(Q6E (1+x) M).mono ?_
 rintro e v2 ⟨vt,rfl,⟨vl,rfl,t,_⟩,q⟩;have HK:=Q02 (Qfx (n:=1+x) (by omega) (by omega));generalize QbW (1+x)=fb;obtain⟨m,hm⟩:∃m,Q7c (1+x)=m:=⟨_,rfl⟩;rw[hm]at t HK;clear hm
 obtain⟨g,cap,rfl⟩:∃g cap,vl=.slice (some ⟨g,0,none⟩) m.length cap:=by
  rcases t.2 with⟨h1,h2⟩|⟨g,cap,aA,h1,_⟩
  ·have:=(Q0d.1 HK.out).1;omega
  ·exact⟨g,cap,h1⟩
 have R:=t.lt g rfl;obtain⟨W3,P⟩:∃W,v2.alloc (.cells #[.slice (some ⟨g,0,none⟩) m.length cap] 32)=W:=⟨_,rfl⟩;have V:=q.size;have D:=alb0v0v1 P
 have ak:M.grownBy W3 (some k):=by
  have h:Below M.heap.size M W3:=q.trans (D.mono V);exact⟨h.os,h.tape,h.output,h.size,fun i hi _=>h.block i hi⟩
 have N:Hid (DInv k v2.heap.size w.heap.size w W3 m g 0 cap):=by
  have ae:Below M.heap.size M W3:=q.trans (D.mono V);refine⟨HK.out,Y.out.below (ae.mono (by omega)),by rw[<-P];exact World.alloc_heap_new v2 _,(ae.block _ ao).trans ad.out,Kbq R.2 D.size,by omega,fun i hi j hj=>(D.cell (p:=⟨g,0+i * Q0g.k+j,none⟩) R.2).trans (Q1i t rfl i hi j hj),Q0m aa.out ak⟩
 have s:w.heap.size < v2.heap.size:=by omega
 generalize hBq:v2.heap.size=B at *;clear q D ak t R ad Y aa HK V ao;go_wp2_with fail;refine(Q0t k 10 W3 N.out.cur (by decide) (by decide)).mono ?_;rintro e v4 ⟨n2,rfl,n0,aD,ah,al⟩;have ab:=Q02 (N.out.draw0 E (KIq s) (Kaq _) al ah);clear ah al N P hBq;go_wp2
 go_loopw [6] (fun iv wr=> ∃(i:Nat) (m:List Sl) (b off c:Nat),(i:Int)<=n2/\iv=.int .i64 i/\Hid (DInv k B w.heap.size w wr m b off c))
  (fun iv _=>n2.toNat - (intOf iv).toNat)
 case atStart=>exact⟨0,m,g,0,cap,n0,rfl,ab⟩
 case round=>
  clear ab;obtain⟨i,m,b,off,c,hi,rfl,u⟩:=hrel;have h1:=(Q0d.1 u.out.ok).1;have aw:=(Q0d.1 u.out.ok).2.1
  by_cases hlt:(i:Int) < n2
  ·go_wp2_with fail
   refine(Q1s k 4 wr u.out.cur (by decide) (by decide)).mono ?_;rintro e v5 ⟨y,rfl,ai,am⟩;have z:=Q02 (u.out.draw0 E (KIq s) (Kaq _) am ai);have ct:=z.out.cell;have an:=z.out.size E;clear ai am u
   cases y with
   |true=>
    go_wp2
    go_region_with (first|(go_at_call 130;have d:=Q2i k v5.drew z.out.curd an;with_reducible refine d.mono ?_;clear d;rintro e x0 ⟨fa,fp,rfl,ha,hp,f,l⟩;have A:=Q02 (z.out.draw E (KIq s) (Kaq _) l f);have k0:=A.out.cell;have hF:=Q02 (Q5a ha hp);clear f l)|(go_at_call 168;have d:=Q7N b off c m fa fp x0 (by omega) aw hF.out (Q28 A.out.ok) A.out.lt A.out.rd;with_reducible refine d.mono ?_;clear d;rintro e x1 ⟨b2,H,c2,rfl,q,G,r,F⟩;have k1:=(r.cell (p:=⟨B,0,none⟩) A.out.boxlt).trans k0;have f1:=(r.frozen (p:=⟨B,0,none⟩) A.out.boxlt).trans A.out.frz;have HS:=Q02 (A.out.dropped (c2:=c2) E s q G r F);clear q G r F))
    all_goals (
     go_wp2;go_roundw
     case rel=>exact⟨i+1,_,b2,H,c2,by omega,by go_num,HS.out⟩
     case measure=>simp[intOf];omega)
   |false=>
    go_wp2
    go_region_with (first|(go_at_call 130;have d:=Q2i k v5.drew z.out.curd an;with_reducible refine d.mono ?_;clear d;rintro e x0 ⟨fa,fp,rfl,ha,hp,f,l⟩;have A:=Q02 (z.out.draw E (KIq s) (Kaq _) l f);have k0:=A.out.cell;have hF:=Q02 (Q5a ha hp);clear f l)|(go_at_call 80;have d:=Q0t k 6 x0 A.out.cur (by decide) (by decide);with_reducible refine d.mono ?_;clear d;rintro e x1 ⟨av,rfl,aq,ar,f,l⟩;have I1:=Q02 (A.out.draw0 E (KIq s) (Kaq _) l f);have k1:=I1.out.cell;clear f l)|(go_at_call 80;have d:=Q0t k 40 x1 I1.out.cur (by decide) (by decide);with_reducible refine d.mono ?_;clear d;rintro e x2 ⟨tv,rfl,az,ap,f,l⟩;have O:=Q02 (I1.out.draw0 E (KIq s) (Kaq _) l f);have k2:=O.out.cell;clear f l)|(go_at_call 166;have d:=Q68 b off c m fa fp av tv x2 (by omega) (by omega) hF.out O.out.lt O.out.rd;with_reducible refine d.mono ?_;clear d;rintro e x3 ⟨b2,H,c2,rfl,q,G,r,F⟩;have k3:=(r.cell (p:=⟨B,0,none⟩) O.out.boxlt).trans k2;have f3:=(r.frozen (p:=⟨B,0,none⟩) O.out.boxlt).trans O.out.frz;have HS:=Q02 (O.out.putted (c2:=c2) E s hF.out aq ar az ap q G r F);clear q G r F))
    all_goals (
     go_wp2;go_roundw
     case rel=>exact⟨i+1,_,b2,H,c2,by omega,by go_num,HS.out⟩
     case measure=>simp[intOf];omega)
  ·have e:(i:Int)=n2:=by omega
   have ct:=u.out.cell;have aC:decide ((i:Int) < n2)=false:=decide_eq_false hlt;have L:=Q5B b off c m wr u.out.lt u.out.rd (by omega);have T:w.heap.size < wr.heap.size:=(KEq u.out.res);clear e;go_wp2_with fail;refine L.mono ?_;rintro e y ⟨o2,c2,rfl,ho,I⟩;have HE:=Q02 (u.out.ended E I (.slice o2 m.length c2));have au:=Q0k ((I.block _ T).trans u.out.res) 0 _ rfl;have aB:=Q26 ((I.block _ T).trans u.out.res) 0;have HO:=Q02 ho;have ax:=Q02 u.out.ok;have ay:=Q02 u.out.gr.size;clear L ho I ct u;go_wp2
   refine bodyPost_ret (v:=tab (.slice o2 m.length c2)) (by simp[results,Tryz.results136,go_sem,au]) rfl ⟨_,m,rfl,ax.out,⟨_,rfl, ?_⟩,HE.out.1,HE.out.2⟩;have h:=ownsRow_setCell_below HO.out (a:=⟨w.heap.size,0,none⟩) T (.slice o2 m.length c2);exact InRow.of (Q04 h ay.out)
theorem QbS {m:Pm} (h:Q1M m=true):Q1I m m=true:=by
 unfold Q1I;rw[decide_eq_true rfl,decide_eq_true rfl,Bool.true_and,Bool.true_and];refine Q3Z rfl (fun i hi=>?_);have a:=(Q4K ((Q1r h).2.2.2.2 i hi)).1;unfold Q10;rw[if_pos ⟨a,a⟩];exact Q3j 8 (fun _ _=>rfl)
theorem Q7A {m:Bm} (h1:Q0f m.j.key m.j.l m.j.safe=true) (h2:Q0e m.t=true) (h3:m.t.all isV=true) (h4:m.p=Q0x m.j):Q1J m=true:=by
 unfold Q1J Q6M;rw[h1,h2,h3,h4,QbS (Q2V h1)]
 rfl
theorem Q72 {m:Bm} (h:Q1J m=true):m.t.all isV=true:=by
 unfold Q1J Q6M at h;simp only[Bool.and_eq_true]at h;exact h.2.1.2
theorem Qcy {m:Bm} {k i gg:Int} (a:Q1J m=true):Q1J (Q5P m k i gg)=true:=by
 unfold Q5P
 split
 ·next h=>
  have b:=Q9G h;have c:=Q1F a;have d:=Q72 a;refine Q7A b.2.1 c d ?_
  show Qa8 m.p k i gg=_
  rw[Q1N a];exact b.2.2.2.1
 ·exact a
theorem Qgf {l:List Sl} (h:l.all isV=true) (k:Nat):isV (l.getD k sl0)=true:=by
 by_cases hk:k < l.length
 ·rw[KFq,KGq hk]
  exact List.all_eq_true.1 h _ (List.getElem_mem hk)
 ·rw[KFq,List.getElem?_eq_none (by omega)]
  decide
theorem Q7W {l:List Sl} (h:l.all isV=true) (k:Nat) {s:Sl} (hs:isV s=true):(l.set k s).all isV=true:=by
 rw[List.all_eq_true]at h ⊢;intro x a
 rcases List.mem_or_eq_of_mem_set a with a|rfl
 ·exact h x a
 ·exact hs
theorem Q4t (n:Nat):∀(g:Nat) (l:List Sl) (i k:Nat),l.all isV=true->(Q2s n g l i k).all isV=true
 |0,l,_,_,h=>h
 |g+1,l,i,k,h=>by
  unfold Q2s
  split
  ·split
   ·exact Q4t n g _ _ _ (Q7W (Q7W h _ (Qgf h k)) _ (by decide))
   ·exact Q4t n g _ _ _ h
  ·exact h
theorem QeM {l:List Sl} (h:l.all isV=true) (a p:Int):(Q3R l a p).all isV=true:=by
 unfold Q3R
 split
 ·exact Q4t _ _ _ _ _ (Q7W h _ (by decide))
 ·exact h
theorem QcJ {l:List Sl} (h:l.all isV=true) (a p:Int) {v t:Int} (hv:0<=v/\v < 6):(Q6R l a p v t).all isV=true:=by
 unfold Q6R
 split
 ·exact Q7W h _ (by unfold isV;simp;omega)
 ·exact h
theorem Qdu {m:Bm} {now a p v:Int} (b:Q1J m=true) (g:0<=now) (h:now<=100000) (c:Q0o a p=true) (hv:0<=v/\v < 6):Q1J (Q79 m now a p v)=true:=by
 have d:=Q2x b;have f:=Q1N b;refine Q7A d ?_ ?_ f
 ·show Q0e (Q4U m.t now a p v)=true
  unfold Q4U
  split
  ·exact Qbz (Q1F b) c (by omega) (by omega)
  ·exact Qbz (Qcx (Q1F b)) c (by omega) (by omega)
 ·show(Q4U m.t now a p v).all isV=true
  unfold Q4U
  split
  ·exact QcJ (Q72 b) a p hv
  ·exact QcJ (QeM (Q72 b) _ _) a p hv
theorem Q64 {m:Bm} (h:Q1J m=true):fitBm m:=⟨by have:=(Q0K (Q2x h)).2.1;omega,Q5r h,by have:=(Q0d.1 (Q1F h)).2.1;omega⟩
theorem QfM (key:Int) (n:Nat) (b:Q1D key=true) (d:1<=n) (h2:n<=16):Q1J ⟨⟨key,[],0⟩,⟨key,[],Q17 key [[]]⟩,List.replicate n sl0⟩=true:=by
 have a:Q0f key [] 0=true:=by unfold Q0f;rw[b];rfl
 refine Q7A a ?_ ?_ ?_
 ·show Q0e (List.replicate n sl0)=true
  have e:Q7c (n:Int)=List.replicate n sl0:=by unfold Q7c;rw[if_pos ⟨by omega,by omega⟩];simp
  rw[<-e];exact Qfx (by omega) (by omega)
 ·show(List.replicate n sl0).all isV=true
  rw[List.all_eq_true];intro x c;rw[List.eq_of_mem_replicate c]
  decide
 ·show(⟨key,[],Q17 key [[]]⟩:Pm)=Q0x ⟨key,[],0⟩
  unfold Q0x;rw[if_pos a]
  rfl
theorem QaI {α:Type} (L:Lay α) {a:α} {j:Nat} {u:Value} (c:j < L.k):∀(l:List α) (i:Nat),i < l.length->L.cs a=(L.cs (l.getD i L.d)).set j u->(l.flatMap L.cs).set (i * L.k+j) u=(l.set i a).flatMap L.cs
 |[],i,h,_=>absurd h (KMq _)
 |x::l,0,_,e=>by
  have b:(L.cs x).length=L.k:=L.len x;rw[List.set_cons_zero,List.flatMap_cons,List.flatMap_cons,Nat.zero_mul,Nat.zero_add,List.set_append_left _ _ (by omega),e];rfl
 |x::l,i+1,h,e=>by
  have b:(L.cs x).length=L.k:=L.len x;have h2:=QaI L c l i (by simpa using h) e;rw[List.set_cons_succ,List.flatMap_cons,List.flatMap_cons,List.set_append_right _ _ (by rw[b,Nat.succ_mul];omega),<-h2,b,show(i+1) * L.k+j - L.k=i * L.k+j by rw[Nat.succ_mul];omega]
structure BInv (k B R:Nat) (w0 wr:World) (m:List Sl) (g c:Nat):Prop where
 ln:1<=m.length/\m.length<=16
 cur:isCur k wr
 box:wr.heap[B]? =some (.cells #[.slice (some ⟨g,0,none⟩) m.length c] 32 (0,0))
 res:wr.heap[R]? =some (.cells #[.slice none 0 0] 32 (0,0))
 own:wr.ownsRow w0.heap.size 101 5 (.slice (some ⟨g,0,none⟩) m.length c) m.length (m.flatMap Q0g.cs)
 gr:w0.grownBy wr (some k)
theorem BInv.draw {k B R:Nat} {a wr x:World} {m:List Sl} {g c:Nat} (h:BInv k B R a wr m g c) (p:k < a.heap.size) (l:a.heap.size<=B) (n:a.heap.size<=R) (b:wr.grownBy x (some k)) (i:isCur k x):BInv k B R a x m g c:=by
 have d:=(KEq h.box);have f:=(KEq h.res);have j:=h.own.lt g rfl;exact⟨h.ln,i,(b.block B d (by simp;omega)).trans h.box,(b.block R f (by simp;omega)).trans h.res,World.ownsRow.kept h.own b (.inr (by simp[Value.ownBlock];omega)),Q0m h.gr b⟩
theorem BInv.drawd {k B R:Nat} {b wr x:World} {m:List Sl} {g c:Nat} (h:BInv k B R b wr m g c) (j:k < b.heap.size) (d:b.heap.size<=B) (f:b.heap.size<=R) (a:wr.drew.grownBy x (some k)) (i:isCur k x):BInv k B R b x m g c:=
 h.draw j d f ⟨a.os,a.tape,a.output,a.size,a.block⟩ i
theorem BInv.grown {k B R:Nat} {b wr x:World} {m:List Sl} {g c:Nat} (h:BInv k B R b wr m g c) (d:k < b.heap.size) (f:b.heap.size<=B) (j:b.heap.size<=R) (a:Below wr.heap.size wr x):BInv k B R b x m g c:=
 h.draw d f j ⟨a.os,a.tape,a.output,a.size,fun i hi _=>a.block i hi⟩ (h.cur.below (a.mono (Kbq d h.gr.size)))
theorem BInv.apart {k B R:Nat} {f wr:World} {m:List Sl} {g c:Nat} (h:BInv k B R f wr m g c):g≠B/\g≠R:=by
 rcases h.own.2 with⟨b,_⟩|⟨i,cap,d,b,_,a,_⟩
 ·cases b
 ·injection b with b _ _
  injection b with b;injection b with b _ _;subst b
  constructor
  ·intro e
   rw[e,h.box]at a;injection a with a;injection a with _ a _;exact absurd a (by decide)
  ·intro e
   rw[e,h.res]at a;injection a with a;injection a with _ a _;exact absurd a (by decide)
theorem BInv.store {k B R:Nat} {b wr:World} {m:List Sl} {g c i j:Nat} {u:Value} (h:BInv k B R b wr m g c) (w:k < b.heap.size) (y:b.heap.size<=B) (z:b.heap.size<=R) (v:j < 5) (hi:i < m.length) (s:Sl) (hs:Q0g.cs s=(Q0g.cs (m.getD i Q0g.d)).set j u):BInv k B R b (wr.setCell ⟨g,i * 5+j,none⟩ u) (m.set i s) g c:=by
 have l:=h.own.lt g rfl;obtain⟨r,t⟩:=h.apart;have n:=Q36 wr g (i * 5+j) u;have a:Below b.heap.size wr (wr.setCell ⟨g,i * 5+j,none⟩ u):=n.below l.1 h.gr.size;have f:=Qdt (j:=i * 5+j) (u:=u) h.own (World.grownBy.refl wr (some g));refine⟨by rw[List.length_set];exact h.ln,h.cur.below (a.mono w), ?_, ?_, ?_, ?_⟩
 ·rw[List.length_set];exact(Below.heap_setCell wr ⟨g,i * 5+j,none⟩ u B (fun e=>r e.symm)).trans h.box
 ·exact(Below.heap_setCell wr ⟨g,i * 5+j,none⟩ u R (fun e=>t e.symm)).trans h.res
 ·rw[List.length_set,<-QaI Q0g v m i hi hs];exact f.1
 ·exact⟨a.os.trans h.gr.os,a.tape.trans h.gr.tape,a.output.trans h.gr.output,Kdq h.gr.size a.size,fun q p x=>(a.block q p).trans (h.gr.block q p x)⟩
theorem BInv.boxc {k B R:Nat} {w0 wr:World} {m:List Sl} {g c:Nat} (h:BInv k B R w0 wr m g c):wr.cell? ⟨B,0,none⟩=some (.slice (some ⟨g,0,none⟩) m.length c):=Q0k h.box 0 _ rfl
theorem BInv.resc {k B R:Nat} {w0 wr:World} {m:List Sl} {g c:Nat} (h:BInv k B R w0 wr m g c):wr.cell? ⟨R,0,none⟩=some (.slice none 0 0)/\wr.frozen? ⟨R,0,none⟩=false:=⟨Q0k h.res 0 _ rfl,Q26 h.res 0⟩
theorem BInv.row {k B R:Nat} {b wr:World} {m:List Sl} {g c:Nat} (h:BInv k B R b wr m g c) {i j:Nat} (hi:i < m.length) (d:j < 5):(∃u,wr.cell? ⟨g,i * 5+j,none⟩=some u)/\wr.frozen? ⟨g,i * 5+j,none⟩=false:=by
 have f:(m.flatMap Q0g.cs).length=m.length * 5:=by rw[Q0l];rfl
 have a:i * 5+j < m.length * 5:=by omega
 exact⟨⟨_,(h.own.cellAt (i * 5+j) a).trans (KGq (by omega))⟩,h.own.frozenAt (i * 5+j)⟩
theorem BInv.done {k B:Nat} {w wr:World} {m:List Sl} {g c:Nat} (h:BInv k B w.heap.size w wr m g c) (r:k < w.heap.size):InTb w.heap.size (wr.setCell ⟨w.heap.size,0,none⟩ (.slice (some ⟨g,0,none⟩) m.length c)).heap.size (wr.setCell ⟨w.heap.size,0,none⟩ (.slice (some ⟨g,0,none⟩) m.length c)) (tab (.slice (some ⟨g,0,none⟩) m.length c)) m/\isCur k (wr.setCell ⟨w.heap.size,0,none⟩ (.slice (some ⟨g,0,none⟩) m.length c))/\w.grownBy (wr.setCell ⟨w.heap.size,0,none⟩ (.slice (some ⟨g,0,none⟩) m.length c)) (some k):=by
 obtain⟨_,l⟩:=h.apart;have a:Below w.heap.size wr (wr.setCell ⟨w.heap.size,0,none⟩ (.slice (some ⟨g,0,none⟩) m.length c)):=(KBq.mono h.gr.size).setCell (p:=⟨w.heap.size,0,none⟩) (Kaq _) _;refine⟨⟨_,rfl,InRow.of ?_⟩,h.cur.below (a.mono r),a.os.trans h.gr.os,a.tape.trans h.gr.tape,a.output.trans h.gr.output,Kdq h.gr.size a.size,fun q f s=>(a.block q f).trans (h.gr.block q f s)⟩
 rcases h.own.2 with⟨b,_⟩|⟨i,cap,d,b,h2,n,j⟩
 ·cases b
 ·refine⟨h.own.1,.inr ⟨i,cap,d,b,h2, ?_,j⟩⟩
  injection b with b _ _;injection b with b;injection b with b _ _;subst b;exact(Below.heap_setCell wr ⟨w.heap.size,0,none⟩ _ g l).trans n
theorem BInv.doned {k B:Nat} {w wr:World} {m:List Sl} {g c:Nat} (h:BInv k B w.heap.size w wr m g c) (d:k < w.heap.size):InTb w.heap.size (wr.setCell ⟨w.heap.size,0,none⟩ (.slice (some ⟨g,0,none⟩) m.length c)).drew.heap.size (wr.setCell ⟨w.heap.size,0,none⟩ (.slice (some ⟨g,0,none⟩) m.length c)).drew (tab (.slice (some ⟨g,0,none⟩) m.length c)) m/\isCur k (wr.setCell ⟨w.heap.size,0,none⟩ (.slice (some ⟨g,0,none⟩) m.length c)).drew/\w.grownBy (wr.setCell ⟨w.heap.size,0,none⟩ (.slice (some ⟨g,0,none⟩) m.length c)).drew (some k):=by
 obtain⟨b,h2,a⟩:=h.done d;exact⟨b.step (Stp.of (lo:=0) (hi:=0) (KHq KBq)) (.inl (Kcq _)),h2.below (KHq KBq),a.os,a.tape,a.output,a.size,a.block⟩
theorem Qi5 (k g:Nat) (a b c:Int) (w:World) (j:isCur k w) (l:g < w.heap.size) (d:g≠k) (n:w.cell? ⟨g,0,none⟩=some (.int .i64 a)) (p:w.cell? ⟨g,1,none⟩=some (.int .i64 b)) (r:w.cell? ⟨g,2,none⟩=some (.int .i64 c)):
  Calls Tryz.prog 55 #[.pointer (some ⟨k,0,none⟩),.slice (some ⟨g,0,none⟩) 3 3] w fun e h=> ∃x:Int,e=.returned (.int .i64 x)/\isCur k h/\w.grownBy h (some k):=by
 refine(Q1H k g [a,b,c] w j l d (by simp) (by simp) ?_).mono ?_
 ·intro q m
  have f:q < 3:=m
  match q,f with
  |0,_=>exact n
  |1,_=>exact p
  |2,_=>exact r
 ·rintro e h ⟨q,_,rfl,i,h2⟩
  exact⟨_,rfl,i,h2⟩
theorem Qfr {k B R:Nat} {n wr:World} {m:List Sl} {g c i:Nat} {f:Bool} {t l j st:Int} (w:m.getD i sl0=⟨f,t,l,j,st⟩) (h:BInv k B R n wr m g c) (s:k < n.heap.size) (q:n.heap.size<=B) (b:i < m.length) (a p:Int) (r:n.heap.size<=R:=by exact Kaq _):BInv k B R n ((wr.setCell ⟨g,i * 5+1,none⟩ (.int .i64 a)).setCell ⟨g,i * 5+2,none⟩ (.int .i64 p)) (m.set i ⟨f,a,p,j,st⟩) g c:=by
 have v:=h.store s q r (show 1 < 5 by decide) b ⟨f,a,l,j,st⟩ (u:=.int .i64 a) (by rw[show m.getD i Q0g.d=⟨f,t,l,j,st⟩from w];rfl);have h2:=v.store s q r (show 2 < 5 by decide) (i:=i) (by rw[List.length_set];exact b) ⟨f,a,p,j,st⟩ (u:=.int .i64 p) (by rw[show(m.set i ⟨f,a,l,j,st⟩).getD i Q0g.d=⟨f,a,l,j,st⟩from Q1b m i _ b];rfl)
 rwa [List.set_set]at h2
theorem Qi4 {k B R:Nat} {a wr:World} {m:List Sl} {g c i:Nat} {l:Bool} {f j p st:Int} (t:m.getD i sl0=⟨l,f,j,p,st⟩) (h:BInv k B R a wr m g c) (s:k < a.heap.size) (q:a.heap.size<=B) (n:i < m.length) (b:Int) (r:a.heap.size<=R:=by exact Kaq _):BInv k B R a (wr.setCell ⟨g,i * 5+3,none⟩ (.int .i64 b)) (m.set i ⟨l,f,j,b,st⟩) g c:=
 h.store s q r (show 3 < 5 by decide) n ⟨l,f,j,b,st⟩ (u:=.int .i64 b) (by rw[show m.getD i Q0g.d=⟨l,f,j,p,st⟩from t];rfl)
theorem QiA {k B R:Nat} {a wr:World} {m:List Sl} {g c i:Nat} {l:Bool} {f j n st:Int} (t:m.getD i sl0=⟨l,f,j,n,st⟩) (h:BInv k B R a wr m g c) (s:k < a.heap.size) (q:a.heap.size<=B) (p:i < m.length) (b:Int) (r:a.heap.size<=R:=by exact Kaq _):BInv k B R a (wr.setCell ⟨g,i * 5+4,none⟩ (.int .i64 b)) (m.set i ⟨l,f,j,n,b⟩) g c:=
 h.store s q r (show 4 < 5 by decide) p ⟨l,f,j,n,b⟩ (u:=.int .i64 b) (by rw[show m.getD i Q0g.d=⟨l,f,j,n,st⟩from t];rfl)
theorem Qdl (k:Nat) (w:World) (hc:isCur k w) (l:k < w.heap.size):
  Calls Tryz.prog 83 #[.pointer (some ⟨k,0,none⟩)] w fun e w'=> ∃v' m,e=.returned v'/\(1<=m.length/\m.length<=16)/\InTb w.heap.size w'.heap.size w' v' m/\isCur k w'/\w.grownBy w' (some k):=by
 obtain⟨W0,J⟩:∃W,w.alloc (.cells #[.slice none 0 0] 32)=W:=⟨_,rfl⟩;have af:=alb0v0v1 J
 have ak:w.grownBy W0 (some k):=by rw[<-J];exact World.grownBy_alloc w _ _
 have ae:Hid _:=alx0v0v1 J;have aa:=alz0v0v1 J;have ac:=Q02 (hc.below (af.mono l));have ad:=Q02 ak;clear af ak hc;go_enter Tryz.func83,Tryz.ntmps83;go_wp2_with fail;refine(QcV k W0 ac.out (by omega)).mono ?_;rintro e v1 ⟨vt,m,rfl,ao,⟨vl,rfl,L,_⟩,ag,M⟩;have Y:=(Q0d.1 ao);have N:=Y.1;have O:=Y.2.1
 obtain⟨g,cap,rfl⟩:∃g cap,vl=.slice (some ⟨g,0,none⟩) m.length cap:=by
  rcases L.2 with⟨h1,h2⟩|⟨g,cap,av,h1,_⟩
  ·omega
  ·exact⟨g,cap,h1⟩
 obtain⟨W2,X⟩:∃W,v1.alloc (.cells #[.slice (some ⟨g,0,none⟩) m.length cap] 32)=W:=⟨_,rfl⟩;have t:=alb0v0v1 X;have au:=M.size
 have P:Hid (BInv k v1.heap.size w.heap.size w W2 m g cap):=by
  refine⟨⟨N,O⟩,ag.below (t.mono (by omega)),by rw[<-X];exact World.alloc_heap_new v1 _,(t.block _ (by omega)).trans ((M.block _ aa (by simp;omega)).trans ae.out),Q03 (Q04 L (KIq aa)) t,Q0m (Q0m ad.out M) ⟨t.os,t.tape,t.output,t.size,fun i hi _=>t.block i hi⟩⟩
 have b:w.heap.size<=v1.heap.size:=by omega
 clear Y ao L ag M t ae ac ad J aa au;go_wp2_with fail;refine(Q1s k 7 W2 P.out.cur (by decide) (by decide)).mono ?_;rintro e v3 ⟨y,rfl,ah,al⟩;have C:=Q02 (P.out.draw l b (Kaq _) al ah);clear ah al P X;generalize v1.heap.size=B at *;have ct:=C.out.boxc
 cases y with
 |false=>
  have cr:=C.out.resc.1;have fr:=C.out.resc.2;have h:=Q02 (C.out.done l);go_wp2;refine bodyPost_ret (v:=tab (.slice (some ⟨g,0,none⟩) m.length cap)) (by simp[results,Tryz.results83,go_sem,cr]) rfl ⟨_,m,rfl,⟨N,O⟩,h.out.1,h.out.2.1,h.out.2.2⟩
 |true=>
  go_wp2_with fail;refine(Q0t k (m.length:Int) v3 C.out.cur (by omega) (by omega)).mono ?_;rintro e v4 ⟨iz,rfl,aw,ax,ai,am⟩;obtain⟨i,rfl⟩:∃i:Nat,iz=i:=⟨iz.toNat,by omega⟩
  have c:i < m.length:=by omega
  have R:=Q02 (C.out.draw l b (Kaq _) am ai);clear ai am C ct;go_wp2_with fail;refine(Q0t k 4 v4 R.out.cur (by decide) (by decide)).mono ?_;rintro e n ⟨q,rfl,q0,q4,aj,an⟩;have p:=Q02 (R.out.draw l b (Kaq _) an aj);clear aj an R;have ct:=p.out.boxc;have aq:k < n.heap.size:=Kbq l p.out.gr.size;obtain⟨s,ab⟩:∃s,m.getD i sl0=s:=⟨_,rfl⟩;have Z:=Qcq p.out.own rfl i c;rw[ab]at Z;have e0:=Z.1;have f0:n.frozen? ⟨g,i * 5,none⟩=false:=(p.out.row c (show 0 < 5 by decide)).2;have HX:=Q02 ab;clear Z ab;obtain⟨su,sa,sp,sv,st⟩:=s;simp only at e0
  have hq:q=0\/q=1\/q=2\/q=3:=by omega
  rcases hq with rfl|rfl|rfl|rfl
  ·obtain⟨W6,G⟩:∃W,n.setCell ⟨g,i * 5,none⟩ (.bool (!su))=W:=⟨_,rfl⟩
   have a:Hid (BInv k B w.heap.size w W6 (m.set i ⟨!su,sa,sp,sv,st⟩) g cap):=by
    rw[<-G];exact(p.out.store l b (Kaq _) (show 0 < 5 by decide) c ⟨!su,sa,sp,sv,st⟩ (u:=.bool (!su)) (by rw[show m.getD i Q0g.d=⟨su,sa,sp,sv,st⟩from HX.out];rfl))
   have j:=Q02 (show(m.set i ⟨!su,sa,sp,sv,st⟩).length=m.length from List.length_set);have F:=a.out.boxc;rw[j.out]at F;have E:=a.out.resc.1;have V:=a.out.resc.2;have h:=Q02 (a.out.doned l);rw[j.out]at h;have T:=Q02 a.out.ln;clear a;go_wp2
   go_region
   all_goals (
    go_wp2
    refine bodyPost_ret (v:=tab (.slice (some ⟨g,0,none⟩) m.length cap)) (by simp[results,Tryz.results83,go_sem,E]) rfl ⟨_,_,rfl,T.out,h.out.1,h.out.2.1,h.out.2.2⟩)
  ·go_wp2
   go_region_with (first|(go_at_call 130;have x:=Q2i k n.drew (p.out.grown l b (Kaq _) (KHq KBq)).cur aq;with_reducible refine x.mono ?_;clear x;rintro e x0 ⟨fa,fp,rfl,ha,hp,z,A⟩;have r:=Q02 (p.out.drawd l b (Kaq _) A z);have k0:=r.out.boxc;obtain⟨u1,c1⟩:=(r.out.row c (show 1 < 5 by decide)).1;have f1:=(r.out.row c (show 1 < 5 by decide)).2;obtain⟨u2,c2⟩:=(r.out.row c (show 2 < 5 by decide)).1;have f2:=(r.out.row c (show 2 < 5 by decide)).2;have I:=Q02 (Qfr HX.out r.out l b c fa fp);obtain⟨W6,G⟩:∃W,(x0.setCell ⟨g,i * 5+1,none⟩ (.int .i64 fa)).setCell ⟨g,i * 5+2,none⟩ (.int .i64 fp)=W:=⟨_,rfl⟩;rw[G]at I;have a:=I;have j:=Q02 (show(m.set i ⟨su,fa,fp,sv,st⟩).length=m.length from List.length_set);have F:=a.out.boxc;rw[j.out]at F;have E:=a.out.resc.1;have V:=a.out.resc.2;have h:=Q02 (a.out.done l);rw[j.out]at h;have T:=Q02 a.out.ln;clear z A I a r))
   all_goals (
    go_wp2
    refine bodyPost_ret (v:=tab (.slice (some ⟨g,0,none⟩) m.length cap)) (by simp[results,Tryz.results83,go_sem,E]) rfl ⟨_,_,rfl,T.out,h.out.1,h.out.2.1,h.out.2.2⟩)
  ·obtain⟨H,f⟩:∃W,n.alloc (.cells #[.int .i64 (-1),.int .i64 100001,.int .i64 1] 3)=W:=⟨_,rfl⟩
   have D:Hid (BInv k B w.heap.size w H m g cap):=by rw[<-f];exact p.out.grown l b (Kaq _) (KBq.alloc (Kaq _) _)
   have p0:H.drew.cell? ⟨n.heap.size,0,none⟩=some (.int .i64 (-1)):=by rw[<-f];simp[go_sem]
   have p1:H.drew.cell? ⟨n.heap.size,1,none⟩=some (.int .i64 100001):=by rw[<-f];simp[go_sem]
   have p2:H.drew.cell? ⟨n.heap.size,2,none⟩=some (.int .i64 1):=by rw[<-f];simp[go_sem]
   have U:=Q02 (Qi5 k n.heap.size (-1) 100001 1 H.drew (D.out.grown l b (Kaq _) (KHq KBq)).cur (by rw[<-f];show n.heap.size < (n.alloc _).heap.size;simp) (by omega) p0 p1 p2);clear p0 p1 p2
   have ar:n.heap.size < H.heap.size:=by rw[<-f];simp
   have ap:=D.out.boxc;go_wp2
   go_region_with (first|(go_at_call 55;have x:=U.out;with_reducible refine x.mono ?_;clear x;rintro e x0 ⟨pv,rfl,z,A⟩;have r:=Q02 (D.out.drawd l b (Kaq _) A z);have k0:=r.out.boxc;obtain⟨u1,c1⟩:=(r.out.row c (show 3 < 5 by decide)).1;have f1:=(r.out.row c (show 3 < 5 by decide)).2;have I:=Q02 (Qi4 HX.out r.out l b c pv);obtain⟨W6,G⟩:∃W,x0.setCell ⟨g,i * 5+3,none⟩ (.int .i64 pv)=W:=⟨_,rfl⟩;rw[G]at I;have a:=I;have j:=Q02 (show(m.set i ⟨su,sa,sp,pv,st⟩).length=m.length from List.length_set);have F:=a.out.boxc;rw[j.out]at F;have E:=a.out.resc.1;have V:=a.out.resc.2;have h:=Q02 (a.out.done l);rw[j.out]at h;have T:=Q02 a.out.ln;clear z A I a r))
   all_goals (
    go_wp2
    refine bodyPost_ret (v:=tab (.slice (some ⟨g,0,none⟩) m.length cap)) (by simp[results,Tryz.results83,go_sem,E]) rfl ⟨_,_,rfl,T.out,h.out.1,h.out.2.1,h.out.2.2⟩)
  ·obtain⟨H,f⟩:∃W,n.alloc (.cells #[.int .i64 (-1),.int .i64 200001,.int .i64 1] 3)=W:=⟨_,rfl⟩
   have D:Hid (BInv k B w.heap.size w H m g cap):=by rw[<-f];exact p.out.grown l b (Kaq _) (KBq.alloc (Kaq _) _)
   have p0:H.drew.cell? ⟨n.heap.size,0,none⟩=some (.int .i64 (-1)):=by rw[<-f];simp[go_sem]
   have p1:H.drew.cell? ⟨n.heap.size,1,none⟩=some (.int .i64 200001):=by rw[<-f];simp[go_sem]
   have p2:H.drew.cell? ⟨n.heap.size,2,none⟩=some (.int .i64 1):=by rw[<-f];simp[go_sem]
   have U:=Q02 (Qi5 k n.heap.size (-1) 200001 1 H.drew (D.out.grown l b (Kaq _) (KHq KBq)).cur (by rw[<-f];show n.heap.size < (n.alloc _).heap.size;simp) (by omega) p0 p1 p2);clear p0 p1 p2
   have ar:n.heap.size < H.heap.size:=by rw[<-f];simp
   have ap:=D.out.boxc;go_wp2
   go_region_with (first|(go_at_call 55;have x:=U.out;with_reducible refine x.mono ?_;clear x;rintro e x0 ⟨pv,rfl,z,A⟩;have r:=Q02 (D.out.drawd l b (Kaq _) A z);have k0:=r.out.boxc;obtain⟨u1,c1⟩:=(r.out.row c (show 4 < 5 by decide)).1;have f1:=(r.out.row c (show 4 < 5 by decide)).2;have I:=Q02 (QiA HX.out r.out l b c pv);obtain⟨W6,G⟩:∃W,x0.setCell ⟨g,i * 5+4,none⟩ (.int .i64 pv)=W:=⟨_,rfl⟩;rw[G]at I;have a:=I;have j:=Q02 (show(m.set i ⟨su,sa,sp,sv,pv⟩).length=m.length from List.length_set);have F:=a.out.boxc;rw[j.out]at F;have E:=a.out.resc.1;have V:=a.out.resc.2;have h:=Q02 (a.out.done l);rw[j.out]at h;have T:=Q02 a.out.ln;clear z A I a r))
   all_goals (
    go_wp2
    refine bodyPost_ret (v:=tab (.slice (some ⟨g,0,none⟩) m.length cap)) (by simp[results,Tryz.results83,go_sem,E]) rfl ⟨_,_,rfl,T.out,h.out.1,h.out.2.1,h.out.2.2⟩)
theorem Qfu {W:World} {R:Nat} {v p n l k i g:Value} {T:TypeId} (h:W.heap[R]? =some (.cells #[v,p,n,l,k,i,g] T (0,0))) (a b c d f j m:Value):(Q1Q W R a b c d f j m).heap[R]? =some (.cells #[a,b,c,d,f,j,m] T (0,0)):=by
 have q:(W.setCell ⟨R,0,none⟩ a).heap[R]? =some (.cells #[a,p,n,l,k,i,g] T (0,0)):=Q05 h 0 a;have h2:((W.setCell ⟨R,0,none⟩ a).setCell ⟨R,1,none⟩ b).heap[R]? =some (.cells #[a,b,n,l,k,i,g] T (0,0)):=Q05 q 1 b;have r:(((W.setCell ⟨R,0,none⟩ a).setCell ⟨R,1,none⟩ b).setCell ⟨R,2,none⟩ c).heap[R]? =some (.cells #[a,b,c,l,k,i,g] T (0,0)):=Q05 h2 2 c;have s:((((W.setCell ⟨R,0,none⟩ a).setCell ⟨R,1,none⟩ b).setCell ⟨R,2,none⟩ c).setCell ⟨R,3,none⟩ d).heap[R]? =some (.cells #[a,b,c,d,k,i,g] T (0,0)):=Q05 r 3 d
 have t:(((((W.setCell ⟨R,0,none⟩ a).setCell ⟨R,1,none⟩ b).setCell ⟨R,2,none⟩ c).setCell ⟨R,3,none⟩ d).setCell ⟨R,4,none⟩ f).heap[R]? =some (.cells #[a,b,c,d,f,i,g] T (0,0)):=Q05 s 4 f;have u:((((((W.setCell ⟨R,0,none⟩ a).setCell ⟨R,1,none⟩ b).setCell ⟨R,2,none⟩ c).setCell ⟨R,3,none⟩ d).setCell ⟨R,4,none⟩ f).setCell ⟨R,5,none⟩ j).heap[R]? =some (.cells #[a,b,c,d,f,j,g] T (0,0)):=Q05 t 5 j;exact Q05 u 6 m
theorem OrBr.opn {lo hi:Nat} {w:World} {v:Value} {m:Bm} (h:OrBr lo hi w v m):∃(l:Int) (o:Option Addr) (p c:Nat) (u n:Int) (g:Option Addr) (q d:Nat) (f:Option Addr) (r b:Nat) (t:Option Addr) (s i:Nat),v=Q0O l (.slice o p c) u n (.slice g q d) (.slice f r b) (.slice t s i):=by
 obtain⟨D,C,E,F,rfl,⟨o,c,rfl,_⟩,h2,⟨x,y,e,⟨g,d,rfl,_⟩,_,a,_⟩,B,z,rfl,A⟩:=h;simp only[Value.agg.injEq,Array.mk.injEq,List.cons.injEq,and_true,true_and]at e;obtain⟨j,k⟩:=e;subst j k;obtain⟨f,b,rfl⟩:=RiR.len (RcR.ri a);exact⟨_,_,_,_,_,_,_,_,_,_,_,_,_,_,_,rfl⟩
theorem OrBr.eqs {lo hi:Nat} {w:World} {g:Int} {o:Option Addr} {i c:Nat} {s a:Int} {r:Option Addr} {k d:Nat} {q:Option Addr} {n b:Nat} {F:Option Addr} {E u:Nat} {m:Bm} (h:OrBr lo hi w (Q0O g (.slice o i c) s a (.slice r k d) (.slice q n b) (.slice F E u)) m):m=⟨⟨g,m.j.l,s⟩,⟨a,m.p.l,m.p.ring⟩,m.t⟩/\i=m.j.l.length/\RcPm lo hi w (plv a (.slice r k d) (.slice q n b)) m.p:=by
 obtain⟨L,J,M,N,e,⟨I,G,C,_⟩,h2,D,H⟩:=h;simp only[Value.agg.injEq,Array.mk.injEq,List.cons.injEq,and_true,true_and,Value.int.injEq]at e;obtain⟨v,x,y,f,z,A,B⟩:=e;subst x z A B;injection C with e91 e92 e93;refine⟨?_,e92, ?_⟩
 ·rw[v,y,f]
 ·rw[f];exact D
theorem Q9u {lo hi:Nat} {v:Value} {m:Bm} {w:World} (h:OrBr lo hi w v m) (d:hi<=w.heap.size) (b:Q1J m=true):
  Calls Tryz.prog 131 #[v] w fun e a=> ∃c,e=.returned c/\OwBm w.heap.size a.heap.size a c m/\Below w.heap.size w a:=QgO (h.or d (Q3V b)) (Q64 b)
theorem QgU (T:Int) (o:Option Addr) (U c:Nat) (Z D:Int) (N:Option Addr) (J F:Nat) (M:Option Addr) (L E:Nat) (Y:Option Addr) (V P:Nat) (m:Bm) (k i gg:Int) (w:World) {a b:Nat} (h:OrBr a b w (Q0O T (.slice o U c) Z D (.slice N J F) (.slice M L E) (.slice Y V P)) m) (hh:b<=w.heap.size) (R:Q1J m=true) (hc:Q0F k i gg=true):
  Calls Tryz.prog 128 #[Q0O T (.slice o U c) Z D (.slice N J F) (.slice M L E) (.slice Y V P),cmd k i gg] w fun e w'=> ∃(n:Int) (X:Option Addr) (r O:Nat) (B q:Int) (z:Option Addr) (s f:Nat) (y:Option Addr) (u d:Nat) (A:Option Addr) (x g:Nat) (nf:Bool),e=.returned (.tuple #[Q0O n (.slice X r O) B q (.slice z s f) (.slice y u d) (.slice A x g),.bool nf])/\(OrBr w.heap.size w'.heap.size w' (Q0O n (.slice X r O) B q (.slice z s f) (.slice y u d) (.slice A x g)) (Q5P m k i gg)\/(Q0O n (.slice X r O) B q (.slice z s f) (.slice y u d) (.slice A x g)=Q0O T (.slice o U c) Z D (.slice N J F) (.slice M L E) (.slice Y V P)/\Q5P m k i gg=m))/\Below w.heap.size w w':=by
 obtain⟨e1,e2,e3⟩:=h.eqs
 have hp:RcPm 0 w.heap.size w (plv D (.slice N J F) (.slice M L E)) ⟨D,m.p.l,m.p.ring⟩:=by
  have e4:m.p=⟨D,m.p.l,m.p.ring⟩:=congrArg Bm.p e1;rw[<-e4];exact e3.mono (Kcq _) hh
 have C:=fun (W:World) (G:Below w.heap.size w W)=>Q9u ((h.step (Stp.of (lo:=0) (hi:=0) G) (.inl (Kcq _)))) (Kdq hh G.size) R
 have hf:=Q64 R;rw[e1]at C R hf ⊢;refine(QdO T o U c Z D N J F M L E Y V P m.j.l m.p.l m.p.ring m.t k i gg w e2 hp C R hc hf).mono ?_;rintro e w' ⟨v,rfl,hv,H⟩
 rcases hv with⟨_,hv⟩|⟨hn,rfl⟩
 ·have I:=hv.br
  obtain⟨n,X,r,O,B,q,z,s,f,y,u,d,A,x,g,rfl⟩:=I.opn;exact⟨_,_,_,_,_,_,_,_,_,_,_,_,_,_,_,_,rfl,.inl I,H⟩
 ·exact⟨_,_,_,_,_,_,_,_,_,_,_,_,_,_,_,_,rfl,.inr ⟨rfl,by unfold Q5P;rw[if_neg (by rw[hn];decide)]⟩,H⟩
theorem Qd2 (T:Int) (o:Option Addr) (V c:Nat) (sj U:Int) (ob:Option Addr) (X J:Nat) (oR:Option Addr) (Y I:Nat) (ot:Option Addr) (Z L:Nat) (m:Bm) (now C D x:Int) (w:World) {a b:Nat} (h:OrBr a b w (Q0O T (.slice o V c) sj U (.slice ob X J) (.slice oR Y I) (.slice ot Z L)) m) (hh:b<=w.heap.size) (E:Q1J m=true) (P:0<=now) (R:now<=100000) (N:Q0o C D=true):
  Calls Tryz.prog 129 #[Q0O T (.slice o V c) sj U (.slice ob X J) (.slice oR Y I) (.slice ot Z L),.int .i64 now,Qb3 C D,.int .i64 x] w fun e G=> ∃(k:Int) (o1:Option Addr) (q H:Nat) (B n:Int) (z:Option Addr) (r g:Nat) (y:Option Addr) (s f:Nat) (A:Option Addr) (u i:Nat),e=.returned (Q0O k (.slice o1 q H) B n (.slice z r g) (.slice y s f) (.slice A u i))/\OrBr w.heap.size G.heap.size G (Q0O k (.slice o1 q H) B n (.slice z r g) (.slice y s f) (.slice A u i)) (Q79 m now C D x)/\Below w.heap.size w G:=by
 obtain⟨e1,_,_⟩:=h.eqs
 have d:=fun (W:World) (F:Below w.heap.size w W)=>Q9u ((h.step (Stp.of (lo:=0) (hi:=0) F) (.inl (Kcq _)))) (Kdq hh F.size) E
 have hf:=Q64 E;have ht:=Q1F E
 have hs:(Q1n m.t C D).1 < 0->Q0o (Q5u m.t).a (Q5u m.t).p=true:=fun h=>Qek ht h
 have O:=Q28 ht;rw[e1]at d E hf ⊢;refine(Qbt T o V c sj U ob X J oR Y I ot Z L m.j.l m.p.l m.p.ring m.t now C D x w d E hf P R N hs O).mono ?_;rintro e G ⟨v,rfl,hv,M⟩;obtain⟨k,o1,q,H,B,n,z,r,g,y,s,f,A,u,i,rfl⟩:=hv.opn;exact⟨_,_,_,_,_,_,_,_,_,_,_,_,_,_,_,rfl,hv,M⟩
structure LBInv (k B:Nat) (w0 wr:World) (m:Bm) (kj:Int) (o:Option Addr) (nj c:Nat) (sj kp:Int) (ob:Option Addr) (np cb:Nat) (oR:Option Addr) (nr cR:Nat) (ot:Option Addr) (nt ct:Nat) (a b:Nat):Prop where
 ok:Q1J m=true
 val:OrBr a b wr (Q0O kj (.slice o nj c) sj kp (.slice ob np cb) (.slice oR nr cR) (.slice ot nt ct)) m
 lo:w0.heap.size+1<=a
 hi:b<=wr.heap.size
 off:b<=B\/B+1<=a
 box:wr.heap[B]? =some (.cells #[.int .i64 kj,.slice o nj c,.int .i64 sj,.int .i64 kp,.slice ob np cb,.slice oR nr cR,.slice ot nt ct] 34 (0,0))
 res:wr.heap[w0.heap.size]? =some (.cells #[.int .i64 0,.slice none 0 0,.int .i64 0,.int .i64 0,.slice none 0 0,.slice none 0 0,.slice none 0 0] 34 (0,0))
 dr:Dr k w0 wr
 pos:w0.heap.size < B
theorem LBInv.draw {k B:Nat} {g wr x:World} {m:Bm} {n:Int} {o:Option Addr} {r c:Nat} {z p:Int} {w:Option Addr} {s j:Nat} {v:Option Addr} {t i:Nat} {y:Option Addr} {u l:Nat} {a b:Nat} (h:LBInv k B g wr m n o r c z p w s j v t i y u l a b) (C:k < g.heap.size) (A:isCur k x) (d:wr.drew.grownBy x (some k)):LBInv k B g x m n o r c z p w s j v t i y u l a b:=by
 have f:wr.grownBy x (some k):=⟨d.os,d.tape,d.output,d.size,d.block⟩;have E:=h.pos;have D:=h.lo;exact⟨h.ok,h.val.step (Stp.grown (lo:=k) (hi:=k+1) f (fun q e=>by injection e with e;omega)) (.inl (by omega)),h.lo,Kdq h.hi f.size,h.off,Q0a f (KEq h.box) (by omega) h.box,Q0a f (KEq h.res) (by omega) h.res,h.dr.step A f,h.pos⟩
theorem LBInv.draw0 {k B:Nat} {f wr x:World} {m:Bm} {l:Int} {o:Option Addr} {p c:Nat} {w n:Int} {u:Option Addr} {q i:Nat} {t:Option Addr} {r g:Nat} {v:Option Addr} {s j:Nat} {a b:Nat} (h:LBInv k B f wr m l o p c w n u q i t r g v s j a b) (z:k < f.heap.size) (y:isCur k x) (d:wr.grownBy x (some k)):LBInv k B f x m l o p c w n u q i t r g v s j a b:=
 h.draw z y ⟨d.os,d.tape,d.output,d.size,d.block⟩
theorem LBInv.curd {k B:Nat} {d wr:World} {m:Bm} {j:Int} {o:Option Addr} {n c:Nat} {v l:Int} {t:Option Addr} {p g:Nat} {s:Option Addr} {q f:Nat} {u:Option Addr} {r i:Nat} {a b:Nat} (h:LBInv k B d wr m j o n c v l t p g s q f u r i a b) (w:k < d.heap.size):isCur k wr.drew:=h.dr.cur.below (KHq KBq)
theorem LBInv.size {k B:Nat} {d wr:World} {m:Bm} {l:Int} {o:Option Addr} {p c:Nat} {w n:Int} {u:Option Addr} {q g:Nat} {t:Option Addr} {r f:Nat} {v:Option Addr} {s i:Nat} {a b:Nat} (h:LBInv k B d wr m l o p c w n u q g t r f v s i a b) (j:k < d.heap.size):k < wr.heap.size:=Kbq j h.dr.gr.size
theorem LBInv.cells {k B:Nat} {v wr:World} {m:Bm} {i:Int} {o:Option Addr} {l c:Nat} {u j:Int} {s:Option Addr} {n f:Nat} {r:Option Addr} {p d:Nat} {t:Option Addr} {q g:Nat} {a b:Nat} (h:LBInv k B v wr m i o l c u j s n f r p d t q g a b):wr.cell? ⟨B,0,none⟩=some (.int .i64 i)/\wr.cell? ⟨B,1,none⟩=some (.slice o l c)/\wr.cell? ⟨B,2,none⟩=some (.int .i64 u)/\wr.cell? ⟨B,3,none⟩=some (.int .i64 j)/\wr.cell? ⟨B,4,none⟩=some (.slice s n f)/\wr.cell? ⟨B,5,none⟩=some (.slice r p d)/\wr.cell? ⟨B,6,none⟩=some (.slice t q g):=
 ⟨Q00 h.box 0 _ rfl,Q00 h.box 1 _ rfl,Q00 h.box 2 _ rfl,Q00 h.box 3 _ rfl,Q00 h.box 4 _ rfl,Q00 h.box 5 _ rfl,Q00 h.box 6 _ rfl⟩
theorem LBInv.frz {k B:Nat} {w wr:World} {m:Bm} {i:Int} {o:Option Addr} {n c:Nat} {v l:Int} {t:Option Addr} {p f:Nat} {s:Option Addr} {q d:Nat} {u:Option Addr} {r g:Nat} {a b:Nat} (h:LBInv k B w wr m i o n c v l t p f s q d u r g a b) (j:Nat):wr.frozen? ⟨B,j,none⟩=false:=Q01 h.box j
theorem LBInv.boxlt {k B:Nat} {v wr:World} {m:Bm} {i:Int} {o:Option Addr} {l c:Nat} {u j:Int} {s:Option Addr} {n f:Nat} {r:Option Addr} {p d:Nat} {t:Option Addr} {q g:Nat} {a b:Nat} (h:LBInv k B v wr m i o l c u j s n f r p d t q g a b):B < wr.heap.size:=(KEq h.box)
theorem LBInv.store {k B:Nat} {E x y:World} {m G:Bm} {U:Int} {o:Option Addr} {X c:Nat} {sj V:Int} {ob:Option Addr} {Y N:Nat} {oR:Option Addr} {Z M:Nat} {ot:Option Addr} {nt O:Nat} {i:Int} {A:Option Addr} {l z:Nat} {w j:Int} {u:Option Addr} {n f:Nat} {t:Option Addr} {p d:Nat} {v:Option Addr} {r g:Nat} {a b:Nat} (h:LBInv k B E x m U o X c sj V ob Y N oR Z M ot nt O a b) (hk:k < E.heap.size) (C:Below x.heap.size x y) (D:Q1J G=true) (hv:OrBr x.heap.size y.heap.size y (Q0O i (.slice A l z) w j (.slice u n f) (.slice t p d) (.slice v r g)) G\/(Q0O i (.slice A l z) w j (.slice u n f) (.slice t p d) (.slice v r g)=Q0O U (.slice o X c) sj V (.slice ob Y N) (.slice oR Z M) (.slice ot nt O)/\G=m)):∃a2 b2,LBInv k B E (Q1Q y B (.int .i64 i) (.slice A l z) (.int .i64 w) (.int .i64 j) (.slice u n f) (.slice t p d) (.slice v r g)) G i A l z w j u n f t p d v r g a2 b2:=by
 have H:=h.boxlt;have J:=(KEq h.res);have F:=h.pos;have I:=(C.block B H).trans h.box;have L:=(C.block E.heap.size J).trans h.res;have s:=Q0U y B (.int .i64 i) (.slice A l z) (.int .i64 w) (.int .i64 j) (.slice u n f) (.slice t p d) (.slice v r g);have R:=Qfu I (.int .i64 i) (.slice A l z) (.int .i64 w) (.int .i64 j) (.slice u n f) (.slice t p d) (.slice v r g);have P:=s.box L (.inl F)
 have T:Dr k E (Q1Q y B (.int .i64 i) (.slice A l z) (.int .i64 w) (.int .i64 j) (.slice u n f) (.slice t p d) (.slice v r g)):=h.dr.below hk (Q0r (C.mono h.dr.gr.size) (KIq F) (.int .i64 i) (.slice A l z) (.int .i64 w) (.int .i64 j) (.slice u n f) (.slice t p d) (.slice v r g));have hz:((Q1Q y B (.int .i64 i) (.slice A l z) (.int .i64 w) (.int .i64 j) (.slice u n f) (.slice t p d) (.slice v r g))).heap.size=y.heap.size:=Q0y _ _ _ _ _ _ _ _ _;have aa:=C.size
 rcases hv with hv|⟨e,rfl⟩
 ·exact⟨x.heap.size,y.heap.size,D,hv.step s (.inl (by omega)),by omega,by omega,.inr (by omega),R,P,T,F⟩
 ·have h2:=(h.val.step (Stp.of (lo:=0) (hi:=0) C) (.inl (Kcq _))).step s (h.off.elim (fun q=> .inr q) (fun q=> .inl q))
  rw[<-e]at h2;exact⟨a,b,D,h2,h.lo,by have:=h.hi;omega,h.off,R,P,T,F⟩
theorem QcU (k:Nat) (w:World) (hc:isCur k w) (t:k < w.heap.size):
  Calls Tryz.prog 78 #[.pointer (some ⟨k,0,none⟩)] w fun e w'=> ∃v m,e=.returned v/\Q1J m=true/\OwBm (w.heap.size+1) w'.heap.size w' v m/\Dr k w w':=by
 obtain⟨W0,D⟩:∃W,w.alloc (.cells #[.int .i64 0,.slice none 0 0,.int .i64 0,.int .i64 0,.slice none 0 0,.slice none 0 0,.slice none 0 0] 34)=W:=⟨_,rfl⟩;have aC:=alb0v0v1 D;have aa:=Q02 (show Dr k w W0 from⟨hc.below (aC.mono t),by rw[<-D];exact Q0N w _ k⟩);have ap:Hid _:=alx0v0v1 D;have ah:=alz0v0v1 D;clear aC hc;go_enter Tryz.func78,Tryz.ntmps78;go_wp2_with fail;refine(Q0t k 50 W0 aa.out.cur (by decide) (by decide)).mono ?_;rintro e w1 ⟨key,rfl,bz,bf,F,j⟩;have ab:=Q02 (aa.out.step F j);have aq:=Q02 (Q0a j ah (by omega) ap.out)
 have ai:w.heap.size < w1.heap.size:=Kbq ah j.size;have Y:=Q02 (show Q1D key=true by unfold Q1D;simp;omega);clear F j ap aa ah D;go_wp2_with fail;refine(Q0t k 6 w1 ab.out.cur (by decide) (by decide)).mono ?_;rintro e w2 ⟨q',rfl,bc,bB,F,j⟩;obtain⟨q,rfl⟩:=Int.eq_ofNat_of_zero_le bc;have aj:=Q02 (ab.out.step F j);have ar:=Q02 (Q0a j ai (by omega) aq.out);have aJ:w.heap.size < w2.heap.size:=Kbq ai j.size;clear F j aq ab ai;have HN:=QdM key (q+1) w2 Y.out (by omega);rw[show(((q+1:Nat)):Int)=1+(q:Int)by omega]at HN;go_wp2_with fail
 refine HN.mono ?_;rintro e w3 ⟨g,tb,rfl,G,ho,X⟩;clear HN;have bA:=X.size
 have am:Hid (OrBr w2.heap.size w3.heap.size w3 (Q0O key (.slice none 0 0) 0 key (.slice none 0 0) (.slice (some ⟨g,0,none⟩) 1 1) (.slice (some ⟨tb,0,none⟩) (q+1) (q+1))) ⟨⟨key,[],0⟩,⟨key,[],Q17 key [[]]⟩,List.replicate (q+1) sl0⟩):=by
  refine⟨_,_,_,_,rfl,⟨none,0,rfl,.inl rfl⟩,⟨fun n c h=>by injection h with _ _ h;exact h.symm,fun o n c h=>by injection h with _ h1 h2;omega⟩,⟨_,_,rfl,⟨none,0,rfl,.inl rfl⟩,(fun n c h=>by injection h with _ _ h;exact h.symm),G,(fun n c h=>by injection h with h;cases h)⟩, ?_⟩;exact InRow.ri (InRow.of ho)
 have ao:=Q02 (QfM key (q+1) Y.out (by omega) (by omega));have ak:=Q02 (aj.out.below t (X.mono (KIq aJ)));have au:=Q02 ((X.block _ aJ).trans ar.out);clear G ho X aj ar;obtain⟨W4,ae⟩:∃W,w3.alloc (.cells #[.int .i64 key,.slice none 0 0,.int .i64 0,.int .i64 key,.slice none 0 0,.slice (some ⟨g,0,none⟩) 1 1,.slice (some ⟨tb,0,none⟩) (q+1) (q+1)] 34)=W:=⟨_,rfl⟩;have E:=alb0v0v1 ae
 have ac:Hid (∃a b,LBInv k w3.heap.size w W4 ⟨⟨key,[],0⟩,⟨key,[],Q17 key [[]]⟩,List.replicate (q+1) sl0⟩ key none 0 0 0 key none 0 0 (some ⟨g,0,none⟩) 1 1 (some ⟨tb,0,none⟩) (q+1) (q+1) a b):=by
  refine⟨w2.heap.size,w3.heap.size,ao.out,am.out.step (Stp.of (lo:=0) (hi:=0) E) (.inl (Kcq _)),by omega,E.size,.inl (Kaq _),by rw[<-ae];exact World.alloc_heap_new w3 _,(E.block _ (by omega)).trans au.out,ak.out.below t (E.mono (by omega)),by omega⟩
 obtain⟨B,hB⟩:∃B,w3.heap.size=B:=⟨_,rfl⟩;clear E am ao ak au;go_wp2_with fail;rw[hB]at ac;clear ae;obtain⟨a4,b4,aI⟩:=ac.out;have HJ:=Q02 aI;clear aI ac;refine(Q0t k 12 W4 HJ.out.dr.cur (by decide) (by decide)).mono ?_;rintro e v4 ⟨n2,rfl,n0,bD,aD,aG⟩;have an:=Q02 (HJ.out.draw0 t aD aG);clear aD aG HJ
 try simp only[hB]
 clear hB;go_wp2
 go_loopw [5] (fun iv wr=> ∃(i:Nat) (m:Bm) (kj:Int) (o:Option Addr) (nj c:Nat) (sj kp:Int) (ob:Option Addr) (np cb:Nat) (oR:Option Addr) (nr cR:Nat) (ot:Option Addr) (nt ct:Nat) (a b:Nat),(i:Int)<=n2/\iv=.int .i64 i/\Hid (LBInv k B w wr m kj o nj c sj kp ob np cb oR nr cR ot nt ct a b))
  (fun iv _=>n2.toNat - (intOf iv).toNat)
 case atStart=>exact⟨0,_,_,_,_,_,_,_,_,_,_,_,_,_,_,_,_,_,_,n0,rfl,an⟩
 case round=>
  clear an;obtain⟨i,m,kj,o,nj,c,sj,kp,ob,np,cb,oR,nr,cR,ot,nt,ct,a,b,hi,rfl,u⟩:=hrel
  by_cases hlt:(i:Int) < n2
  ·go_wp2_with fail
   refine(Q1s k 2 wr u.out.dr.cur (by decide) (by decide)).mono ?_;rintro e v5 ⟨y,rfl,aE,aH⟩;have x:=Q02 (u.out.draw0 t aE aH);obtain⟨bi,z,bj,bl,bm,bn,bo⟩:=x.out.cells;have ba:=x.out.size t;clear aE aH u
   cases y with
   |true=>
    go_wp2
    go_region_with (first|(go_at_call 121;have d:=Q7y k v5.drew (x.out.curd t) ba;with_reducible refine d.mono ?_;clear d;rintro e x0 ⟨ka,ki,kg,rfl,aF,ag⟩;have V:=Q02 (x.out.draw t ag.cur ag.gr);obtain⟨u0,u1,u2,u3,u4,u5,u6⟩:=V.out.cells;have aS:=Q02 aF;clear ag aF)|(go_at_call 128;have d:=QgU kj o nj c sj kp ob np cb oR nr cR ot nt ct m ka ki kg x0 V.out.val V.out.hi V.out.ok aS.out;with_reducible refine d.mono ?_;clear d;rintro e x1 ⟨H,o1,L,c1,U,J,R,M,C,P,N,A,T,O,z,nf,rfl,hv,f⟩;have I:=V.out;have aK:=(f.cell (p:=⟨B,0,none⟩) I.boxlt).trans (Q00 I.box 0 _ rfl);have aL:=(f.cell (p:=⟨B,1,none⟩) I.boxlt).trans (Q00 I.box 1 _ rfl);have aM:=(f.cell (p:=⟨B,2,none⟩) I.boxlt).trans (Q00 I.box 2 _ rfl);have aN:=(f.cell (p:=⟨B,3,none⟩) I.boxlt).trans (Q00 I.box 3 _ rfl);have aO:=(f.cell (p:=⟨B,4,none⟩) I.boxlt).trans (Q00 I.box 4 _ rfl);have aP:=(f.cell (p:=⟨B,5,none⟩) I.boxlt).trans (Q00 I.box 5 _ rfl);have aQ:=(f.cell (p:=⟨B,6,none⟩) I.boxlt).trans (Q00 I.box 6 _ rfl);have av:=(f.frozen (p:=⟨B,0,none⟩) I.boxlt).trans (I.frz 0);have aw:=(f.frozen (p:=⟨B,1,none⟩) I.boxlt).trans (I.frz 1);have ax:=(f.frozen (p:=⟨B,2,none⟩) I.boxlt).trans (I.frz 2);have ay:=(f.frozen (p:=⟨B,3,none⟩) I.boxlt).trans (I.frz 3);have az:=(f.frozen (p:=⟨B,4,none⟩) I.boxlt).trans (I.frz 4);have aA:=(f.frozen (p:=⟨B,5,none⟩) I.boxlt).trans (I.frz 5);have aB:=(f.frozen (p:=⟨B,6,none⟩) I.boxlt).trans (I.frz 6);have HS:=Q02 (I.store t f (Qcy I.ok) hv);clear hv f I))
    all_goals (
     go_wp2;go_roundw
     case rel=>obtain⟨a2,b2,ad⟩:=HS.out;exact⟨i+1,_,_,_,_,_,_,_,_,_,_,_,_,_,_,_,_,a2,b2,by omega,by go_num,ad⟩
     case measure=>simp[intOf];omega)
   |false=>
    go_wp2
    go_region_with (first|(go_at_call 80;have d:=Q0t k 20 v5.drew (x.out.curd t) (by decide) (by decide);with_reducible refine d.mono ?_;clear d;rintro e x0 ⟨nw,rfl,aR,bE,l,r⟩;have V:=Q02 (x.out.draw t l r);obtain⟨u0,u1,u2,u3,u4,u5,u6⟩:=V.out.cells;have be:=V.out.size t;clear l r)|(go_at_call 130;have d:=Q2i k x0 V.out.dr.cur be;with_reducible refine d.mono ?_;clear d;rintro e x1 ⟨fa,fp,rfl,ha,hp,l,r⟩;have I1:=Q02 (V.out.draw0 t l r);obtain⟨v0,v1,v2,v3,v4,v5,v6⟩:=I1.out.cells;have al:=Q02 (Q5a ha hp);clear l r ha hp)|(go_at_call 80;have d:=Q0t k 5 x1 I1.out.dr.cur (by decide) (by decide);with_reducible refine d.mono ?_;clear d;rintro e x2 ⟨bk,rfl,bg,bh,l,r⟩;have I2:=Q02 (I1.out.draw0 t l r);obtain⟨y0,y1,y2,y3,y4,y5,y6⟩:=I2.out.cells;clear l r)|(go_at_call 129;have d:=Qd2 kj o nj c sj kp ob np cb oR nr cR ot nt ct m nw fa fp bk x2 I2.out.val I2.out.hi I2.out.ok aR (by omega) al.out;with_reducible refine d.mono ?_;clear d;rintro e x3 ⟨H,o1,L,c1,U,J,R,M,C,P,N,A,T,O,z,rfl,hv,f⟩;have I:=I2.out;have aK:=(f.cell (p:=⟨B,0,none⟩) I.boxlt).trans (Q00 I.box 0 _ rfl);have aL:=(f.cell (p:=⟨B,1,none⟩) I.boxlt).trans (Q00 I.box 1 _ rfl);have aM:=(f.cell (p:=⟨B,2,none⟩) I.boxlt).trans (Q00 I.box 2 _ rfl);have aN:=(f.cell (p:=⟨B,3,none⟩) I.boxlt).trans (Q00 I.box 3 _ rfl);have aO:=(f.cell (p:=⟨B,4,none⟩) I.boxlt).trans (Q00 I.box 4 _ rfl);have aP:=(f.cell (p:=⟨B,5,none⟩) I.boxlt).trans (Q00 I.box 5 _ rfl);have aQ:=(f.cell (p:=⟨B,6,none⟩) I.boxlt).trans (Q00 I.box 6 _ rfl);have av:=(f.frozen (p:=⟨B,0,none⟩) I.boxlt).trans (I.frz 0);have aw:=(f.frozen (p:=⟨B,1,none⟩) I.boxlt).trans (I.frz 1);have ax:=(f.frozen (p:=⟨B,2,none⟩) I.boxlt).trans (I.frz 2);have ay:=(f.frozen (p:=⟨B,3,none⟩) I.boxlt).trans (I.frz 3);have az:=(f.frozen (p:=⟨B,4,none⟩) I.boxlt).trans (I.frz 4);have aA:=(f.frozen (p:=⟨B,5,none⟩) I.boxlt).trans (I.frz 5);have aB:=(f.frozen (p:=⟨B,6,none⟩) I.boxlt).trans (I.frz 6);have HS:=Q02 (I.store t f (Qdu I.ok aR (by omega) al.out (by omega)) (.inl hv));clear hv f I))
    all_goals (
     go_wp2;go_roundw
     case rel=>obtain⟨a2,b2,ad⟩:=HS.out;exact⟨i+1,_,_,_,_,_,_,_,_,_,_,_,_,_,_,_,_,a2,b2,by omega,by go_num,ad⟩
     case measure=>simp[intOf];omega)
  ·have bx:decide ((i:Int) < n2)=false:=decide_eq_false hlt
   have Z:=Q02 (Q9u u.out.val u.out.hi u.out.ok);obtain⟨aU,aV,aW,aX,aY,aZ,a0⟩:=u.out.cells;have bd:w.heap.size < wr.heap.size:=(KEq u.out.res);go_wp2_with fail;refine Z.out.mono ?_;rintro e y ⟨v1,rfl,ho,af⟩;obtain⟨H,o1,L,c1,U,J,R,M,C,P,N,A,T,O,z,rfl⟩:=ho.br.opn;have hX:=(af.block _ bd).trans u.out.res;obtain⟨a1,a3,a5,a6,a7,a8,a9⟩:=cxb7v0v0 hX;obtain⟨bp,bq,bs,bt,bu,bv,bw⟩:=fxb7v0v0 hX;have HO:=Q02 ho
   have aT:=Q02 (u.out.dr.below t (Q0r (af.mono u.out.dr.gr.size) (Kaq _) (.int .i64 H) (.slice o1 L c1) (.int .i64 U) (.int .i64 J) (.slice R M C) (.slice P N A) (.slice T O z)));have bb:=Q02 u.out.ok;clear Z ho af u hX aU aV aW aX aY aZ a0;go_wp2;refine bodyPost_ret (v:=Q0O H (.slice o1 L c1) U J (.slice R M C) (.slice P N A) (.slice T O z)) (by simp[results,Tryz.results78,go_sem,a1,a3,a5,a6,a7,a8,a9]) rfl ⟨_,m,rfl,bb.out, ?_,aT.out⟩
   have s:=Q0U y w.heap.size (.int .i64 H) (.slice o1 L c1) (.int .i64 U) (.int .i64 J) (.slice R M C) (.slice P N A) (.slice T O z);exact(HO.out.step s (.inl (by omega))).mono (by omega) (by rw[Q0y];exact Kaq _)
structure BFin (k B:Nat) (w0 y:World) (m:Bm) (kj:Int) (o:Option Addr) (nj c:Nat) (sj kp:Int) (ob:Option Addr) (np cb:Nat) (oR:Option Addr) (nr cR:Nat) (ot:Option Addr) (nt ct:Nat):Prop where
 val:OrBr (w0.heap.size+1) y.heap.size y (Q0O kj (.slice o nj c) sj kp (.slice ob np cb) (.slice oR nr cR) (.slice ot nt ct)) m
 fit:fitBm m/\m.t.length<=16
 box:y.heap[B]? =some (.cells #[.int .i64 kj,.slice o nj c,.int .i64 sj,.int .i64 kp,.slice ob np cb,.slice oR nr cR,.slice ot nt ct] 34 (0,0))
 res:y.heap[w0.heap.size]? =some (.cells #[.int .i64 0,.slice none 0 0,.int .i64 0,.int .i64 0,.slice none 0 0,.slice none 0 0,.slice none 0 0] 34 (0,0))
 dr:Dr k w0 y
theorem BFin.ended {k B:Nat} {a y:World} {m:Bm} {g:Int} {o:Option Addr} {j c:Nat} {u i:Int} {r:Option Addr} {l d:Nat} {q:Option Addr} {n b:Nat} {t:Option Addr} {p f:Nat} (h:BFin k B a y m g o j c u i r l d q n b t p f) (v:k < a.heap.size):OrBr a.heap.size (Q1Q y a.heap.size (.int .i64 g) (.slice o j c) (.int .i64 u) (.int .i64 i) (.slice r l d) (.slice q n b) (.slice t p f)).heap.size (Q1Q y a.heap.size (.int .i64 g) (.slice o j c) (.int .i64 u) (.int .i64 i) (.slice r l d) (.slice q n b) (.slice t p f)) (Q0O g (.slice o j c) u i (.slice r l d) (.slice q n b) (.slice t p f)) m/\Dr k a (Q1Q y a.heap.size (.int .i64 g) (.slice o j c) (.int .i64 u) (.int .i64 i) (.slice r l d) (.slice q n b) (.slice t p f)):=by
 have s:=Q0U y a.heap.size (.int .i64 g) (.slice o j c) (.int .i64 u) (.int .i64 i) (.slice r l d) (.slice q n b) (.slice t p f);exact⟨(h.val.step s (.inl (Kaq _))).mono (by omega) (by rw[Q0y];exact Kaq _),h.dr.below v (Q0r ((Below.refl _ y).mono h.dr.gr.size) (Kaq _) (.int .i64 g) (.slice o j c) (.int .i64 u) (.int .i64 i) (.slice r l d) (.slice q n b) (.slice t p f))⟩
theorem BFin.jrn {k B:Nat} {f x y:World} {m:Bm} {T:Int} {o:Option Addr} {M c:Nat} {E u:Int} {C:Option Addr} {v h:Nat} {A:Option Addr} {w g:Nat} {D:Option Addr} {z i:Nat} {j:Jm} {d:Option Addr} {b c2:Nat} (hk:k < f.heap.size) (hB:f.heap.size < B) (hv:OrBr (f.heap.size+1) B x (Q0O T (.slice o M c) E u (.slice C v h) (.slice A w g) (.slice D z i)) m) (H:fitBm m/\m.t.length<=16) (N:x.heap[B]? =some (.cells #[.int .i64 T,.slice o M c,.int .i64 E,.int .i64 u,.slice C v h,.slice A w g,.slice D z i] 34 (0,0))) (R:x.heap[f.heap.size]? =some (.cells #[.int .i64 0,.slice none 0 0,.int .i64 0,.int .i64 0,.slice none 0 0,.slice none 0 0,.slice none 0 0] 34 (0,0))) (O:Dr k f x) (r:Dr k x y) (P:InJm x.heap.size y.heap.size y (jrn j.key (.slice d b c2) j.safe) j) (hl:j.l.length<=11):BFin k B f (((y.setCell ⟨B,0,none⟩ (.int .i64 j.key)).setCell ⟨B,1,none⟩ (.slice d b c2)).setCell ⟨B,2,none⟩ (.int .i64 j.safe)) ⟨j,m.p,m.t⟩ j.key d b c2 j.safe u C v h A w g D z i:=by
 have F:=(KEq N);have J:=(KEq R);have n:=r.gr;have G:=Q0a n F (by omega) N;have L:=Q0a n J (by omega) R;have s:=((Q0w y B 0 (.int .i64 j.key)).trans (Q0w _ B 1 (.slice d b c2))).trans (Q0w _ B 2 (.int .i64 j.safe));have hz:=n.size;have ab:=s.size;have v1:=(hv.step (Stp.grown (lo:=k) (hi:=k+1) n (fun q e=>by injection e with e;omega)) (.inl (by omega))).step s (.inr (Kaq _));obtain⟨vl,vb,vr,vt,e,h1,h2,h3,h4⟩:=v1;simp only[Value.agg.injEq,Array.mk.injEq,List.cons.injEq,and_true,true_and,Value.int.injEq]at e
 obtain⟨e1,U,e3,V,X,Y,Z⟩:=e;subst U X Y Z;have aa:=P.cap;obtain⟨ac,e,I⟩:=P;simp only[Value.agg.injEq,Array.mk.injEq,List.cons.injEq,and_true,true_and]at e;subst e;have a:=InRow.step I s (.inl (by omega));have q0:(y.setCell ⟨B,0,none⟩ (.int .i64 j.key)).heap[B]? =some (.cells #[.int .i64 j.key,.slice o M c,.int .i64 E,.int .i64 u,.slice C v h,.slice A w g,.slice D z i] 34 (0,0)):=Q05 G 0 _
 have q1:((y.setCell ⟨B,0,none⟩ (.int .i64 j.key)).setCell ⟨B,1,none⟩ (.slice d b c2)).heap[B]? =some (.cells #[.int .i64 j.key,.slice d b c2,.int .i64 E,.int .i64 u,.slice C v h,.slice A w g,.slice D z i] 34 (0,0)):=Q05 q0 1 _;refine⟨⟨_,_,_,_,by rw[V],(InRow.ri a).mono (by omega) (by omega),InRow.roomV a,h3.mono (Kaq _) (by omega),h4.mono (Kaq _) (by omega)⟩,⟨⟨by show j.l.length<=_;omega,H.1.2.1,H.1.2.2⟩,H.2⟩,Q05 q1 2 _,s.box L (.inl hB),(O.step r.cur ?_).below hk (s.below (by omega) (by have:=O.gr.size;omega))⟩;exact n
theorem BFin.pool {k B:Nat} {d x y:World} {m:Bm} {l:Int} {o:Option Addr} {n c:Nat} {v T:Int} {N:Option Addr} {M F:Nat} {E:Option Addr} {C z:Nat} {u:Option Addr} {r f:Nat} {p:Pm} {b:Option Addr} {a c2:Nat} {D:Option Addr} {A w:Nat} (hk:k < d.heap.size) (hB:d.heap.size < B) (hv:OrBr (d.heap.size+1) B x (Q0O l (.slice o n c) v T (.slice N M F) (.slice E C z) (.slice u r f)) m) (I:fitBm m/\m.t.length<=16) (O:x.heap[B]? =some (.cells #[.int .i64 l,.slice o n c,.int .i64 v,.int .i64 T,.slice N M F,.slice E C z,.slice u r f] 34 (0,0))) (R:x.heap[d.heap.size]? =some (.cells #[.int .i64 0,.slice none 0 0,.int .i64 0,.int .i64 0,.slice none 0 0,.slice none 0 0,.slice none 0 0] 34 (0,0))) (P:Dr k d x) (h:Dr k x y) (hj:RcPm x.heap.size y.heap.size y (plv p.key (.slice b a c2) (.slice D A w)) p) (hl:Q2q p):BFin k B d (((y.setCell ⟨B,3,none⟩ (.int .i64 p.key)).setCell ⟨B,4,none⟩ (.slice b a c2)).setCell ⟨B,5,none⟩ (.slice D A w)) ⟨m.j,p,m.t⟩ l o n c v p.key b a c2 D A w u r f:=by
 have G:=(KEq O);have J:=(KEq R);have g:=h.gr;have H:=Q0a g G (by omega) O;have L:=Q0a g J (by omega) R;have s:=((Q0w y B 3 (.int .i64 p.key)).trans (Q0w _ B 4 (.slice b a c2))).trans (Q0w _ B 5 (.slice D A w));have hz:=g.size;have aa:=s.size;have v1:=(hv.step (Stp.grown (lo:=k) (hi:=k+1) g (fun q e=>by injection e with e;omega)) (.inl (by omega))).step s (.inr (Kaq _));obtain⟨vl,vb,vr,vt,e,h1,h2,h3,h4⟩:=v1;simp only[Value.agg.injEq,Array.mk.injEq,List.cons.injEq,and_true,true_and,Value.int.injEq]at e
 obtain⟨U,V,X,e4,Y,Z,e7⟩:=e;subst V Y Z e7;have i:=hj.step s (.inl (by omega));have q0:(y.setCell ⟨B,3,none⟩ (.int .i64 p.key)).heap[B]? =some (.cells #[.int .i64 l,.slice o n c,.int .i64 v,.int .i64 p.key,.slice N M F,.slice E C z,.slice u r f] 34 (0,0)):=Q05 H 3 _;have q1:((y.setCell ⟨B,3,none⟩ (.int .i64 p.key)).setCell ⟨B,4,none⟩ (.slice b a c2)).heap[B]? =some (.cells #[.int .i64 l,.slice o n c,.int .i64 v,.int .i64 p.key,.slice b a c2,.slice E C z,.slice u r f] 34 (0,0)):=Q05 q0 4 _
 refine⟨⟨_,_,_,_,by rw[U,X],h1.mono (Kaq _) (by omega),h2,i.mono (by omega) (by omega),h4.mono (Kaq _) (by omega)⟩,⟨⟨I.1.1,hl,I.1.2.2⟩,I.2⟩,Q05 q1 5 _,s.box L (.inl hB),(P.step h.cur ?_).below hk (s.below (by omega) (by have:=P.gr.size;omega))⟩;exact g
theorem BFin.tab {k B:Nat} {a x y:World} {m:Bm} {z:Int} {o:Option Addr} {C c:Nat} {H A:Int} {G:Option Addr} {D i:Nat} {F:Option Addr} {E h:Nat} {P:Option Addr} {O I:Nat} {l:List Sl} {g:Option Addr} {f c2:Nat} (hk:k < a.heap.size) (hB:a.heap.size < B) (hv:OrBr (a.heap.size+1) B x (Q0O z (.slice o C c) H A (.slice G D i) (.slice F E h) (.slice P O I)) m) (M:fitBm m/\m.t.length<=16) (J:x.heap[B]? =some (.cells #[.int .i64 z,.slice o C c,.int .i64 H,.int .i64 A,.slice G D i,.slice F E h,.slice P O I] 34 (0,0))) (N:x.heap[a.heap.size]? =some (.cells #[.int .i64 0,.slice none 0 0,.int .i64 0,.int .i64 0,.slice none 0 0,.slice none 0 0,.slice none 0 0] 34 (0,0))) (L:Dr k a x) (u:isCur k y) (b:x.grownBy y (some k)) (hj:InS x.heap.size y.heap.size y (.slice g f c2) l) (hl:l.length<=16):BFin k B a (y.setCell ⟨B,6,none⟩ (.slice g f c2)) ⟨m.j,m.p,l⟩ z o C c H A G D i F E h g f c2:=by
 have n:=(KEq J);have v:=(KEq N);have r:=Q0a b n (by omega) J;have w:=Q0a b v (by omega) N;have s:=Q0w y B 6 (.slice g f c2);have hz:=b.size;have aa:=s.size;have v1:=(hv.step (Stp.grown (lo:=k) (hi:=k+1) b (fun q e=>by injection e with e;omega)) (.inl (by omega))).step s (.inr (Kaq _));obtain⟨vl,vb,vr,vt,e,h1,h2,h3,h4⟩:=v1;simp only[Value.agg.injEq,Array.mk.injEq,List.cons.injEq,and_true,true_and,Value.int.injEq]at e;obtain⟨R,T,U,V,X,Y,Z⟩:=e;subst T X Y Z;have d:=InRow.step hj s (.inl (by omega))
 exact⟨⟨_,_,_,_,by rw[R,U,V],h1.mono (Kaq _) (by omega),h2,h3.mono (Kaq _) (by omega),(InRow.ri d).mono (by omega) (by omega)⟩,⟨⟨M.1.1,M.1.2.1,by show l.length<=_;omega⟩,hl⟩,Q05 r 6 _,s.box w (.inl hB),(L.step u b).below hk (s.below (by omega) (by have:=L.gr.size;omega))⟩
theorem BFin.safe {k B:Nat} {a x y:World} {m:Bm} {w:Int} {o:Option Addr} {A c:Nat} {M z:Int} {G:Option Addr} {C g:Nat} {F:Option Addr} {D f:Nat} {H:Option Addr} {E h:Nat} (d:Int) (hk:k < a.heap.size) (Z:a.heap.size < B) (hv:OrBr (a.heap.size+1) B x (Q0O w (.slice o A c) M z (.slice G C g) (.slice F D f) (.slice H E h)) m) (hf:fitBm m/\m.t.length<=16) (I:x.heap[B]? =some (.cells #[.int .i64 w,.slice o A c,.int .i64 M,.int .i64 z,.slice G C g,.slice F D f,.slice H E h] 34 (0,0))) (L:x.heap[a.heap.size]? =some (.cells #[.int .i64 0,.slice none 0 0,.int .i64 0,.int .i64 0,.slice none 0 0,.slice none 0 0,.slice none 0 0] 34 (0,0))) (J:Dr k a x) (r:isCur k y) (b:x.grownBy y (some k)):BFin k B a (y.setCell ⟨B,2,none⟩ (.int .i64 d)) ⟨⟨m.j.key,m.j.l,d⟩,m.p,m.t⟩ w o A c d z G C g F D f H E h:=by
 have i:=(KEq I);have u:=(KEq L);have n:=Q0a b i (by omega) I;have v:=Q0a b u (by omega) L;have s:=Q0w y B 2 (.int .i64 d);have hz:=b.size;have aa:=s.size;have v1:=(hv.step (Stp.grown (lo:=k) (hi:=k+1) b (fun q e=>by injection e with e;omega)) (.inl (by omega))).step s (.inr (Kaq _));obtain⟨vl,vb,vr,vt,e,V,h2,X,Y⟩:=v1;simp only[Value.agg.injEq,Array.mk.injEq,List.cons.injEq,and_true,true_and,Value.int.injEq]at e;obtain⟨N,O,e3,P,R,T,U⟩:=e;subst O R T U
 exact⟨⟨_,_,_,_,by rw[N,P],V.mono (Kaq _) (by omega),h2,X.mono (Kaq _) (by omega),Y.mono (Kaq _) (by omega)⟩,hf,Q05 n 2 _,s.box v (.inl Z),(J.step r b).below hk (s.below (by omega) (by have:=J.gr.size;omega))⟩
theorem BFin.none {k B:Nat} {a x:World} {m:Bm} {g:Int} {o:Option Addr} {i c:Nat} {s h:Int} {q:Option Addr} {j d:Nat} {p:Option Addr} {l b:Nat} {r:Option Addr} {n f:Nat} (hv:OrBr (a.heap.size+1) B x (Q0O g (.slice o i c) s h (.slice q j d) (.slice p l b) (.slice r n f)) m) (w:fitBm m/\m.t.length<=16) (u:x.heap[B]? =some (.cells #[.int .i64 g,.slice o i c,.int .i64 s,.int .i64 h,.slice q j d,.slice p l b,.slice r n f] 34 (0,0))) (y:x.heap[a.heap.size]? =some (.cells #[.int .i64 0,.slice none 0 0,.int .i64 0,.int .i64 0,.slice none 0 0,.slice none 0 0,.slice none 0 0] 34 (0,0))) (v:Dr k a x):BFin k B a x m g o i c s h q j d p l b r n f:=
 ⟨hv.mono (Kaq _) (KIq (KEq u)),w,u,y,v⟩
theorem Q8S (k:Nat) (w:World) (N:isCur k w) (A:k < w.heap.size):
  Calls Tryz.prog 35 #[.pointer (some ⟨k,0,none⟩)] w fun e w'=> ∃(kj:Int) (o:Option Addr) (O c:Nat) (sj kp:Int) (ob:Option Addr) (np cb:Nat) (oR:Option Addr) (nr cR:Nat) (ot:Option Addr) (nt ct:Nat) (m:Bm),e=.returned (Q0O kj (.slice o O c) sj kp (.slice ob np cb) (.slice oR nr cR) (.slice ot nt ct))/\OrBr w.heap.size w'.heap.size w' (Q0O kj (.slice o O c) sj kp (.slice ob np cb) (.slice oR nr cR) (.slice ot nt ct)) m/\(fitBm m/\m.t.length<=16)/\Dr k w w':=by
 obtain⟨W0,J⟩:∃W,w.alloc (.cells #[.int .i64 0,.slice none 0 0,.int .i64 0,.int .i64 0,.slice none 0 0,.slice none 0 0,.slice none 0 0] 34)=W:=⟨_,rfl⟩;have ay:=alb0v0v1 J;have ak:=Q02 (show Dr k w W0 from⟨N.below (ay.mono A),by rw[<-J];exact Q0N w _ k⟩);have aw:Hid _:=alx0v0v1 J;have aj:=alz0v0v1 J
 have az:W0.heap.size=w.heap.size+1:=by rw[<-J];simp
 have HZ:=Q02 az;clear ay N az;go_enter Tryz.func35,Tryz.ntmps35;go_wp2_with fail;refine(QcU k W0 ak.out.cur (Nat.lt_trans A aj)).mono ?_;rintro e w1 ⟨v,m,rfl,ar,ho,M⟩;have r:=Q02 ho.br;obtain⟨kj,o,O,c,sj,kp,ob,np,cb,oR,nr,cR,ot,nt,ct,rfl⟩:=ho.br.opn;have g:Hid (fitBm m/\m.t.length<=16):=⟨Q64 ar,(Q0d.1 (Q1F ar)).2.1⟩;have x:w.heap.size < w1.heap.size:=Kbq aj M.gr.size;have av:=Q02 (ak.out.step M.cur M.gr);have ax:=Q02 (Q0a M.gr aj (by omega) aw.out);replace r:=Q02 (r.out.mono (show w.heap.size+1<=_ by rw[HZ.out];omega) (Kaq _));clear ho M ak aw HZ ar
 obtain⟨W2,ao⟩:∃W,w1.alloc (.cells #[.int .i64 kj,.slice o O c,.int .i64 sj,.int .i64 kp,.slice ob np cb,.slice oR nr cR,.slice ot nt ct] 34)=W:=⟨_,rfl⟩;have ah:=alb0v0v1 ao;have R:Hid _:=alx0v0v1 ao;have an:=Q02 (r.out.step (Stp.of (lo:=0) (hi:=0) ah) (.inl (Kcq _)));have am:=Q02 ((ah.block _ x).trans ax.out);have al:=Q02 (av.out.below A (ah.mono (KIq x)));clear ah r ax av;go_wp2_with fail;obtain⟨B,hB⟩:∃B,w1.heap.size=B:=⟨_,rfl⟩;simp only[hB]at R an x ⊢;clear hB ao;refine(Q1s k 8 W2 al.out.cur (by decide) (by decide)).mono ?_
 rintro e x1 ⟨y,rfl,L,h⟩;have f:=Q02 (Q0a h (KEq R.out) (by omega) R.out);have i:=Q02 (Q0a h (KEq am.out) (by omega) am.out);have r:=Q02 (an.out.step (Stp.grown (lo:=k) (hi:=k+1) h (fun q e=>by injection e with e;omega)) (.inl (by omega)));have n:=Q02 (al.out.step L h);clear L h R am an al aj
 cases y with
 |false=>
  have HF:=Q02 (BFin.none r.out g.out f.out i.out n.out);clear f i r n g;obtain⟨bx,rs⟩:=(⟨HF.out.box,HF.out.res⟩:_/\_);obtain⟨y0,y1,y2,y3,y4,y5,y6⟩:=cxb7v0v0 bx;obtain⟨z0,z1,z2,z3,z4,z5,z6⟩:=cxb7v0v0 rs;obtain⟨aa,ab,ac,ad,ae,af,ag⟩:=fxb7v0v0 rs;have z:=Q02 (HF.out.ended A);have P:=Q02 HF.out.fit;clear HF bx rs;go_wp2
  refine bodyPost_ret (v:=Q0O kj (.slice o O c) sj kp (.slice ob np cb) (.slice oR nr cR) (.slice ot nt ct)) (by simp[results,Tryz.results35,go_sem,y0,y1,y2,y3,y4,y5,y6,z0,z1,z2,z3,z4,z5,z6]) rfl ⟨_,_,_,_,_,_,_,_,_,_,_,_,_,_,_,_,rfl,z.out.1,P.out,z.out.2⟩
 |true=>
  go_wp2_with fail;refine(Q0t k 4 x1 n.out.cur (by decide) (by decide)).mono ?_;rintro e x2 ⟨t9,rfl,aB,aC,L,h⟩;replace f:=Q02 (Q0a h (KEq f.out) (by omega) f.out);replace i:=Q02 (Q0a h (KEq i.out) (by omega) i.out);replace r:=Q02 (r.out.step (Stp.grown (lo:=k) (hi:=k+1) h (fun q e=>by injection e with e;omega)) (.inl (by omega)));replace n:=Q02 (n.out.step L h);clear L h;have ap:k < x2.heap.size:=Kbq A n.out.gr.size;have aD:B < x2.heap.size:=(KEq f.out)
  have hq:t9=0\/t9=1\/t9=2\/t9=3:=by omega
  clear aB aC
  rcases hq with rfl|rfl|rfl|rfl
  ·go_wp2_with fail
   refine(Qbg k x2 n.out.cur ap).mono ?_;rintro e x3 ⟨v9,j,rfl,hj,hl,s⟩;obtain⟨vl,rfl,u⟩:=hj;obtain⟨o2,c2,rfl,au⟩:=InRow.ri u;have d:=Q02 (BFin.jrn A x r.out g.out f.out i.out n.out s ⟨_,rfl,u⟩ hl)
   have b:=Q0a s.gr (KEq f.out) (by omega) f.out;have a:=Q0a s.gr (KEq i.out) (by omega) i.out;have b0:=Q00 b 0 _ rfl;have C:=Q01 b 0;have z0:=Q00 a 0 _ rfl;have aa:=Q01 a 0;have T:=Q00 b 1 _ rfl;have D:=Q01 b 1;have z1:=Q00 a 1 _ rfl;have ab:=Q01 a 1;have U:=Q00 b 2 _ rfl;have E:=Q01 b 2;have z2:=Q00 a 2 _ rfl;have ac:=Q01 a 2;have V:=Q00 b 3 _ rfl;have F:=Q01 b 3;have z3:=Q00 a 3 _ rfl;have ad:=Q01 a 3;have X:=Q00 b 4 _ rfl;have G:=Q01 b 4;have z4:=Q00 a 4 _ rfl;have ae:=Q01 a 4;have Y:=Q00 b 5 _ rfl;have H:=Q01 b 5;have z5:=Q00 a 5 _ rfl;have af:=Q01 a 5;have Z:=Q00 b 6 _ rfl;have I:=Q01 b 6;have z6:=Q00 a 6 _ rfl;have ag:=Q01 a 6;have z:=Q02 (d.out.ended A);have P:=Q02 d.out.fit;clear b a
   clear u au s f i r n g;clear d;go_wp2;refine bodyPost_ret (v:=Q0O j.key (.slice o2 j.l.length c2) j.safe kp (.slice ob np cb) (.slice oR nr cR) (.slice ot nt ct)) (by simp[results,Tryz.results35,go_sem,b0,T,U,V,X,Y,Z,z0,z1,z2,z3,z4,z5,z6]) rfl ⟨_,_,_,_,_,_,_,_,_,_,_,_,_,_,_,_,rfl,z.out.1,P.out,z.out.2⟩
  ·go_wp2_with fail
   refine(Qd0 k x2 n.out.cur ap).mono ?_;rintro e x3 ⟨v9,p,rfl,hj,hl,s⟩;obtain⟨o2,c2,o3,c3,rfl⟩:=hj.opn;have d:=Q02 (BFin.pool A x r.out g.out f.out i.out n.out s hj hl)
   have b:=Q0a s.gr (KEq f.out) (by omega) f.out;have a:=Q0a s.gr (KEq i.out) (by omega) i.out;have b0:=Q00 b 0 _ rfl;have C:=Q01 b 0;have z0:=Q00 a 0 _ rfl;have aa:=Q01 a 0;have T:=Q00 b 1 _ rfl;have D:=Q01 b 1;have z1:=Q00 a 1 _ rfl;have ab:=Q01 a 1;have U:=Q00 b 2 _ rfl;have E:=Q01 b 2;have z2:=Q00 a 2 _ rfl;have ac:=Q01 a 2;have V:=Q00 b 3 _ rfl;have F:=Q01 b 3;have z3:=Q00 a 3 _ rfl;have ad:=Q01 a 3;have X:=Q00 b 4 _ rfl;have G:=Q01 b 4;have z4:=Q00 a 4 _ rfl;have ae:=Q01 a 4;have Y:=Q00 b 5 _ rfl;have H:=Q01 b 5;have z5:=Q00 a 5 _ rfl;have af:=Q01 a 5;have Z:=Q00 b 6 _ rfl;have I:=Q01 b 6;have z6:=Q00 a 6 _ rfl;have ag:=Q01 a 6;have z:=Q02 (d.out.ended A);have P:=Q02 d.out.fit;clear b a
   clear hj s f i r n g;clear d;go_wp2;refine bodyPost_ret (v:=Q0O kj (.slice o O c) sj p.key (.slice o2 p.l.length c2) (.slice o3 p.ring.length c3) (.slice ot nt ct)) (by simp[results,Tryz.results35,go_sem,b0,T,U,V,X,Y,Z,z0,z1,z2,z3,z4,z5,z6]) rfl ⟨_,_,_,_,_,_,_,_,_,_,_,_,_,_,_,_,rfl,z.out.1,P.out,z.out.2⟩
  ·go_wp2_with fail
   refine(Qdl k x2 n.out.cur ap).mono ?_;rintro e x3 ⟨v9,l,rfl,⟨aq,ai⟩,hj,N,hg⟩;obtain⟨vl,rfl,u⟩:=hj;obtain⟨o2,c2,rfl,au⟩:=InRow.ri u;have d:=Q02 (BFin.tab A x r.out g.out f.out i.out n.out N hg u ai);have s:Dr k x2 x3:=⟨N,hg⟩
   have b:=Q0a s.gr (KEq f.out) (by omega) f.out;have a:=Q0a s.gr (KEq i.out) (by omega) i.out;have b0:=Q00 b 0 _ rfl;have C:=Q01 b 0;have z0:=Q00 a 0 _ rfl;have aa:=Q01 a 0;have T:=Q00 b 1 _ rfl;have D:=Q01 b 1;have z1:=Q00 a 1 _ rfl;have ab:=Q01 a 1;have U:=Q00 b 2 _ rfl;have E:=Q01 b 2;have z2:=Q00 a 2 _ rfl;have ac:=Q01 a 2;have V:=Q00 b 3 _ rfl;have F:=Q01 b 3;have z3:=Q00 a 3 _ rfl;have ad:=Q01 a 3;have X:=Q00 b 4 _ rfl;have G:=Q01 b 4;have z4:=Q00 a 4 _ rfl;have ae:=Q01 a 4;have Y:=Q00 b 5 _ rfl;have H:=Q01 b 5;have z5:=Q00 a 5 _ rfl;have af:=Q01 a 5;have Z:=Q00 b 6 _ rfl;have I:=Q01 b 6;have z6:=Q00 a 6 _ rfl;have ag:=Q01 a 6;have z:=Q02 (d.out.ended A);have P:=Q02 d.out.fit;clear b a
   clear u au s N hg aq ai f i r n g;clear d;go_wp2;refine bodyPost_ret (v:=Q0O kj (.slice o O c) sj kp (.slice ob np cb) (.slice oR nr cR) (.slice o2 l.length c2)) (by simp[results,Tryz.results35,go_sem,b0,T,U,V,X,Y,Z,z0,z1,z2,z3,z4,z5,z6]) rfl ⟨_,_,_,_,_,_,_,_,_,_,_,_,_,_,_,_,rfl,z.out.1,P.out,z.out.2⟩
  ·have b0:=Q00 f.out 0 _ rfl;have C:=Q01 f.out 0;have T:=Q00 f.out 1 _ rfl;have D:=Q01 f.out 1;have U:=Q00 f.out 2 _ rfl;have E:=Q01 f.out 2;have V:=Q00 f.out 3 _ rfl;have F:=Q01 f.out 3;have X:=Q00 f.out 4 _ rfl;have G:=Q01 f.out 4;have Y:=Q00 f.out 5 _ rfl;have H:=Q01 f.out 5;have Z:=Q00 f.out 6 _ rfl;have I:=Q01 f.out 6
   have aA:O<=100000:=by rw[(r.out.eqs).2.1];exact g.out.1.1
   go_wp2_with fail;refine(Q0t k ((O:Int)+1) x2 n.out.cur (by omega) (by omega)).mono ?_;rintro e x3 ⟨sn,rfl,aq,ai,N,hg⟩;have d:=Q02 (BFin.safe sn A x r.out g.out f.out i.out n.out N hg);have s:Dr k x2 x3:=⟨N,hg⟩;clear b0 T U V X Y Z C D E F G H I
   have b:=Q0a s.gr (KEq f.out) (by omega) f.out;have a:=Q0a s.gr (KEq i.out) (by omega) i.out;have b0:=Q00 b 0 _ rfl;have C:=Q01 b 0;have z0:=Q00 a 0 _ rfl;have aa:=Q01 a 0;have T:=Q00 b 1 _ rfl;have D:=Q01 b 1;have z1:=Q00 a 1 _ rfl;have ab:=Q01 a 1;have U:=Q00 b 2 _ rfl;have E:=Q01 b 2;have z2:=Q00 a 2 _ rfl;have ac:=Q01 a 2;have V:=Q00 b 3 _ rfl;have F:=Q01 b 3;have z3:=Q00 a 3 _ rfl;have ad:=Q01 a 3;have X:=Q00 b 4 _ rfl;have G:=Q01 b 4;have z4:=Q00 a 4 _ rfl;have ae:=Q01 a 4;have Y:=Q00 b 5 _ rfl;have H:=Q01 b 5;have z5:=Q00 a 5 _ rfl;have af:=Q01 a 5;have Z:=Q00 b 6 _ rfl;have I:=Q01 b 6;have z6:=Q00 a 6 _ rfl;have ag:=Q01 a 6;have z:=Q02 (d.out.ended A);have P:=Q02 d.out.fit;clear b a
   clear s N hg aq ai f i r n g aA;clear d;go_wp2;refine bodyPost_ret (v:=Q0O kj (.slice o O c) sn kp (.slice ob np cb) (.slice oR nr cR) (.slice ot nt ct)) (by simp[results,Tryz.results35,go_sem,b0,T,U,V,X,Y,Z,z0,z1,z2,z3,z4,z5,z6]) rfl ⟨_,_,_,_,_,_,_,_,_,_,_,_,_,_,_,_,rfl,z.out.1,P.out,z.out.2⟩
theorem Q3Y {w x y:World} {K:Nat} (h:Below w.heap.size w x) (g:x.grownBy y (some K)) (hK:w.heap.size<=K):Below w.heap.size w y:=
 ⟨g.os.trans h.os,g.tape.trans h.tape,g.output.trans h.output,Kdq h.size g.size,fun q a=>(g.block q (Kbq a h.size) (by simp;omega)).trans (h.block q a)⟩
theorem Q8s {w w':World} {K:Nat} (hg:w.grownBy w' (some K)):Stp K (K+1) w w':=Stp.grown hg (fun b e=>by have:K=b:=Option.some.inj e;omega)
theorem OrBr.room {lo hi:Nat} {w:World} {d:Int} {o:Option Addr} {a c:Nat} {g f:Int} {i k n:Value} {m:Bm} (h:OrBr lo hi w (Q0O d (.slice o a c) g f i k n) m):a<=c:=by
 obtain⟨q,j,l,p,e,_,h2,_,_⟩:=h;simp only[Value.agg.injEq,Array.mk.injEq,List.cons.injEq,and_true,true_and,Value.int.injEq]at e;obtain⟨_,b,_⟩:=e;exact h2.2 _ _ _ b.symm
theorem OrBr.use {lo hi:Nat} {w:World} {g:Int} {o:Option Addr} {s c:Nat} {k a:Int} {z:Option Addr} {u q:Nat} {y:Option Addr} {v n:Nat} {A:Option Addr} {x B:Nat} {m:Bm} (h:OrBr lo hi w (Q0O g (.slice o s c) k a (.slice z u q) (.slice y v n) (.slice A x B)) m) (f:hi<=w.heap.size) (H:fitBm m/\m.t.length<=16):∃b lb i lt,m=⟨⟨g,b,k⟩,⟨a,lb,i⟩,lt⟩/\s=b.length/\x=lt.length/\RdC w.heap.size w o b/\(o=none->c=0)/\Q4P w.heap.size w (plv a (.slice z u q) (.slice y v n)) ⟨a,lb,i⟩/\RdS w.heap.size w A lt/\Q6e ⟨⟨g,b,k⟩,⟨a,lb,i⟩,lt⟩:=by
 obtain⟨d,C,D⟩:=h.eqs;obtain⟨vl,Z,vr,vt,e,F,h2,V,G⟩:=h;simp only[Value.agg.injEq,Array.mk.injEq,List.cons.injEq,and_true,true_and,Value.int.injEq]at e;obtain⟨_,I,_,_,J,L,M⟩:=e;subst I J L M;obtain⟨X,T,N,P⟩:=F.open;injection N with q11 q12 q13;subst q11;obtain⟨Y,U,O,R⟩:=G.open;injection O with q41 q42 q43;subst q41;have r:=(D.rd);have E:m.p=⟨a,m.p.l,m.p.ring⟩:=congrArg Bm.p d;rw[E]at r;refine⟨m.j.l,m.p.l,m.p.ring,m.t,d,C,q42,P.le f,(fun h=>h2.1 _ _ (by rw[h])),r.le f,R.le f, ?_⟩;rw[<-d];exact H.1.b0
abbrev QhU (W:World) (R:Nat) (x0 x1 x2:Value):World:=((W.setCell ⟨R,0,none⟩ x0).setCell ⟨R,1,none⟩ x1).setCell ⟨R,2,none⟩ x2
theorem QdW (W:World) (R:Nat) (x0 x1 x2:Value):Stp R (R+1) W (QhU W R x0 x1 x2):=((Q0w W R 0 x0).trans (Q0w _ R 1 x1)).trans (Q0w _ R 2 x2)
theorem Q9k (o0:Option Addr) (cap:Nat) (l:List Int) (w:World) (hR:Rd w o0 l) (ab:isB l) (hm:l.length<=maxLen):
  Calls Tryz.prog 26 #[.slice o0 l.length cap] w fun e w'=> ∃(i:Int) (o:Option Addr) (k c:Nat) (x j:Int) (s:Option Addr) (n g:Nat) (r:Option Addr) (p f:Nat) (u:Option Addr) (q h:Nat) (m:Bm) (d:Int),e=.returned (.tuple #[Q0O i (.slice o k c) x j (.slice s n g) (.slice r p f) (.slice u q h),.int .i64 d])/\OrBr w.heap.size w'.heap.size w' (Q0O i (.slice o k c) x j (.slice s n g) (.slice r p f) (.slice u q h)) m/\(fitBm m/\m.t.length<=16)/\Below w.heap.size w w':=by
 obtain⟨W0,b⟩:∃W,(w.alloc (.cells #[.int .i64 0,.slice none 0 0,.int .i64 0,.int .i64 0,.slice none 0 0,.slice none 0 0,.slice none 0 0] 34))=W:=⟨_,rfl⟩;have A:=alb0v0v1 b;have J:Hid _:=alx0v0v1 b;have ac:=alz0v0v1 b;have I:=Q02 (Q9V o0 cap l W0 (hR.kept A) ab hm);have y:=Q02 A;clear hR A;go_enter Tryz.func26,Tryz.ntmps26;go_wp2_with fail;refine I.out.mono ?_;rintro e w1 ⟨rfl,C,B,T⟩;obtain⟨K,hK⟩:∃K,W0.heap.size=K:=⟨_,rfl⟩;have L:=Q02 ((B.block _ (by omega)).trans J.out);have E:=Q02 (y.out.trans (B.mono y.out.size));simp only[hK]at ac T C ⊢
 have G:=Q02 C;clear B C J y I hK b;go_wp2_with fail;refine(Q8S K w1 G.out T).mono ?_;rintro e V ⟨i,o,k,c,x,j,s,n,g,r,p,f,u,q,h,m,rfl,hv,hf,hd⟩;have R:=hd.cur;have a:=hd.gr;have O:=Q02 hv;have HF:=Q02 hf;clear hv hf hd;have ae:w1.heap.size<=V.heap.size:=a.size;have M:=Q02 (Q0a a (show w.heap.size < w1.heap.size by omega) (by omega) L.out);have F:=Q02 (Q3Y E.out a (by omega));have H:=Q02 R;clear R a L E G;go_wp2_with fail;refine(Q2u K [-1,0,1,99] V H.out (by omega) (by decide) (by decide)).mono ?_;rintro e U ⟨d,_,rfl,R,a⟩
 have af:V.heap.size<=U.heap.size:=a.size;have N:=Q02 (Q0a a (show w.heap.size < V.heap.size by omega) (by omega) M.out);have P:=Q02 (O.out.step (Q8s a) (.inl (by omega)));have z:=Q02 (Q3Y F.out a (by omega));have Y:=Q02 R;clear R a M F H O;have D:=N.out;have sB:=Q0U U w.heap.size (.int .i64 i) (.slice o k c) (.int .i64 x) (.int .i64 j) (.slice s n g) (.slice r p f) (.slice u q h)
 have ad:((Q1Q U (w.heap.size) (.int .i64 i) (.slice o k c) (.int .i64 x) (.int .i64 j) (.slice s n g) (.slice r p f) (.slice u q h))).heap.size=U.heap.size:=Q0y _ _ _ _ _ _ _ _ _;have aa:=Q02 ((P.out.step sB (.inl (by omega))).mono (show w.heap.size<=_ by omega) (show _<=((Q1Q U (w.heap.size) (.int .i64 i) (.slice o k c) (.int .i64 x) (.int .i64 j) (.slice s n g) (.slice r p f) (.slice u q h))).heap.size by omega));have X:=Q02 (z.out.trans (sB.below (Kaq _) z.out.size));obtain⟨r0,r1,r2,r3,r4,r5,r6⟩:=cxb7v0v0 D
 obtain⟨ag,ah,ai,aj,ak,al,am⟩:=fxb7v0v0 D;clear D N z Y P sB ad;have Z:=Q02 HF.out;clear HF;go_wp2;refine bodyPost_ret (v:=.tuple #[Q0O i (.slice o k c) x j (.slice s n g) (.slice r p f) (.slice u q h),.int .i64 d]) (by simp[results,Tryz.results26,go_sem,r0,r1,r2,r3,r4,r5,r6]) rfl ?_;exact⟨i,o,k,c,x,j,s,n,g,r,p,f,u,q,h,m,d,rfl,aa.out,Z.out,X.out⟩
theorem Q8k (o0:Option Addr) (cap:Nat) (l:List Int) (w:World) (hR:Rd w o0 l) (ai:isB l) (hm:l.length<=maxLen):
  Calls Tryz.prog 30 #[.slice o0 l.length cap] w fun e w'=> ∃(i:Int) (o:Option Addr) (k c:Nat) (x j:Int) (s:Option Addr) (n g:Nat) (r:Option Addr) (p f:Nat) (u:Option Addr) (q h:Nat) (m:Bm) (H J I:Int),e=.returned (.tuple #[Q0O i (.slice o k c) x j (.slice s n g) (.slice r p f) (.slice u q h),cmd H J I])/\OrBr w.heap.size w'.heap.size w' (Q0O i (.slice o k c) x j (.slice s n g) (.slice r p f) (.slice u q h)) m/\(fitBm m/\m.t.length<=16)/\Below w.heap.size w w':=by
 obtain⟨W0,d⟩:∃W,(w.alloc (.cells #[.int .i64 0,.slice none 0 0,.int .i64 0,.int .i64 0,.slice none 0 0,.slice none 0 0,.slice none 0 0] 34)).alloc (.cells #[.int .i64 0,.int .i64 0,.int .i64 0] 77)=W:=⟨_,rfl⟩;have C:=alb0v0v2 d;have X:Hid _:=alx0v0v2 d;have P:Hid _:=alx0v1v2 d;have aj:=alz0v1v2 d;have V:=Q02 (Q9V o0 cap l W0 (hR.kept C) ai hm);have B:=Q02 C;clear hR C;go_enter Tryz.func30,Tryz.ntmps30;go_wp2_with fail;refine V.out.mono ?_;rintro e w1 ⟨rfl,D,z,ad⟩;obtain⟨K,hK⟩:∃K,W0.heap.size=K:=⟨_,rfl⟩;have Y:=Q02 ((z.block _ (by omega)).trans X.out)
 have R:=Q02 ((z.block _ (by omega)).trans P.out);have L:=Q02 (B.out.trans (z.mono B.out.size));simp only[hK]at aj ad D ⊢;have N:=Q02 D;clear z D X P B V hK d;go_wp2_with fail;refine(Q8S K w1 N.out ad).mono ?_;rintro e w2 ⟨i,o,k,c,x,j,s,n,g,r,p,f,u,q,h,m,rfl,hv,hf,E⟩;have hc:=E.cur;have b:=E.gr;have ab:=Q02 hv;have HF:=Q02 hf;clear hv hf E;have al:w1.heap.size<=w2.heap.size:=b.size;have Z:=Q02 (Q0a b (show w.heap.size < w1.heap.size by omega) (by omega) Y.out)
 have T:=Q02 (Q0a b (show w.heap.size+1 < w1.heap.size by omega) (by omega) R.out);have M:=Q02 (Q3Y L.out b (by omega));have O:=Q02 hc;clear hc b Y R L N;go_wp2_with fail;refine(Q5q K w2 O.out (by omega)).mono ?_;rintro e A ⟨H,J,I,rfl,E⟩;have hc:=E.cur;have b:=E.gr;clear E;have am:w2.heap.size<=A.heap.size:=b.size;have aa:=Q02 (Q0a b (show w.heap.size < w2.heap.size by omega) (by omega) Z.out);have U:=Q02 (Q0a b (show w.heap.size+1 < w2.heap.size by omega) (by omega) T.out);have ac:=Q02 (ab.out.step (Q8s b) (.inl (by omega)))
 have y:=Q02 (Q3Y M.out b (by omega));have af:=Q02 hc;clear hc b Z T M O ab;have F:=aa.out;have sB:=Q0U A w.heap.size (.int .i64 i) (.slice o k c) (.int .i64 x) (.int .i64 j) (.slice s n g) (.slice r p f) (.slice u q h);have G:((Q1Q A (w.heap.size) (.int .i64 i) (.slice o k c) (.int .i64 x) (.int .i64 j) (.slice s n g) (.slice r p f) (.slice u q h))).heap.size=A.heap.size:=Q0y _ _ _ _ _ _ _ _ _;have a:=U.out
 have sP:=QdW (Q1Q A (w.heap.size) (.int .i64 i) (.slice o k c) (.int .i64 x) (.int .i64 j) (.slice s n g) (.slice r p f) (.slice u q h)) (w.heap.size+1) (.int .i64 H) (.int .i64 J) (.int .i64 I);have ak:A.heap.size<=((QhU (Q1Q A (w.heap.size) (.int .i64 i) (.slice o k c) (.int .i64 x) (.int .i64 j) (.slice s n g) (.slice r p f) (.slice u q h)) (w.heap.size+1) (.int .i64 H) (.int .i64 J) (.int .i64 I))).heap.size:=Kdq (Nat.le_of_eq G.symm) sP.size
 have ah:=Q02 ((((ac.out.step sB (.inl (by omega))).step sP (.inl (by omega))).mono (show w.heap.size<=_ by omega) (show _<=((QhU (Q1Q A (w.heap.size) (.int .i64 i) (.slice o k c) (.int .i64 x) (.int .i64 j) (.slice s n g) (.slice r p f) (.slice u q h)) (w.heap.size+1) (.int .i64 H) (.int .i64 J) (.int .i64 I))).heap.size by omega)));have ae:=Q02 ((y.out.trans (sB.below (Kaq _) y.out.size)).trans (sP.below (Nat.le_succ _) (by rw[G];exact y.out.size)));obtain⟨r0,r1,r2,r3,r4,r5,r6⟩:=cxb7v0v0 F;obtain⟨aq,ar,au,av,aw,ax,ay⟩:=fxb7v0v0 F
 have q0:=Q00 a 0 _ rfl;have an:=Q01 a 0;have q1:=Q00 a 1 _ rfl;have ao:=Q01 a 1;have q2:=Q00 a 2 _ rfl;have ap:=Q01 a 2;clear F a sP ak aa U y af ac sB G;have ag:=Q02 HF.out;clear HF;go_wp2;refine bodyPost_ret (v:=.tuple #[Q0O i (.slice o k c) x j (.slice s n g) (.slice r p f) (.slice u q h),cmd H J I]) (by simp[results,Tryz.results30,go_sem,r0,r1,r2,r3,r4,r5,r6,q0,q1,q2]) rfl ?_;exact⟨i,o,k,c,x,j,s,n,g,r,p,f,u,q,h,m,H,J,I,rfl,ah.out,ag.out,ae.out⟩
end Go.Proofs.YtpneolgdghbinaaGreat
