/- Several texts in one: ShKm, ShKm2, ShKm3, OpenK. -/
import Derived.Test.YteffhdcankkfkaaGreatQListed18
import Derived.Test.YteffhdcankkfkaaGreatQListed34
namespace Go.Proofs.YteffhdcankkfkaaGreat
open Go.ChangeShapes Go.WideShapes Go.ChangeAt Go.RowKit Go.Joins
set_option linter.unusedVariables false
set_option linter.unusedSimpArgs false
set_option maxRecDepth 100000
set_option maxHeartbeats 40000000
structure Km where
 now:Int
 bal:Bm
 ags:List Am
 bag:List Mm
 got:List Gt
 rst:Int
 gone:Int
abbrev kmv (now kj:Int) (vl:Value) (sf kp:Int) (vb vr vt va vm vg:Value) (rst gone:Int):Value:=.agg #[.int .i64 now,.int .i64 kj,vl,.int .i64 sf,.int .i64 kp,vb,vr,vt,va,vm,vg,.int .i64 rst,.int .i64 gone]
def RdKm (C:Nat) (w:World) (v:Value) (m:Km):Prop:=∃kj vl sf kp vb vr vt va vm vg,v=kmv m.now kj vl sf kp vb vr vt va vm vg m.rst m.gone/\RdBm C w (Q5i kj vl sf kp vb vr vt) m.bal/\RiE elA 0 C w va m.ags/\RiE elM 0 C w vm m.bag/\RdV Q0R C w vg m.got
def InKm (lo hi:Nat) (w:World) (v:Value) (m:Km):Prop:=∃kj vl sf kp vb vr vt va vm vg b0 b1 a0 a1 m0 m1 g0 g1,v=kmv m.now kj vl sf kp vb vr vt va vm vg m.rst m.gone/\(lo<=b0/\b1<=hi/\lo<=a0/\a1<=hi/\lo<=m0/\m1<=hi/\lo<=g0/\g1<=hi/\(b1<=a0\/a1<=b0)/\(b1<=m0\/m1<=b0)/\(b1<=g0\/g1<=b0)/\(a1<=m0\/m1<=a0)/\(a1<=g0\/g1<=a0)/\(m1<=g0\/g1<=m0))/\InBm b0 b1 w (Q5i kj vl sf kp vb vr vt) m.bal/\InE elA 83 a0 a1 w va m.ags/\InE elM 113 m0 m1 w vm m.bag/\InL Q0R 143 g0 g1 w vg m.got
theorem RiE.keptC {η α:Type} {E:El η α} {a C D:Nat} {w c:World} {v:Value} {xs:List α} (h:RiE E a C w v xs) (b:Below D w c) (d:C<=D):RiE E a C c v xs:=
 (RiE.stp E).go (lo:=C) (hi:=w.heap.size+C) h ⟨b.os,b.tape,b.output,b.size,fun k f g=>b.block k (by omega)⟩ (.inr (Kaq _))
theorem RdKm.kept {C D:Nat} {w c:World} {v:Value} {m:Km} (h:RdKm C w v m) (a:Below D w c) (b:C<=D):RdKm C c v m:=by
 obtain⟨i,q,k,j,n,s,t,l,r,p,e,d,h2,f,g⟩:=h;exact⟨i,q,k,j,n,s,t,l,r,p,e,d.kept a b,h2.keptC a b,f.keptC a b,g.kept a b⟩
theorem RdKm.le {C D:Nat} {w:World} {v:Value} {m:Km} (h:RdKm C w v m) (a:C<=D):RdKm D w v m:=by
 obtain⟨f,n,i,g,k,q,r,j,p,l,e,b,h2,c,d⟩:=h;exact⟨f,n,i,g,k,q,r,j,p,l,e,b.le a,(RiE.mon _).go h2 (Kaq _) a,(RiE.mon _).go c (Kaq _) a,d.le a⟩
theorem InKm.rd {lo hi:Nat} {w:World} {v:Value} {m:Km} (h:InKm lo hi w v m):RdKm hi w v m:=by
 obtain⟨d,n,g,f,j,q,r,i,p,l,u,x,s,t,A,B,y,z,e,k,a,h2,b,c⟩:=h;exact⟨d,n,g,f,j,q,r,i,p,l,e,a.rd.le (by omega),(RiE.mon _).go h2.ri (Kcq _) (by omega),(RiE.mon _).go b.ri (Kcq _) (by omega),(InL.rd (L:=Q0R) c).le (by omega)⟩
theorem InKm.step {x y lo hi:Nat} {w a:World} {v:Value} {m:Km} (h:InKm x y w v m) (s:Stp lo hi w a) (G:hi<=x\/y<=lo):InKm x y a v m:=by
 obtain⟨p,C,u,q,A,E,F,z,D,B,d,f,b,c,r,t,g,i,e,k,j,h2,l,n⟩:=h;exact⟨p,C,u,q,A,E,F,z,D,B,d,f,b,c,r,t,g,i,e,k,j.step s (by omega),(InE.stp _ _).go h2 s (by omega),(InE.stp _ _).go l s (by omega),InRow.step n s (by omega)⟩
theorem RdKm.opn {C:Nat} {w:World} {v:Value} {m:Km} (h:RdKm C w v m):∃j o B c t k p D d l E a s F i n u b r y g q x f,v=(kmv m.now j (.slice o B c) t k (.slice p D d) (.slice l E a) (.slice s F i) (.slice n u b) (.slice r y g) (.slice q x f) m.rst m.gone)/\RdBm C w (Q5i j (.slice o B c) t k (.slice p D d) (.slice l E a) (.slice s F i)) m.bal/\RiE elA 0 C w (.slice n u b) m.ags/\RiE elM 0 C w (.slice r y g) m.bag/\RdV Q0R C w (.slice q x f) m.got/\u=m.ags.length/\y=m.bag.length/\x=m.got.length:=by
 obtain⟨j,Z,t,k,X,vr,vt,V,vm,Y,rfl,z,h2,A,O⟩:=h;obtain⟨o,c,p,d,l,a,s,i,e⟩:=z.opn;simp only[Value.agg.injEq,Array.mk.injEq,List.cons.injEq,and_true,Value.int.injEq,true_and]at e;obtain⟨R,G,T,U,H,I,J⟩:=e;obtain⟨n,b,L⟩:=h2.len;obtain⟨r,g,N⟩:=A.len;obtain⟨q,f,M,P⟩:=O;subst G H I J L N M;exact⟨j,o,_,c,t,k,p,_,d,l,_,a,s,_,i,n,_,b,r,_,g,q,_,f,rfl,z,h2,A,⟨_,_,rfl,P⟩,rfl,rfl,rfl⟩
def Qg1 (m:Km):Prop:=Qh7 m.bal/\Qio m.ags/\Qi5 m.bag/\m.got.length<=maxLen/\∀i,i < m.bag.length->isB (m.bag.getD i mmD).c.l
def Q9j (m:Km):Prop:=Q5m m.bal/\(m.ags.length+QhF m.ags<=1048576)/\(m.bag.length+QhM m.bag<=1048576)/\m.got.length<=1048576/\∀i,i < m.bag.length->isB (m.bag.getD i mmD).c.l
theorem QiD {xs:List Am} (h:xs.length+QhF xs<=1048576) (i:Nat) (hi:i < xs.length):(xs.getD i amD).c.length+(xs.getD i amD).t.length<=1048576:=by
 have:=Q3o (Q97 xs) hi;unfold QhF at h;unfold Q97 at *;omega
theorem QiB {xs:List Mm} (h:xs.length+QhM xs<=1048576) (a:∀i,i < xs.length->isB (xs.getD i mmD).c.l) (i:Nat) (hi:i < xs.length):QbR (xs.getD i mmD).c:=by
 have:=Q3o (Q9i xs) hi;unfold QhM at h;unfold Q9i at *;exact⟨by omega,a i hi⟩
theorem Q1b {W:World} {k:Nat} {d f g i l m n p q r a b c:Value} {T:TypeId} (h:W.heap[k]? =some (.cells #[d,f,g,i,l,m,n,p,q,r,a,b,c] T (0,0))):W.cell? ⟨k,0,none⟩=some d/\W.cell? ⟨k,1,none⟩=some f/\W.cell? ⟨k,2,none⟩=some g/\W.cell? ⟨k,3,none⟩=some i/\W.cell? ⟨k,4,none⟩=some l/\W.cell? ⟨k,5,none⟩=some m/\W.cell? ⟨k,6,none⟩=some n/\W.cell? ⟨k,7,none⟩=some p/\W.cell? ⟨k,8,none⟩=some q/\W.cell? ⟨k,9,none⟩=some r/\W.cell? ⟨k,10,none⟩=some a/\W.cell? ⟨k,11,none⟩=some b/\W.cell? ⟨k,12,none⟩=some c/\(∀j,W.frozen? ⟨k,j,none⟩=false):=
 ⟨Q05 h 0 _ rfl,Q05 h 1 _ rfl,Q05 h 2 _ rfl,Q05 h 3 _ rfl,Q05 h 4 _ rfl,Q05 h 5 _ rfl,Q05 h 6 _ rfl,Q05 h 7 _ rfl,Q05 h 8 _ rfl,Q05 h 9 _ rfl,Q05 h 10 _ rfl,Q05 h 11 _ rfl,Q05 h 12 _ rfl,fun j=>by simp[World.frozen?,h]⟩
theorem Qip {W:World} {P:Nat} {X:Obj} (h:W.heap[P]? =some X):P < W.heap.size:=(KEq h)
theorem Q0E {W W':World} {P:Nat} {X:Obj} (h:W.heap[P]? =some X) (hb:Below W.heap.size W W'):W'.heap[P]? =some X:=(hb.block P (Qip h)).trans h
theorem Qa8 (v:Value) (m:Km) (w:World) (hR:RdKm w.heap.size w v m) (hl:Qg1 m):
  Calls Tryz.prog 16 #[v,.int .i64 1048576] w fun e w'=>(∃z:Int,e=.returned (.int .i64 z)/\((z < 0/\ -1<=z)\/(0<=z/\z<=1048576/\Q9j m)))/\Below w.heap.size w w':=by
 obtain⟨G,o,J,c,Y,H,T,M,C,P,N,A,X,O,F,R,I,B,V,L,E,U,j,D,rfl,r1,r2,r3,r4,ea,em,eg⟩:=hR.opn;obtain⟨l1,l2,l3,l4,l5⟩:=hl;have H1:=Q00 (fun W (a:Below w.heap.size w W)=>Qgm (Q5i G (.slice o J c) Y H (.slice T M C) (.slice P N A) (.slice X O F)) m.bal W ((r1.kept a (Kaq _)).le a.size) l1);have H2:=Q00 (fun W (a:Below w.heap.size w W) z n p=>Q9W (.slice R I B) m.ags z W (r2.on a) l2 n p);have H3:=Q00 (fun W (a:Below w.heap.size w W) z n p=>QaV (.slice V L E) m.bag z W (r3.on a) l3 n p)
 have H4:=Q00 (fun W z n p=>Qde U j D z W (by rw[eg];exact l4) n p);have HG:=Q00 eg;have ad:=Q00 l5;generalize m.now=now at *;generalize m.rst=rst at *;generalize m.gone=gone at *;have bx:=World.alloc_heap_new w (.cells #[.int .i64 now,.int .i64 G,.slice o J c,.int .i64 Y,.int .i64 H,.slice T M C,.slice P N A,.slice X O F,.slice R I B,.slice V L E,.slice U j D,.int .i64 rst,.int .i64 gone] 63)
 have r:Below w.heap.size w (w.alloc (.cells #[.int .i64 now,.int .i64 G,.slice o J c,.int .i64 Y,.int .i64 H,.slice T M C,.slice P N A,.slice X O F,.slice R I B,.slice V L E,.slice U j D,.int .i64 rst,.int .i64 gone] 63)):=KBq.alloc (Kaq _) _;obtain⟨z0,z1,Z,k,z4,z5,z6,z7,z8,z9,aj,ak,al,_⟩:=Q1b bx;have HX:=Q00 bx;have y:=Q00 r;clear bx r r1 r2 r3 r4 ea em eg l1 l2 l3 l4 l5 hR;go_enter Tryz.func16,Tryz.ntmps16;go_wp2_with fail
 generalize (w.alloc (.cells #[.int .i64 now,.int .i64 G,.slice o J c,.int .i64 Y,.int .i64 H,.slice T M C,.slice P N A,.slice X O F,.slice R I B,.slice V L E,.slice U j D,.int .i64 rst,.int .i64 gone] 63))=W0 at *;refine(H1.out W0 y.out).mono ?_;rintro e w1 ⟨⟨z,rfl,l⟩,a⟩;have b:=Q00 (y.out.trans (a.mono y.out.size));have h:=Q00 (Q0E HX.out a);clear a z0 z1 Z k z4 z5 z6 z7 z8 z9 aj ak al y HX H1
 rcases l with⟨l,x⟩|⟨ah,x,s⟩
 ·go_wp2
  go_ret;exact⟨⟨_,rfl,.inl ⟨by omega,by omega⟩⟩,b.out⟩
 ·have ar:¬(z < 0):=by omega
  have y8:=(Q1b h.out).2.2.2.2.2.2.2.2.1;have aa:=Q00 s;clear s;go_wp2_with fail;refine(H2.out w1 b.out z ah x).mono ?_;rintro e w2 ⟨l,a⟩;have d:=Q00 (b.out.trans (a.mono b.out.size));have i:=Q00 (Q0E h.out a);clear a y8 b h H2
  rcases l with rfl|⟨Z,rfl,ag,ap,t⟩
  ·go_wp2
   go_ret;exact⟨⟨_,rfl,.inl ⟨by omega,by omega⟩⟩,d.out⟩
  ·have aq:¬(Z < 0):=by omega
   have y9:=(Q1b i.out).2.2.2.2.2.2.2.2.2.1;have ab:=Q00 t;clear t;go_wp2_with fail;refine(H3.out w2 d.out Z ag (by omega)).mono ?_;rintro e w3 ⟨l,a⟩;have f:=Q00 (d.out.trans (a.mono d.out.size));have ae:=Q00 (Q0E i.out a);clear a y9 d i H3
   rcases l with rfl|⟨k,rfl,af,an,u⟩
   ·go_wp2
    go_ret;exact⟨⟨_,rfl,.inl ⟨by omega,by omega⟩⟩,f.out⟩
   ·have ao:¬(k < 0):=by omega
    have ai:=(Q1b ae.out).2.2.2.2.2.2.2.2.2.2.1;have ac:=Q00 u;have H4':=Q00 (H4.out w3 k af (by omega));obtain⟨q,hq⟩:∃q:Int,(if k - (j:Int) < 0 then -1 else k - (j:Int))=q:=⟨_,rfl⟩;rw[hq]at H4';have HQ:=Q00 hq;clear u hq;go_wp2_with fail;refine H4'.out.mono ?_;rintro e _ ⟨rfl,rfl⟩;clear ai H4 H4'
    by_cases hqn:q < 0
    ·have am:Hid (q= -1):=by have:=HQ.out;unfold Hid;split at this <;> omega
     go_wp2;go_ret;exact⟨⟨_,rfl,.inl ⟨by omega,by omega⟩⟩,f.out⟩
    ·have g:Hid (0<=q/\q<=1048576/\(j:Int)<=k):=by have:=HQ.out;unfold Hid;split at this <;> omega
     go_wp2;go_ret;refine⟨⟨_,rfl,.inr ⟨g.out.1,g.out.2.1,aa.out, ?_, ?_, ?_,ad.out⟩⟩,f.out⟩
     ·have:=ab.out;omega
     ·have:=ac.out;omega
     ·have:=g.out.2.2;have:=HG.out;omega
theorem Q9Y (v1 v2:Value) (m:Km) (w:World) (h1:RdKm w.heap.size w v1 m) (h2:RdKm w.heap.size w v2 m) (hf:Q9j m):
  Calls Tryz.prog 11 #[v1,v2] w fun e w'=>e=.returned (.bool true)/\Below w.heap.size w w':=by
 obtain⟨X,o,nj,c,sf,Y,ob,np,R,oR,nr,O,ot,nt,V,oa,Z,P,om,nm,U,og,ng,T,rfl,r1,r2,r3,r4,ea,em,eg⟩:=h1.opn;obtain⟨u,o2,z,c2,L,v,G,B,q,E,C,n,J,D,t,F,x,p,I,A,s,H,y,r,rfl,s1,s2,s3,s4,ae,ag,af⟩:=h2.opn;obtain⟨f1,f2,f3,f4,f5⟩:=hf;have H1:=Q00 (fun W (a:Below w.heap.size w W)=>QfY (Q5i X (.slice o nj c) sf Y (.slice ob np R) (.slice oR nr O) (.slice ot nt V)) (Q5i u (.slice o2 z c2) L v (.slice G B q) (.slice E C n) (.slice J D t)) m.bal W ((r1.kept a (Kaq _)).le a.size) ((s1.kept a (Kaq _)).le a.size) f1)
 have H2:=Q00 (fun W (a:Below w.heap.size w W)=>Q8y (.slice oa Z P) (.slice F x p) m.ags W (r2.on a) (s2.on a) (by omega) (fun i hi=>QiD f2 i hi));have H3:=Q00 (fun W (a:Below w.heap.size w W)=>Q9t (.slice om nm U) (.slice I A s) m.bag W (r3.on a) (s3.on a) (by omega) (fun i hi=>by have:=(QiB f3 f5 i hi).1;exact⟨by omega,by omega⟩))
 have H4:Hid (∀W,Below w.heap.size w W->Calls Tryz.prog 37 #[.slice og ng T,.slice H y r] W fun e w'=>e=.returned (.bool true)/\Below W.heap.size W w'):=fun W a=>by
  obtain⟨o',c',e1,q1⟩:=r4;obtain⟨ah,ad,e2,q2⟩:=s4;rw[e1,e2];exact QbK o' ah c' ad m.got W ((q1.kept a (Kaq _)).le a.size) ((q2.kept a (Kaq _)).le a.size) f4
 generalize m.now=now at *;generalize m.rst=rst at *;generalize m.gone=gone at *;have ab:Below w.heap.size w (w.alloc (.cells #[.int .i64 now,.int .i64 X,.slice o nj c,.int .i64 sf,.int .i64 Y,.slice ob np R,.slice oR nr O,.slice ot nt V,.slice oa Z P,.slice om nm U,.slice og ng T,.int .i64 rst,.int .i64 gone] 39)):=KBq.alloc (Kaq _) _
 have ac:Below w.heap.size w ((w.alloc (.cells #[.int .i64 now,.int .i64 X,.slice o nj c,.int .i64 sf,.int .i64 Y,.slice ob np R,.slice oR nr O,.slice ot nt V,.slice oa Z P,.slice om nm U,.slice og ng T,.int .i64 rst,.int .i64 gone] 39)).alloc (.cells #[.int .i64 now,.int .i64 u,.slice o2 z c2,.int .i64 L,.int .i64 v,.slice G B q,.slice E C n,.slice J D t,.slice F x p,.slice I A s,.slice H y r,.int .i64 rst,.int .i64 gone] 39)):=ab.alloc ab.size _
 have bx:((w.alloc (.cells #[.int .i64 now,.int .i64 X,.slice o nj c,.int .i64 sf,.int .i64 Y,.slice ob np R,.slice oR nr O,.slice ot nt V,.slice oa Z P,.slice om nm U,.slice og ng T,.int .i64 rst,.int .i64 gone] 39)).alloc (.cells #[.int .i64 now,.int .i64 u,.slice o2 z c2,.int .i64 L,.int .i64 v,.slice G B q,.slice E C n,.slice J D t,.slice F x p,.slice I A s,.slice H y r,.int .i64 rst,.int .i64 gone] 39)).heap[w.heap.size]? =some (.cells #[.int .i64 now,.int .i64 X,.slice o nj c,.int .i64 sf,.int .i64 Y,.slice ob np R,.slice oR nr O,.slice ot nt V,.slice oa Z P,.slice om nm U,.slice og ng T,.int .i64 rst,.int .i64 gone] 39 (0,0)):=(Below.heap_alloc _ _ _ (by simp)).trans (World.alloc_heap_new w _)
 have aa:((w.alloc (.cells #[.int .i64 now,.int .i64 X,.slice o nj c,.int .i64 sf,.int .i64 Y,.slice ob np R,.slice oR nr O,.slice ot nt V,.slice oa Z P,.slice om nm U,.slice og ng T,.int .i64 rst,.int .i64 gone] 39)).alloc (.cells #[.int .i64 now,.int .i64 u,.slice o2 z c2,.int .i64 L,.int .i64 v,.slice G B q,.slice E C n,.slice J D t,.slice F x p,.slice I A s,.slice H y r,.int .i64 rst,.int .i64 gone] 39)).heap[w.heap.size+1]? =some (.cells #[.int .i64 now,.int .i64 u,.slice o2 z c2,.int .i64 L,.int .i64 v,.slice G B q,.slice E C n,.slice J D t,.slice F x p,.slice I A s,.slice H y r,.int .i64 rst,.int .i64 gone] 39 (0,0)):=by
  have h:=World.alloc_heap_new (w.alloc (.cells #[.int .i64 now,.int .i64 X,.slice o nj c,.int .i64 sf,.int .i64 Y,.slice ob np R,.slice oR nr O,.slice ot nt V,.slice oa Z P,.slice om nm U,.slice og ng T,.int .i64 rst,.int .i64 gone] 39)) (.cells #[.int .i64 now,.int .i64 u,.slice o2 z c2,.int .i64 L,.int .i64 v,.slice G B q,.slice E C n,.slice J D t,.slice F x p,.slice I A s,.slice H y r,.int .i64 rst,.int .i64 gone] 39);rw[World.size_alloc]at h;exact h
 obtain⟨z0,z1,z2,z3,z4,z5,z6,z7,z8,z9,j,k,l,_⟩:=Q1b bx
 obtain⟨y0,y1,y2,y3,y4,y5,y6,y7,y8,y9,d,f,g,_⟩:=Q1b aa
 have M:=Q00 bx
 have N:=Q00 aa
 have b:=Q00 ac
 clear bx aa ac ab r1 r2 r3 r4 ea em eg s1 s2 s3 s4 ae ag af f1 f2 f3 f4 f5 h1 h2
 go_enter Tryz.func11,Tryz.ntmps11;go_wp2_with fail;generalize ((w.alloc (.cells #[.int .i64 now,.int .i64 X,.slice o nj c,.int .i64 sf,.int .i64 Y,.slice ob np R,.slice oR nr O,.slice ot nt V,.slice oa Z P,.slice om nm U,.slice og ng T,.int .i64 rst,.int .i64 gone] 39)).alloc (.cells #[.int .i64 now,.int .i64 u,.slice o2 z c2,.int .i64 L,.int .i64 v,.slice G B q,.slice E C n,.slice J D t,.slice F x p,.slice I A s,.slice H y r,.int .i64 rst,.int .i64 gone] 39))=W0 at *;refine(H1.out W0 b.out).mono ?_;rintro e w1 ⟨rfl,a⟩
 replace M:=Q00 (Q0E M.out a);replace N:=Q00 (Q0E N.out a);replace b:=Q00 (b.out.trans (a.mono b.out.size));clear a z0 y0 z1 y1 z2 y2 z3 y3 z4 y4 z5 y5 z6 y6 z7 y7 z8 y8 z9 y9 j d k f l g;obtain⟨z0,z1,z2,z3,z4,z5,z6,z7,z8,z9,j,k,l,_⟩:=Q1b M.out;obtain⟨y0,y1,y2,y3,y4,y5,y6,y7,y8,y9,d,f,g,_⟩:=Q1b N.out;go_wp2_with fail;refine(H2.out w1 b.out).mono ?_;rintro e w2 ⟨rfl,a⟩;replace M:=Q00 (Q0E M.out a);replace N:=Q00 (Q0E N.out a);replace b:=Q00 (b.out.trans (a.mono b.out.size))
 clear a z0 y0 z1 y1 z2 y2 z3 y3 z4 y4 z5 y5 z6 y6 z7 y7 z8 y8 z9 y9 j d k f l g;obtain⟨z0,z1,z2,z3,z4,z5,z6,z7,z8,z9,j,k,l,_⟩:=Q1b M.out;obtain⟨y0,y1,y2,y3,y4,y5,y6,y7,y8,y9,d,f,g,_⟩:=Q1b N.out;go_wp2_with fail;refine(H3.out w2 b.out).mono ?_;rintro e w3 ⟨rfl,a⟩;replace M:=Q00 (Q0E M.out a);replace N:=Q00 (Q0E N.out a);replace b:=Q00 (b.out.trans (a.mono b.out.size));clear a z0 y0 z1 y1 z2 y2 z3 y3 z4 y4 z5 y5 z6 y6 z7 y7 z8 y8 z9 y9 j d k f l g;obtain⟨z0,z1,z2,z3,z4,z5,z6,z7,z8,z9,j,k,l,_⟩:=Q1b M.out
 obtain⟨y0,y1,y2,y3,y4,y5,y6,y7,y8,y9,d,f,g,_⟩:=Q1b N.out;go_wp2_with fail;refine(H4.out w3 b.out).mono ?_;rintro e w4 ⟨rfl,a⟩;replace M:=Q00 (Q0E M.out a);replace N:=Q00 (Q0E N.out a);replace b:=Q00 (b.out.trans (a.mono b.out.size));clear a z0 y0 z1 y1 z2 y2 z3 y3 z4 y4 z5 y5 z6 y6 z7 y7 z8 y8 z9 y9 j d k f l g;obtain⟨z0,z1,z2,z3,z4,z5,z6,z7,z8,z9,j,k,l,_⟩:=Q1b M.out;obtain⟨y0,y1,y2,y3,y4,y5,y6,y7,y8,y9,d,f,g,_⟩:=Q1b N.out;go_wp2;go_ret;exact⟨rfl,b.out⟩
theorem Q1n (w:World) (k j:Nat) (cs:Array Value) (t:TypeId) (v:Value) (h:w.heap[k]? =some (.cells cs t (0,0))):(w.setCell ⟨k,j,none⟩ v).heap[k]? =some (.cells (cs.setIfInBounds j v) t (0,0)):=by
 simp[World.setCell,Array.getElem?_modify,h]
theorem Q14 {W:World} {P Q j:Nat} {v:Value} {X:Obj} (h:W.heap[P]? =some X) (hn:P≠Q):(W.setCell ⟨Q,j,none⟩ v).heap[P]? =some X:=(Below.heap_setCell W ⟨Q,j,none⟩ v P hn).trans h
theorem RdBm.ltr {C:Nat} {w:World} {v:Value} {m:Bm} (h:RdBm C w v m):∃j o l c r k g n b f p a i q d,v=(Q5i j (.slice o l c) r k (.slice g n b) (.slice f p a) (.slice i q d)):=by
 obtain⟨o,c,g,b,f,a,i,d,e⟩:=h.opn;exact⟨_,o,_,c,_,_,g,_,b,f,_,a,i,_,d,e⟩
theorem RiE.ltr {η α:Type} {E:El η α} {lo hi:Nat} {w:World} {v:Value} {xs:List α} (h:RiE E lo hi w v xs):∃o n c,v=.slice o n c:=by
 obtain⟨o,c,e⟩:=h.len;exact⟨o,_,c,e⟩
theorem Q2D (v:Value) (m:Km) (w:World) (hR:RdKm w.heap.size w v m) (hf:Q9j m):
  Calls Tryz.prog 18 #[v] w fun e w'=> ∃v',e=.returned v'/\InKm w.heap.size w'.heap.size w' v' m/\Below w.heap.size w w':=by
 obtain⟨kj,o,nj,c,sf,kp,ob,np,cb,oR,nr,cR,ot,nt,ct,oa,na,ca,om,nm,cm,og,ng,cg,rfl,r1,r2,r3,r4,ea,em,eg⟩:=hR.opn;obtain⟨f1,f2,f3,f4,f5⟩:=hf;have H1:=Q00 (fun W (a:Below w.heap.size w W)=>Qgj (Q5i kj (.slice o nj c) sf kp (.slice ob np cb) (.slice oR nr cR) (.slice ot nt ct)) m.bal W ((r1.kept a (Kaq _)).le a.size) f1);have H2:=Q00 (fun W (a:Below w.heap.size w W)=>Qag (.slice oa na ca) m.ags W (r2.on a) (by omega) (fun i hi=>QiD f2 i hi));have H3:=Q00 (fun W (a:Below w.heap.size w W)=>QbM (.slice om nm cm) m.bag W (r3.on a) (by omega) (fun i hi=>QiB f3 f5 i hi))
 have H4:Hid (∀W,Below w.heap.size w W->Calls Tryz.prog 54 #[.slice og ng cg] W fun e w'=> ∃o' n' c',e=.returned (.slice o' n' c')/\InL Q0R 143 W.heap.size w'.heap.size w' (.slice o' n' c') m.got/\Below W.heap.size W w'):=fun W a=>by
  obtain⟨o',c',e1,q1⟩:=r4;rw[e1];refine(Qdb o' c' m.got W ((q1.kept a (Kaq _)).le a.size) f4).mono ?_;rintro e w' ⟨g,rfl,ho,av⟩;exact⟨_,_,_,rfl,InRow.of ho,av⟩
 obtain⟨h,e0⟩:∃q,m.now=q:=⟨_,rfl⟩;obtain⟨k,e1⟩:∃q,m.rst=q:=⟨_,rfl⟩;obtain⟨b,e2⟩:∃q,m.gone=q:=⟨_,rfl⟩;have HE:=Q00 (And.intro e0 (And.intro e1 e2));rw[e0,e1,e2];clear e0 e1 e2 r1 r2 r3 r4 ea em eg f1 f2 f3 f4 f5 hR
 obtain⟨W0,ae⟩:∃W,(((w.alloc (.cells #[.int .i64 h,.int .i64 kj,.slice o nj c,.int .i64 sf,.int .i64 kp,.slice ob np cb,.slice oR nr cR,.slice ot nt ct,.slice oa na ca,.slice om nm cm,.slice og ng cg,.int .i64 k,.int .i64 b] 63)).alloc (.cells #[.int .i64 0,.int .i64 0,.slice none 0 0,.int .i64 0,.int .i64 0,.slice none 0 0,.slice none 0 0,.slice none 0 0,.slice none 0 0,.slice none 0 0,.slice none 0 0,.int .i64 0,.int .i64 0] 39)).alloc (.cells #[.int .i64 0,.int .i64 0,.slice none 0 0,.int .i64 0,.int .i64 0,.slice none 0 0,.slice none 0 0,.slice none 0 0,.slice none 0 0,.slice none 0 0,.slice none 0 0,.int .i64 0,.int .i64 0] 39))=W:=⟨_,rfl⟩
 have ah:Below w.heap.size w (w.alloc (.cells #[.int .i64 h,.int .i64 kj,.slice o nj c,.int .i64 sf,.int .i64 kp,.slice ob np cb,.slice oR nr cR,.slice ot nt ct,.slice oa na ca,.slice om nm cm,.slice og ng cg,.int .i64 k,.int .i64 b] 63)):=KBq.alloc (Kaq _) _;have aw:=ah.alloc ah.size (.cells #[.int .i64 0,.int .i64 0,.slice none 0 0,.int .i64 0,.int .i64 0,.slice none 0 0,.slice none 0 0,.slice none 0 0,.slice none 0 0,.slice none 0 0,.slice none 0 0,.int .i64 0,.int .i64 0] 39);have am:=alb0v0v3 ae
 have aZ:W0.heap.size=w.heap.size+1+1+1:=by rw[<-ae];simp
 have bp:=alx0v0v3 ae;have br:=alx0v1v3 ae;have bx:=alx0v2v3 ae;have r:=Q00 bp;have d:=Q00 br;have l:=Q00 bx;have j:=Q00 am;clear ah aw am bp br bx;obtain⟨q0,q1,q2,q3,q4,q5,q6,q7,q8,q9,al,ao,ap,_⟩:=Q1b r.out;clear q1 q2 q3 q4 q5 q6 q7 q8 q9 al ao ap;obtain⟨x0,x1,x2,x3,x4,x5,x6,x7,x8,x9,P,R,T,n⟩:=Q1b l.out;have aF:=n 0;clear n x1 x2 x3 x4 x5 x6 x7 x8 x9 P R T;obtain⟨V0,V⟩:∃W,(W0.setCell ⟨w.heap.size+1+1,0,none⟩ (.int .i64 h))=W:=⟨_,rfl⟩
 have nX:V0.heap[w.heap.size+1+1]? =some (.cells #[.int .i64 h,.int .i64 0,.slice none 0 0,.int .i64 0,.int .i64 0,.slice none 0 0,.slice none 0 0,.slice none 0 0,.slice none 0 0,.slice none 0 0,.slice none 0 0,.int .i64 0,.int .i64 0] 39 (0,0)):=by rw[<-V];simpa using(Q1n _ _ 0 _ _ (.int .i64 h) l.out)
 have z:V0.heap[w.heap.size]? =some (.cells #[.int .i64 h,.int .i64 kj,.slice o nj c,.int .i64 sf,.int .i64 kp,.slice ob np cb,.slice oR nr cR,.slice ot nt ct,.slice oa na ca,.slice om nm cm,.slice og ng cg,.int .i64 k,.int .i64 b] 63 (0,0)):=by rw[<-V];exact(Q14 r.out (by omega))
 have nR:V0.heap[w.heap.size+1]? =some (.cells #[.int .i64 0,.int .i64 0,.slice none 0 0,.int .i64 0,.int .i64 0,.slice none 0 0,.slice none 0 0,.slice none 0 0,.slice none 0 0,.slice none 0 0,.slice none 0 0,.int .i64 0,.int .i64 0] 39 (0,0)):=by rw[<-V];exact(Q14 d.out (by omega))
 have nB:Below w.heap.size w V0:=by rw[<-V];exact(j.out.setCell (p:=⟨w.heap.size+1+1,0,none⟩) (show w.heap.size<=w.heap.size+1+1 by omega) _)
 have nS:Stp (w.heap.size+1+1) (w.heap.size+1+1+1) W0 V0:=by rw[<-V];exact((Stp.refl _).trans (Q07 _ _ _ _))
 obtain⟨p0,p1,p2,p3,p4,p5,p6,p7,p8,p9,H,I,J,_⟩:=Q1b z;clear p0 p8 p9 H I J;have f:=Q00 (And.intro nX (And.intro z (And.intro nR (And.intro nB nS))));clear nX z nR nB nS;go_enter Tryz.func18,Tryz.ntmps18;go_wp2_with fail;replace l:=Q00 f.out.1;replace r:=Q00 f.out.2.1;replace d:=Q00 f.out.2.2.1;replace j:=Q00 f.out.2.2.2.1
 have ax:V0.heap.size=W0.heap.size:=by rw[<-V];simp
 clear q0 ae f V p1 p2 p3 p4 p5 p6 p7 x0 aF;refine(H1.out V0 j.out).mono ?_;rintro e w1 ⟨bb,rfl,aj,a⟩;obtain⟨x,o2,A,c2,L,y,F,B,t,E,C,s,G,D,u,ar⟩:=aj.rd.ltr;subst ar;have IB:=Q00 aj;replace l:=Q00 (Q0E l.out a);replace r:=Q00 (Q0E r.out a);replace d:=Q00 (Q0E d.out a);replace j:=Q00 (j.out.trans (a.mono j.out.size));have aP:=a.size;clear a;clear H1 aj;obtain⟨x0,x1,x2,x3,x4,x5,x6,x7,x8,x9,P,R,T,n⟩:=Q1b l.out;have aG:=n 1;have aH:=n 2;have aI:=n 3;have aJ:=n 4;have aK:=n 5;have aL:=n 6;have aM:=n 7
 clear n x0 x8 x9 P R T;obtain⟨V1,X⟩:∃W,(((((((w1.setCell ⟨w.heap.size+1+1,1,none⟩ (.int .i64 x)).setCell ⟨w.heap.size+1+1,2,none⟩ (.slice o2 A c2)).setCell ⟨w.heap.size+1+1,3,none⟩ (.int .i64 L)).setCell ⟨w.heap.size+1+1,4,none⟩ (.int .i64 y)).setCell ⟨w.heap.size+1+1,5,none⟩ (.slice F B t)).setCell ⟨w.heap.size+1+1,6,none⟩ (.slice E C s)).setCell ⟨w.heap.size+1+1,7,none⟩ (.slice G D u))=W:=⟨_,rfl⟩
 have nX:V1.heap[w.heap.size+1+1]? =some (.cells #[.int .i64 h,.int .i64 x,.slice o2 A c2,.int .i64 L,.int .i64 y,.slice F B t,.slice E C s,.slice G D u,.slice none 0 0,.slice none 0 0,.slice none 0 0,.int .i64 0,.int .i64 0] 39 (0,0)):=by rw[<-X];simpa using(Q1n _ _ 7 _ _ (.slice G D u) (Q1n _ _ 6 _ _ (.slice E C s) (Q1n _ _ 5 _ _ (.slice F B t) (Q1n _ _ 4 _ _ (.int .i64 y) (Q1n _ _ 3 _ _ (.int .i64 L) (Q1n _ _ 2 _ _ (.slice o2 A c2) (Q1n _ _ 1 _ _ (.int .i64 x) l.out)))))))
 have z:V1.heap[w.heap.size]? =some (.cells #[.int .i64 h,.int .i64 kj,.slice o nj c,.int .i64 sf,.int .i64 kp,.slice ob np cb,.slice oR nr cR,.slice ot nt ct,.slice oa na ca,.slice om nm cm,.slice og ng cg,.int .i64 k,.int .i64 b] 63 (0,0)):=by rw[<-X];exact(Q14 (Q14 (Q14 (Q14 (Q14 (Q14 (Q14 r.out (by omega)) (by omega)) (by omega)) (by omega)) (by omega)) (by omega)) (by omega))
 have nR:V1.heap[w.heap.size+1]? =some (.cells #[.int .i64 0,.int .i64 0,.slice none 0 0,.int .i64 0,.int .i64 0,.slice none 0 0,.slice none 0 0,.slice none 0 0,.slice none 0 0,.slice none 0 0,.slice none 0 0,.int .i64 0,.int .i64 0] 39 (0,0)):=by rw[<-X];exact(Q14 (Q14 (Q14 (Q14 (Q14 (Q14 (Q14 d.out (by omega)) (by omega)) (by omega)) (by omega)) (by omega)) (by omega)) (by omega))
 have nB:Below w.heap.size w V1:=by rw[<-X];exact(((((((j.out.setCell (p:=⟨w.heap.size+1+1,1,none⟩) (show w.heap.size<=w.heap.size+1+1 by omega) _).setCell (p:=⟨w.heap.size+1+1,2,none⟩) (show w.heap.size<=w.heap.size+1+1 by omega) _).setCell (p:=⟨w.heap.size+1+1,3,none⟩) (show w.heap.size<=w.heap.size+1+1 by omega) _).setCell (p:=⟨w.heap.size+1+1,4,none⟩) (show w.heap.size<=w.heap.size+1+1 by omega) _).setCell (p:=⟨w.heap.size+1+1,5,none⟩) (show w.heap.size<=w.heap.size+1+1 by omega) _).setCell (p:=⟨w.heap.size+1+1,6,none⟩) (show w.heap.size<=w.heap.size+1+1 by omega) _).setCell (p:=⟨w.heap.size+1+1,7,none⟩) (show w.heap.size<=w.heap.size+1+1 by omega) _)
 have nS:Stp (w.heap.size+1+1) (w.heap.size+1+1+1) w1 V1:=by rw[<-X];exact((((((((Stp.refl _).trans (Q07 _ _ _ _)).trans (Q07 _ _ _ _)).trans (Q07 _ _ _ _)).trans (Q07 _ _ _ _)).trans (Q07 _ _ _ _)).trans (Q07 _ _ _ _)).trans (Q07 _ _ _ _))
 obtain⟨p0,p1,p2,p3,p4,p5,p6,p7,p8,p9,H,I,J,_⟩:=Q1b z;clear p0 p1 p2 p3 p4 p5 p6 p7 p9 H I J;have f:=Q00 (And.intro nX (And.intro z (And.intro nR (And.intro nB nS))));clear nX z nR nB nS;go_wp2_with fail;replace l:=Q00 f.out.1;replace r:=Q00 f.out.2.1;replace d:=Q00 f.out.2.2.1;replace j:=Q00 f.out.2.2.2.1
 have ay:V1.heap.size=w1.heap.size:=by rw[<-X];simp
 replace IB:=Q00 (IB.out.step f.out.2.2.2.2 (.inl (by omega)));clear f X p8 x1 aG x2 aH x3 aI x4 aJ x5 aK x6 aL x7 aM;refine(H2.out V1 j.out).mono ?_;rintro e w2 ⟨ba,rfl,ai,a⟩;obtain⟨O,N,M,aq⟩:=ai.ri.ltr;subst aq;have IA:=Q00 ai;replace l:=Q00 (Q0E l.out a);replace r:=Q00 (Q0E r.out a);replace d:=Q00 (Q0E d.out a);replace j:=Q00 (j.out.trans (a.mono j.out.size));have aQ:=a.size;replace IB:=Q00 (IB.out.step (Stp.of (lo:=0) (hi:=0) a) (.inl (Kcq _)));clear a;clear H2 ai;obtain⟨x0,x1,x2,x3,x4,x5,x6,x7,x8,x9,P,R,T,n⟩:=Q1b l.out
 have aN:=n 8;clear n x0 x1 x2 x3 x4 x5 x6 x7 x9 P R T;obtain⟨V2,Y⟩:∃W,(w2.setCell ⟨w.heap.size+1+1,8,none⟩ (.slice O N M))=W:=⟨_,rfl⟩
 have nX:V2.heap[w.heap.size+1+1]? =some (.cells #[.int .i64 h,.int .i64 x,.slice o2 A c2,.int .i64 L,.int .i64 y,.slice F B t,.slice E C s,.slice G D u,.slice O N M,.slice none 0 0,.slice none 0 0,.int .i64 0,.int .i64 0] 39 (0,0)):=by rw[<-Y];simpa using(Q1n _ _ 8 _ _ (.slice O N M) l.out)
 have z:V2.heap[w.heap.size]? =some (.cells #[.int .i64 h,.int .i64 kj,.slice o nj c,.int .i64 sf,.int .i64 kp,.slice ob np cb,.slice oR nr cR,.slice ot nt ct,.slice oa na ca,.slice om nm cm,.slice og ng cg,.int .i64 k,.int .i64 b] 63 (0,0)):=by rw[<-Y];exact(Q14 r.out (by omega))
 have nR:V2.heap[w.heap.size+1]? =some (.cells #[.int .i64 0,.int .i64 0,.slice none 0 0,.int .i64 0,.int .i64 0,.slice none 0 0,.slice none 0 0,.slice none 0 0,.slice none 0 0,.slice none 0 0,.slice none 0 0,.int .i64 0,.int .i64 0] 39 (0,0)):=by rw[<-Y];exact(Q14 d.out (by omega))
 have nB:Below w.heap.size w V2:=by rw[<-Y];exact(j.out.setCell (p:=⟨w.heap.size+1+1,8,none⟩) (show w.heap.size<=w.heap.size+1+1 by omega) _)
 have nS:Stp (w.heap.size+1+1) (w.heap.size+1+1+1) w2 V2:=by rw[<-Y];exact((Stp.refl _).trans (Q07 _ _ _ _))
 obtain⟨p0,p1,p2,p3,p4,p5,p6,p7,p8,p9,H,I,J,_⟩:=Q1b z;clear p0 p1 p2 p3 p4 p5 p6 p7 p8 H I J;have f:=Q00 (And.intro nX (And.intro z (And.intro nR (And.intro nB nS))));clear nX z nR nB nS;go_wp2_with fail;replace l:=Q00 f.out.1;replace r:=Q00 f.out.2.1;replace d:=Q00 f.out.2.2.1;replace j:=Q00 f.out.2.2.2.1
 have az:V2.heap.size=w2.heap.size:=by rw[<-Y];simp
 replace IB:=Q00 (IB.out.step f.out.2.2.2.2 (.inl (by omega)));replace IA:=Q00 ((InE.stp _ _).go IA.out f.out.2.2.2.2 (.inl (by omega)));clear f Y p9 x8 aN;refine(H3.out V2 j.out).mono ?_;rintro e w3 ⟨bc,rfl,ak,a⟩;obtain⟨ab,aa,U,au⟩:=ak.ri.ltr;subst au;have IM:=Q00 ak;replace l:=Q00 (Q0E l.out a);replace r:=Q00 (Q0E r.out a);replace d:=Q00 (Q0E d.out a);replace j:=Q00 (j.out.trans (a.mono j.out.size));have aR:=a.size;replace IB:=Q00 (IB.out.step (Stp.of (lo:=0) (hi:=0) a) (.inl (Kcq _)))
 replace IA:=Q00 ((InE.stp _ _).go IA.out (Stp.of (lo:=0) (hi:=0) a) (.inl (Kcq _)));clear a;clear H3 ak;obtain⟨x0,x1,x2,x3,x4,x5,x6,x7,x8,x9,P,R,T,n⟩:=Q1b l.out;have aO:=n 9;clear n x0 x1 x2 x3 x4 x5 x6 x7 x8 P R T;obtain⟨V3,Z⟩:∃W,(w3.setCell ⟨w.heap.size+1+1,9,none⟩ (.slice ab aa U))=W:=⟨_,rfl⟩
 have nX:V3.heap[w.heap.size+1+1]? =some (.cells #[.int .i64 h,.int .i64 x,.slice o2 A c2,.int .i64 L,.int .i64 y,.slice F B t,.slice E C s,.slice G D u,.slice O N M,.slice ab aa U,.slice none 0 0,.int .i64 0,.int .i64 0] 39 (0,0)):=by rw[<-Z];simpa using(Q1n _ _ 9 _ _ (.slice ab aa U) l.out)
 have z:V3.heap[w.heap.size]? =some (.cells #[.int .i64 h,.int .i64 kj,.slice o nj c,.int .i64 sf,.int .i64 kp,.slice ob np cb,.slice oR nr cR,.slice ot nt ct,.slice oa na ca,.slice om nm cm,.slice og ng cg,.int .i64 k,.int .i64 b] 63 (0,0)):=by rw[<-Z];exact(Q14 r.out (by omega))
 have nR:V3.heap[w.heap.size+1]? =some (.cells #[.int .i64 0,.int .i64 0,.slice none 0 0,.int .i64 0,.int .i64 0,.slice none 0 0,.slice none 0 0,.slice none 0 0,.slice none 0 0,.slice none 0 0,.slice none 0 0,.int .i64 0,.int .i64 0] 39 (0,0)):=by rw[<-Z];exact(Q14 d.out (by omega))
 have nB:Below w.heap.size w V3:=by rw[<-Z];exact(j.out.setCell (p:=⟨w.heap.size+1+1,9,none⟩) (show w.heap.size<=w.heap.size+1+1 by omega) _)
 have nS:Stp (w.heap.size+1+1) (w.heap.size+1+1+1) w3 V3:=by rw[<-Z];exact((Stp.refl _).trans (Q07 _ _ _ _))
 obtain⟨p0,p1,p2,p3,p4,p5,p6,p7,p8,p9,H,I,J,_⟩:=Q1b z;clear p0 p1 p2 p3 p4 p5 p6 p7 p8 p9 I J;have f:=Q00 (And.intro nX (And.intro z (And.intro nR (And.intro nB nS))));clear nX z nR nB nS;go_wp2_with fail;replace l:=Q00 f.out.1;replace r:=Q00 f.out.2.1;replace d:=Q00 f.out.2.2.1;replace j:=Q00 f.out.2.2.2.1
 have aA:V3.heap.size=w3.heap.size:=by rw[<-Z];simp
 replace IB:=Q00 (IB.out.step f.out.2.2.2.2 (.inl (by omega)));replace IA:=Q00 ((InE.stp _ _).go IA.out f.out.2.2.2.2 (.inl (by omega)));replace IM:=Q00 ((InE.stp _ _).go IM.out f.out.2.2.2.2 (.inl (by omega)));clear f Z H x9 aO;refine(H4.out V3 j.out).mono ?_;rintro e w4 ⟨ag,af,ac,rfl,an,a⟩;have IG:=Q00 an;replace l:=Q00 (Q0E l.out a);replace r:=Q00 (Q0E r.out a);replace d:=Q00 (Q0E d.out a);replace j:=Q00 (j.out.trans (a.mono j.out.size));have aS:=a.size;replace IB:=Q00 (IB.out.step (Stp.of (lo:=0) (hi:=0) a) (.inl (Kcq _)))
 replace IA:=Q00 ((InE.stp _ _).go IA.out (Stp.of (lo:=0) (hi:=0) a) (.inl (Kcq _)));replace IM:=Q00 ((InE.stp _ _).go IM.out (Stp.of (lo:=0) (hi:=0) a) (.inl (Kcq _)));clear a;clear H4 an;obtain⟨x0,x1,x2,x3,x4,x5,x6,x7,x8,x9,P,R,T,n⟩:=Q1b l.out;have aW:=n 10;have aX:=n 11;have aY:=n 12;clear n x0 x1 x2 x3 x4 x5 x6 x7 x8 x9;obtain⟨q0,q1,q2,q3,q4,q5,q6,q7,q8,q9,al,ao,ap,_⟩:=Q1b r.out;clear q0 q1 q2 q3 q4 q5 q6 q7 q8 q9 al
 obtain⟨V4,ad⟩:∃W,(((w4.setCell ⟨w.heap.size+1+1,10,none⟩ (.slice ag af ac)).setCell ⟨w.heap.size+1+1,11,none⟩ (.int .i64 k)).setCell ⟨w.heap.size+1+1,12,none⟩ (.int .i64 b))=W:=⟨_,rfl⟩
 have nX:V4.heap[w.heap.size+1+1]? =some (.cells #[.int .i64 h,.int .i64 x,.slice o2 A c2,.int .i64 L,.int .i64 y,.slice F B t,.slice E C s,.slice G D u,.slice O N M,.slice ab aa U,.slice ag af ac,.int .i64 k,.int .i64 b] 39 (0,0)):=by rw[<-ad];simpa using(Q1n _ _ 12 _ _ (.int .i64 b) (Q1n _ _ 11 _ _ (.int .i64 k) (Q1n _ _ 10 _ _ (.slice ag af ac) l.out)))
 have z:V4.heap[w.heap.size]? =some (.cells #[.int .i64 h,.int .i64 kj,.slice o nj c,.int .i64 sf,.int .i64 kp,.slice ob np cb,.slice oR nr cR,.slice ot nt ct,.slice oa na ca,.slice om nm cm,.slice og ng cg,.int .i64 k,.int .i64 b] 63 (0,0)):=by rw[<-ad];exact(Q14 (Q14 (Q14 r.out (by omega)) (by omega)) (by omega))
 have nR:V4.heap[w.heap.size+1]? =some (.cells #[.int .i64 0,.int .i64 0,.slice none 0 0,.int .i64 0,.int .i64 0,.slice none 0 0,.slice none 0 0,.slice none 0 0,.slice none 0 0,.slice none 0 0,.slice none 0 0,.int .i64 0,.int .i64 0] 39 (0,0)):=by rw[<-ad];exact(Q14 (Q14 (Q14 d.out (by omega)) (by omega)) (by omega))
 have nB:Below w.heap.size w V4:=by rw[<-ad];exact(((j.out.setCell (p:=⟨w.heap.size+1+1,10,none⟩) (show w.heap.size<=w.heap.size+1+1 by omega) _).setCell (p:=⟨w.heap.size+1+1,11,none⟩) (show w.heap.size<=w.heap.size+1+1 by omega) _).setCell (p:=⟨w.heap.size+1+1,12,none⟩) (show w.heap.size<=w.heap.size+1+1 by omega) _)
 have nS:Stp (w.heap.size+1+1) (w.heap.size+1+1+1) w4 V4:=by rw[<-ad];exact((((Stp.refl _).trans (Q07 _ _ _ _)).trans (Q07 _ _ _ _)).trans (Q07 _ _ _ _))
 obtain⟨p0,p1,p2,p3,p4,p5,p6,p7,p8,p9,H,I,J,_⟩:=Q1b z;clear p0 p1 p2 p3 p4 p5 p6 p7 p8 p9 H I J;have f:=Q00 (And.intro nX (And.intro z (And.intro nR (And.intro nB nS))));clear nX z nR nB nS;obtain⟨y0,y1,y2,y3,y4,y5,y6,y7,y8,y9,bd,be,bf,_⟩:=Q1b f.out.1;obtain⟨r0,r1,r2,r3,r4,r5,r6,r7,r8,r9,aC,aD,aE,rf⟩:=Q1b f.out.2.2.1;have a0:=rf 0;have a1:=rf 1;have a2:=rf 2;have a3:=rf 3;have a4:=rf 4;have a5:=rf 5;have a6:=rf 6;have a7:=rf 7;have a8:=rf 8;have a9:=rf 9;have aT:=rf 10;have aU:=rf 11;have aV:=rf 12;clear rf
 have aB:V4.heap.size=w4.heap.size:=by rw[<-ad];simp
 go_wp2;refine bodyPost_ret (v:=(kmv h x (.slice o2 A c2) L y (.slice F B t) (.slice E C s) (.slice G D u) (.slice O N M) (.slice ab aa U) (.slice ag af ac) k b)) (by simp[results,Tryz.results18,go_sem,r0,r1,r2,r3,r4,r5,r6,r7,r8,r9,aC,aD,aE]) rfl ⟨_,rfl, ?_, ?_⟩
 ·have s1:=f.out.2.2.2.2
  have s2:Stp (w.heap.size+1) (w.heap.size+1+1) _ (((((((((((((V4.setCell ⟨w.heap.size+1,0,none⟩ (.int .i64 h)).setCell ⟨w.heap.size+1,1,none⟩ (.int .i64 x)).setCell ⟨w.heap.size+1,2,none⟩ (.slice o2 A c2)).setCell ⟨w.heap.size+1,3,none⟩ (.int .i64 L)).setCell ⟨w.heap.size+1,4,none⟩ (.int .i64 y)).setCell ⟨w.heap.size+1,5,none⟩ (.slice F B t)).setCell ⟨w.heap.size+1,6,none⟩ (.slice E C s)).setCell ⟨w.heap.size+1,7,none⟩ (.slice G D u)).setCell ⟨w.heap.size+1,8,none⟩ (.slice O N M)).setCell ⟨w.heap.size+1,9,none⟩ (.slice ab aa U)).setCell ⟨w.heap.size+1,10,none⟩ (.slice ag af ac)).setCell ⟨w.heap.size+1,11,none⟩ (.int .i64 k)).setCell ⟨w.heap.size+1,12,none⟩ (.int .i64 b)):=((((((((((((((Stp.refl _).trans (Q07 _ _ _ _)).trans (Q07 _ _ _ _)).trans (Q07 _ _ _ _)).trans (Q07 _ _ _ _)).trans (Q07 _ _ _ _)).trans (Q07 _ _ _ _)).trans (Q07 _ _ _ _)).trans (Q07 _ _ _ _)).trans (Q07 _ _ _ _)).trans (Q07 _ _ _ _)).trans (Q07 _ _ _ _)).trans (Q07 _ _ _ _)).trans (Q07 _ _ _ _))
  refine⟨x,.slice o2 A c2,L,y,.slice F B t,.slice E C s,.slice G D u,.slice O N M,.slice ab aa U,.slice ag af ac,V0.heap.size,w1.heap.size,V1.heap.size,w2.heap.size,V2.heap.size,w3.heap.size,V3.heap.size,w4.heap.size,by rw[HE.out.1,HE.out.2.1,HE.out.2.2], ?_,(IB.out.step s1 (.inl (by omega))).step s2 (.inl (by omega)),(InE.stp _ _).go ((InE.stp _ _).go IA.out s1 (.inl (by omega))) s2 (.inl (by omega)),(InE.stp _ _).go ((InE.stp _ _).go IM.out s1 (.inl (by omega))) s2 (.inl (by omega)),InRow.step (InRow.step IG.out s1 (.inl (by omega))) s2 (.inl (by omega))⟩
  simp only[World.setCell,Array.size_modify];omega
 ·have a:=f.out.2.2.2.1
  exact(((((((((((((a.setCell (p:=⟨w.heap.size+1,0,none⟩) (show w.heap.size<=w.heap.size+1 by omega) _).setCell (p:=⟨w.heap.size+1,1,none⟩) (show w.heap.size<=w.heap.size+1 by omega) _).setCell (p:=⟨w.heap.size+1,2,none⟩) (show w.heap.size<=w.heap.size+1 by omega) _).setCell (p:=⟨w.heap.size+1,3,none⟩) (show w.heap.size<=w.heap.size+1 by omega) _).setCell (p:=⟨w.heap.size+1,4,none⟩) (show w.heap.size<=w.heap.size+1 by omega) _).setCell (p:=⟨w.heap.size+1,5,none⟩) (show w.heap.size<=w.heap.size+1 by omega) _).setCell (p:=⟨w.heap.size+1,6,none⟩) (show w.heap.size<=w.heap.size+1 by omega) _).setCell (p:=⟨w.heap.size+1,7,none⟩) (show w.heap.size<=w.heap.size+1 by omega) _).setCell (p:=⟨w.heap.size+1,8,none⟩) (show w.heap.size<=w.heap.size+1 by omega) _).setCell (p:=⟨w.heap.size+1,9,none⟩) (show w.heap.size<=w.heap.size+1 by omega) _).setCell (p:=⟨w.heap.size+1,10,none⟩) (show w.heap.size<=w.heap.size+1 by omega) _).setCell (p:=⟨w.heap.size+1,11,none⟩) (show w.heap.size<=w.heap.size+1 by omega) _).setCell (p:=⟨w.heap.size+1,12,none⟩) (show w.heap.size<=w.heap.size+1 by omega) _)
def nKm (m:Km):Int:=nBm m.bal+(nAs m.ags:Int)+(nMs m.bag:Int)+4 * (m.got.length:Int)
def Qj1 (k:Int) (m:Km):Km:=⟨m.now,QiF k m.bal,QhW (k+nBm m.bal) m.ags,QhV (k+nBm m.bal+(nAs m.ags:Int)) m.bag,mkL QdQ 4 (k+nBm m.bal+(nAs m.ags:Int)+(nMs m.bag:Int)) m.got.length,m.rst,m.gone⟩
theorem Qh5 {m:Km} (h:Q9j m):0<=nBm m.bal/\nBm m.bal<=16000000/\(nAs m.ags:Int)<=6000000/\(nMs m.bag:Int)<=12000000/\(m.got.length:Int)<=1048576/\0<=nKm m/\nKm m<=99000000:=by
 have c:=Qhv h.1;have h2:=QhZ m.ags m.ags.length;have d:=Qi8 m.bag m.bag.length;have a:=h.2.1;have b:=h.2.2.1;have f:=h.2.2.2.1;unfold QhF at a;unfold QhM at b;unfold nKm nAs nMs;omega
theorem Q7F (lo hi:Nat) (v:Value) (m:Km) (k:Int) (w:World) (hv:InKm lo hi w v m) (h0:0<=k) (h1:k<=1000) (hh:hi<=w.heap.size) (L:Q9j m):
  Calls Tryz.prog 14 #[v,.int .i64 k] w fun e w'=>e=.returned (.int .i64 (k+nKm m))/\InKm lo hi w' v (Qj1 k m)/\Stp lo hi w w':=by
 obtain⟨kj,o,nj,c,sf,kp,ob,np,cb,oR,nr,cR,ot,nt,ct,oa,na,ca,om,nm,cm,G,F,C,rfl,_,_,_,_,ag,ai,ah⟩:=hv.rd.opn;clear ag ai ah;obtain⟨aj,vl,al,ak,vb,vr,vt,va,vm,vg,b0,b1,a0,a1,m0,m1,g0,g1,e,kk,i1,i2,i3,i4⟩:=hv;simp only[Value.agg.injEq,Array.mk.injEq,List.cons.injEq,and_true,true_and,Value.int.injEq]at e;obtain⟨e1,e2,e3,e4,e5,e6,e7,e8,e9,af⟩:=e;subst e1 e2 e3 e4 e5 e6 e7 e8 e9 af;have f:=Q00 (Qh5 L)
 have a:Hid (∀W',InBm b0 b1 W' (Q5i kj (.slice o nj c) sf kp (.slice ob np cb) (.slice oR nr cR) (.slice ot nt ct)) (QiF k m.bal)->InE elA 83 a0 a1 W' (.slice oa na ca) (QhW (k+nBm m.bal) m.ags)->InE elM 113 m0 m1 W' (.slice om nm cm) (QhV (k+nBm m.bal+(nAs m.ags:Int)) m.bag)->InL Q0R 143 g0 g1 W' (.slice G F C) (mkL QdQ 4 (k+nBm m.bal+(nAs m.ags:Int)+(nMs m.bag:Int)) m.got.length)->InKm lo hi W' (kmv m.now kj (.slice o nj c) sf kp (.slice ob np cb) (.slice oR nr cR) (.slice ot nt ct) (.slice oa na ca) (.slice om nm cm) (.slice G F C) m.rst m.gone) (Qj1 k m)):=fun W' q1 q2 q3 q4=>⟨_,_,_,_,_,_,_,_,_,_,b0,b1,a0,a1,m0,m1,g0,g1,rfl,kk,q1,q2,q3,q4⟩
 have aa:=Q00 (fun W (hs:w.heap.size<=W.heap.size) (q:InBm b0 b1 W (Q5i kj (.slice o nj c) sf kp (.slice ob np cb) (.slice oR nr cR) (.slice ot nt ct)) m.bal)=>QbW b0 b1 _ m.bal k W q h0 (by omega) (by omega) L.1);have H:=Q00 (fun W (q:InE elA 83 a0 a1 W (.slice oa na ca) m.ags)=>Q7m a0 a1 _ m.ags (k+nBm m.bal) W q (by have:=f.out;omega) (by have:=f.out;omega) (by have:=L.2.1;omega) (by have:=L.2.1;omega))
 have t:=Q00 (fun W (q:InE elM 113 m0 m1 W (.slice om nm cm) m.bag)=>Q8D m0 m1 _ m.bag (k+nBm m.bal+(nAs m.ags:Int)) W q (by have:=f.out;omega) (by have:=f.out;omega) (by have:=L.2.2.1;omega) (by have:=L.2.2.1;omega))
 have p:Hid (∀W,InL Q0R 143 g0 g1 W (.slice G F C) m.got->Calls Tryz.prog 41 #[.slice G F C,.int .i64 (k+nBm m.bal+(nAs m.ags:Int)+(nMs m.bag:Int))] W fun e w'=>e=.returned (.int .i64 (k+nKm m))/\InL Q0R 143 g0 g1 w' (.slice G F C) (mkL QdQ 4 (k+nBm m.bal+(nAs m.ags:Int)+(nMs m.bag:Int)) m.got.length)/\Stp g0 g1 W w'):=fun W q=>
  (Qat g0 _ m.got _ W q.1 (by have:=f.out;omega) (by have:=f.out;omega) (by have:=f.out;omega)).mono fun e w' ⟨h1,h2,h3⟩=>⟨by rw[h1];unfold nKm;congr 2;omega,⟨h2,q.2⟩,Stp.grown h3 (fun b e=>⟨(q.1.lt b e).1,q.2 b e⟩)⟩
 have d:=Q00 kk;have HH:=Q00 hh;obtain⟨x1,ab⟩:∃q,k+nBm m.bal=q:=⟨_,rfl⟩;rw[ab]at aa H t p a;obtain⟨x2,ac⟩:∃q,x1+(nAs m.ags:Int)=q:=⟨_,rfl⟩;rw[ac]at H t p a;obtain⟨x3,ad⟩:∃q,x2+(nMs m.bag:Int)=q:=⟨_,rfl⟩;rw[ad]at t p a;obtain⟨x4,ae⟩:∃q,k+nKm m=q:=⟨_,rfl⟩;rw[ae]at p ⊢;clear ab ac ad ae kk hh;obtain⟨N,D⟩:∃q,m.now=q:=⟨_,rfl⟩;obtain⟨O,E⟩:∃q,m.rst=q:=⟨_,rfl⟩;obtain⟨r,s⟩:∃q,m.gone=q:=⟨_,rfl⟩;rw[D,E,s]at a ⊢;clear D E s
 have bx:=World.alloc_heap_new w (.cells #[.int .i64 N,.int .i64 kj,.slice o nj c,.int .i64 sf,.int .i64 kp,.slice ob np cb,.slice oR nr cR,.slice ot nt ct,.slice oa na ca,.slice om nm cm,.slice G F C,.int .i64 O,.int .i64 r] 39);have g:Below w.heap.size w (w.alloc (.cells #[.int .i64 N,.int .i64 kj,.slice o nj c,.int .i64 sf,.int .i64 kp,.slice ob np cb,.slice oR nr cR,.slice ot nt ct,.slice oa na ca,.slice om nm cm,.slice G F C,.int .i64 O,.int .i64 r] 39)):=KBq.alloc (Kaq _) _;have I1:=Q00 (i1.step (Stp.of (lo:=0) (hi:=0) g) (.inl (Kcq _)))
 have I2:=Q00 ((InE.stp _ _).go i2 (Stp.of (lo:=0) (hi:=0) g) (.inl (Kcq _)));have I3:=Q00 ((InE.stp _ _).go i3 (Stp.of (lo:=0) (hi:=0) g) (.inl (Kcq _)));have I:=Q00 (InRow.step i4 (Stp.of (lo:=0) (hi:=0) g) (.inl (Kcq _)));have u:=Q00 (Stp.of (lo:=lo) (hi:=hi) g);have HZ:=Q00 g.size;obtain⟨P,R,T,U,V,X,Y,Z,z8,z9,j,l,n,_⟩:=Q1b bx;have x:=Q00 bx;clear bx g i1 i2 i3 i4 L;go_enter Tryz.func14,Tryz.ntmps14;go_wp2_with fail
 generalize (w.alloc (.cells #[.int .i64 N,.int .i64 kj,.slice o nj c,.int .i64 sf,.int .i64 kp,.slice ob np cb,.slice oR nr cR,.slice ot nt ct,.slice oa na ca,.slice om nm cm,.slice G F C,.int .i64 O,.int .i64 r] 39))=W0 at *;refine(aa.out W0 HZ.out I1.out).mono ?_;rintro e w1 ⟨rfl,j1,s1⟩;have J:=Q00 j1;have y:=Q00 s1;have i:=d.out;have h:=HH.out;replace I2:=Q00 ((InE.stp _ _).go I2.out y.out (by omega));replace I3:=Q00 ((InE.stp _ _).go I3.out y.out (by omega));replace I:=Q00 (InRow.step I.out y.out (by omega));replace x:=Q00 (y.out.box x.out (by omega))
 replace u:=Q00 (u.out.trans (⟨y.out.os,y.out.tape,y.out.output,y.out.size,fun k M hn=>y.out.block k M (by have:=d.out;omega)⟩:Stp lo hi _ _));clear s1 j1 i h;clear P R T U V X Y Z z8 z9 j l n;obtain⟨P,R,T,U,V,X,Y,Z,z8,z9,j,l,n,_⟩:=Q1b x.out;go_wp2_with fail;refine(H.out w1 I2.out).mono ?_;rintro e w2 ⟨rfl,j2,s2⟩;have J2:=Q00 j2;have z:=Q00 s2;have i:=d.out;have h:=HH.out;replace J:=Q00 (J.out.step z.out (by omega));replace I3:=Q00 ((InE.stp _ _).go I3.out z.out (by omega));replace I:=Q00 (InRow.step I.out z.out (by omega))
 replace x:=Q00 (z.out.box x.out (by omega));replace u:=Q00 (u.out.trans (⟨z.out.os,z.out.tape,z.out.output,z.out.size,fun k M hn=>z.out.block k M (by have:=d.out;omega)⟩:Stp lo hi _ _));clear s2 j2 i h;clear P R T U V X Y Z z8 z9 j l n;obtain⟨P,R,T,U,V,X,Y,Z,z8,z9,j,l,n,_⟩:=Q1b x.out;go_wp2_with fail;refine(t.out w2 I3.out).mono ?_;rintro e w3 ⟨rfl,j3,s3⟩;have J3:=Q00 j3;have A:=Q00 s3;have i:=d.out;have h:=HH.out;replace J:=Q00 (J.out.step A.out (by omega));replace J2:=Q00 ((InE.stp _ _).go J2.out A.out (by omega))
 replace I:=Q00 (InRow.step I.out A.out (by omega));replace x:=Q00 (A.out.box x.out (by omega));replace u:=Q00 (u.out.trans (⟨A.out.os,A.out.tape,A.out.output,A.out.size,fun k M hn=>A.out.block k M (by have:=d.out;omega)⟩:Stp lo hi _ _));clear s3 j3 i h;clear P R T U V X Y Z z8 z9 j l n;obtain⟨P,R,T,U,V,X,Y,Z,z8,z9,j,l,n,_⟩:=Q1b x.out;go_wp2_with fail;refine(p.out w3 I.out).mono ?_;rintro e w4 ⟨rfl,j4,s4⟩;have J4:=Q00 j4;have B:=Q00 s4;have i:=d.out;have h:=HH.out;replace J:=Q00 (J.out.step B.out (by omega))
 replace J2:=Q00 ((InE.stp _ _).go J2.out B.out (by omega));replace J3:=Q00 ((InE.stp _ _).go J3.out B.out (by omega));replace u:=Q00 (u.out.trans (⟨B.out.os,B.out.tape,B.out.output,B.out.size,fun k M hn=>B.out.block k M (by have:=d.out;omega)⟩:Stp lo hi _ _));clear s4 j4 i h;clear P R T U V X Y Z z8 z9 j l n;go_wp2;go_ret;exact⟨rfl,a.out _ J.out J2.out J3.out J4.out,u.out⟩
theorem Q7T {H η α:Type} {enc:TypeId × Value->H} {P:Program} {W:World} {t e:TypeId} {r:Nat} {cs:List Value} {x:DataW H × List MemPlace} (E:El η α) (Z:α->Prop) (X:P.underlying t=some (.slice e)) (N:P.cellsOf e=E.L.k)
  (C:∀(n:Nat) (cs:List Value) (y:DataW H × List MemPlace),cs.length=E.L.k->DataW.trod enc P W 0 (fun _=>true) true n e cs=some y->∃(a:η) (m:α),cs=E.L.cs a/\E.R 0 W.heap.size W (E.val a) m/\Z m)
  (h:DataW.trod enc P W 0 (fun _=>true) true r t cs=some x):
  ∃(o:Option Addr) (cap:Nat) (xs:List α),cs=[.slice o xs.length cap]/\xs.length<=maxLen/\RiE E 0 W.heap.size W (.slice o xs.length cap) xs/\∀i,i < xs.length->Z (xs.getD i E.d):=by
 rcases Go.Deep.open_slice X h with⟨l,_⟩|⟨a,len,cap,m,n,D,Pl,l,_,hl,hm,G,_,Y⟩
 ·exact⟨none,0,[],l,Kcq _,⟨[],rfl,⟨none,0,rfl,.inl rfl⟩,fun i hi=>absurd hi (KMq _)⟩,fun i hi=>absurd hi (KMq _)⟩
 ·have T:len<=m:=by rw[G];split <;> omega
  have O:∀i,i < len->∃y:η × α,(∀j,j < E.L.k->W.cell? (a.add (i * E.L.k+j))=(E.L.cs y.1)[j]?)/\E.R 0 W.heap.size W (E.val y.1) y.2/\Z y.2:=fun i hi=>by
   obtain⟨B,s,h2⟩:=Y i (by omega);rw[N]at s;obtain⟨_,u,g⟩:=World.cells?_some s;obtain⟨y,z,rfl,V,hz⟩:=C n B _ u h2;exact⟨(y,z),fun j F=>(by have:=g j F;rwa [Go.Deep.add_add]at this),V,hz⟩
  have U:Inhabited (η × α):=⟨(E.L.d,E.d)⟩;obtain⟨f,A⟩:=Go.Deep.choose_lt O
  have J:∀i,i < len->((List.range len).map (fun i=>(f i).2)).getD i E.d=(f i).2:=fun i hi=>by simp[hi]
  have M:∀i,i < len->((List.range len).map (fun i=>(f i).1)).getD i E.L.d=(f i).1:=fun i hi=>by simp[hi]
  refine⟨some a,cap,(List.range len).map (fun i=>(f i).2),by simpa using l,by simp;omega,⟨(List.range len).map (fun i=>(f i).1),by simp,⟨some a,cap,by simp, ?_⟩,fun i hi=>?_⟩,fun i hi=>?_⟩
  ·by_cases h0:len=0
   ·left;simp[h0]
   ·right
    obtain⟨b,q,v⟩:=a;have w:=(A 0 (by omega)).1 0 E.pos;rw[KGq (by rw[E.L.len];exact E.pos)]at w
    have p:v=none:=by simpa[Addr.add]using World.cell?_spot w
    subst p
    have I:∀j,(⟨b,q,none⟩:Addr).add j=⟨b,q+j,none⟩:=fun j=>by by_cases h:j=0 <;> simp[Addr.add,h]
    refine⟨b,q,rfl,Kcq _, ?_,fun i hi j F=>?_⟩
    ·rw[I]at w
     rcases Nat.lt_or_ge b W.heap.size with h|h
     ·exact h
     ·simp[World.cell?,Array.getElem?_eq_none h]at w
    ·have c:i < len:=by simpa using hi
     have s:=(A i c).1 j F;rw[I]at s;rw[M i c,<-s,Nat.add_assoc]
  ·have c:i < len:=by simpa using hi
   rw[J i c,M i c];exact(A i c).2.1
  ·have c:i < len:=by simpa using hi
   rw[J i c];exact(A i c).2.2
theorem Qau:Tryz.prog.cellsOf 171=5:=by kernel_rfl
theorem Q5d {H:Type} {enc:TypeId × Value->H} {W:World} {f:Nat} {cs:List Value} {x:DataW H × List MemPlace} (h:DataW.trod enc Tryz.prog W 0 (fun _=>true) true f 59 cs=some x):
  ∃(o:Option Addr) (cap:Nat) (xs:List Am),cs=[.slice o xs.length cap]/\xs.length<=maxLen/\RiE elA 0 W.heap.size W (.slice o xs.length cap) xs/\∀i,i < xs.length->(xs.getD i amD).c.length<=maxLen/\(xs.getD i amD).t.length<=maxLen:=by
 refine Q7T elA (fun m=>m.c.length<=maxLen/\m.t.length<=maxLen) Tryz.underlying59 Qau ?_ h;intro n cs y B G;have k:cs.length=5:=B
 match cs,k with
 |[c0,c1,c2,c3,c4],_=>
  obtain⟨xs,n,_,_,B,j,g⟩:=DataW.trod_struct Tryz.underlying171 G
  match xs,j with
  |[y0,y1,y2,y3,y4],_=>
   have v:=g 0 _ rfl;have w:=g 1 _ rfl;have h2:=g 2 _ rfl;have z:=g 3 _ rfl;have A:=g 4 _ rfl;simp[Q7S,Qc3,Q8d]at v w h2 z A;obtain⟨a,p,_,_⟩:=DataW.trod_int Tryz.underlying3 v;obtain⟨b,q,_,_⟩:=DataW.trod_int Tryz.underlying3 w;obtain⟨c,r,_⟩:=DataW.trod_bool Tryz.underlying4 h2;obtain⟨o,cap,l,s,E⟩:=Q23 rfl z;obtain⟨D,d,C,u,F⟩:=Q23 rfl A;simp at p q r s u;subst p q r s u;exact⟨⟨a,b,c,(o,l.length,cap),(D,C.length,d)⟩,⟨a,b,c,l,C⟩,rfl,⟨o,cap,D,d,rfl,RiV.of E.2,RiV.of F.2⟩,E.1,F.1⟩
theorem Q5R {H:Type} {enc:TypeId × Value->H} {W:World} {d:Nat} {cs:List Value} {x:DataW H × List MemPlace} (h:DataW.trod enc Tryz.prog W 0 (fun _=>true) true d 60 cs=some x):
  ∃(o:Option Addr) (cap:Nat) (xs:List Mm),cs=[.slice o xs.length cap]/\xs.length<=maxLen/\RiE elM 0 W.heap.size W (.slice o xs.length cap) xs/\∀i,i < xs.length->((xs.getD i mmD).c.l.length<=maxLen/\(xs.getD i mmD).c.g.length<=maxLen)/\isB (xs.getD i mmD).c.l:=by
 refine Q7T elM (fun m=>(m.c.l.length<=maxLen/\m.c.g.length<=maxLen)/\isB m.c.l) Tryz.underlying60 Q8B ?_ h;intro n cs y E F;have j:cs.length=12:=E
 match cs,j with
 |[c0,c1,c2,c3,c4,c5,c6,c7,c8,c9,c10,c11],_=>
  obtain⟨I,J,L,M,n,_,_,A,B,h2,C⟩:=trod_struct4 Tryz.underlying179 F;simp[Q4C,Q5S,Q1L]at A B h2 C;obtain⟨k,q,_,_⟩:=DataW.trod_int Tryz.underlying3 A;obtain⟨a,b,f,s,o,cap,l,D,p,g,pl,st,e,r⟩:=Q4S B;obtain⟨N,O,G,_,_,w,z⟩:=trod_struct2 Tryz.underlying71 h2;simp[Q4C]at w z;obtain⟨fa,t,_,_⟩:=DataW.trod_int Tryz.underlying3 w;obtain⟨fp,u,_,_⟩:=DataW.trod_int Tryz.underlying3 z;obtain⟨bk,v,_,_⟩:=DataW.trod_int Tryz.underlying3 C;simp at e q t u v;obtain⟨rfl,rfl,rfl,rfl,rfl,rfl,rfl,rfl⟩:=e;subst q t u v
  exact⟨⟨k,a,b,f,s,(o,l.length,cap),(D,g.length,p),pl,st,fa,fp,bk⟩,⟨k,⟨a,b,f,s,l,g,pl,st⟩,fa,fp,bk⟩,rfl,⟨o,cap,D,p,rfl,RiV.of (Q9V.2 r.2.1),RiV.of (Q6h.2 r.2.2.2.2)⟩,⟨r.1,r.2.2.2.1⟩,r.2.2.1⟩
theorem Qha {α:Type} {cs:Array α} (h:cs.size=13):∃d f g i j k l m n p a b c,cs=#[d,f,g,i,j,k,l,m,n,p,a,b,c]:=by
 match cs,h with
 |⟨[d,f,g,i,j,k,l,m,n,p,a,b,c]⟩,_=>exact⟨d,f,g,i,j,k,l,m,n,p,a,b,c,rfl⟩
theorem QcR:Tryz.prog.cellsOf 63=13:=by kernel_rfl
theorem QfZ:Tryz.prog.cellsOf 59=1:=by kernel_rfl
theorem Qgn:Tryz.prog.cellsOf 60=1:=by kernel_rfl
theorem Qg4:Tryz.prog.cellsOf 61=1:=by kernel_rfl
theorem Q7y {H:Type} {enc:TypeId × Value->H} {W:World} {c:Nat} {d f g h i j p:Value} {x:DataW H × List MemPlace} (Z:DataW.trod enc Tryz.prog W 0 (fun _=>true) true c 58 [d,f,g,h,i,j,p]=some x):
  ∃(m:Bm) (I:Int) (V:Value) (T J:Int) (U X Y:Value),[d,f,g,h,i,j,p]=[.int .i64 I,V,.int .i64 T,.int .i64 J,U,X,Y]/\RdBm W.heap.size W (Q5i I V T J U X Y) m/\Qh7 m:=by
 obtain⟨y0,y1,y2,n,_,_,F,G,h2⟩:=Go.Deep.trod_struct3 (cs:=[d,f,g,h,i,j,p]) Tryz.underlying58 Z;simp[QcM,Q9c,Q8d]at F G h2;obtain⟨z0,z1,z2,n0,_,_,L,M,N⟩:=Go.Deep.trod_struct3 Tryz.underlying50 F;simp[QaH,Q8X]at L M N;obtain⟨t0,t1,t2,n1,_,_,O,P,R⟩:=Go.Deep.trod_struct3 Tryz.underlying53 G;simp[QaH,Q6U,Q9G]at O P R;obtain⟨a,y,_,_⟩:=DataW.trod_int Tryz.underlying3 L;obtain⟨o,cap,l,z,l1,s⟩:=Q6s M;obtain⟨b,A,_,_⟩:=DataW.trod_int Tryz.underlying3 N;obtain⟨k,B,_,_⟩:=DataW.trod_int Tryz.underlying3 O;obtain⟨o2,v,l2,C,q,t⟩:=Q5X P
 obtain⟨oR,cR,ll,D,l3,rr,l4,l5⟩:=Q5I R;obtain⟨o6,w,l6,E,r,u⟩:=Q23 rfl h2;simp at y z A B C D E;subst y z A B C D E;exact⟨⟨⟨a,l,b⟩,⟨k,l2,ll⟩,l6⟩,_,_,_,_,_,_,_,rfl,⟨_,_,_,_,rfl,⟨_,rfl,_,_,rfl,s⟩,⟨_,_,rfl,RiV.of t,rr⟩,⟨_,rfl,_,_,rfl,u⟩⟩,⟨l1,⟨q,l3,l4,l5⟩,r⟩⟩
theorem Qal {H:Type} {enc:TypeId × Value->H} {W:World} {base:Nat} {v:Value} {d:DataW H} {p:List MemPlace}
  (hv:Value.okWide Tryz.prog W .any base 63 v) (h:DataW.Trod enc Tryz.prog W 0 (fun _=>true) true 63 v d p):
  ∃m:Km,RdKm W.heap.size W v m/\Qg1 m:=by
 obtain⟨cs,rfl,k⟩:=okWide_struct Tryz.underlying63 hv;obtain⟨X,Y,Z,c3,c4,c5,c6,c7,c8,c9,F,G,I,rfl⟩:=Qha (k.trans QcR);obtain⟨y,f⟩:=h;obtain⟨xs,n,_,_,hl,g,f⟩:=DataW.trod_struct Tryz.underlying63 f
 match xs,g with
 |[y0,y1,y2,y3,y4,y5,y6],_=>
  have z:=f 0 _ rfl;have A:=f 1 _ rfl;have h2:=f 2 _ rfl;have B:=f 3 _ rfl;have C:=f 4 _ rfl;have D:=f 5 _ rfl;have E:=f 6 _ rfl;simp[Value.cells,Q7S,Q9H,QfZ,Qgn,Qg4]at z A h2 B C D E;obtain⟨a,q,_,_⟩:=DataW.trod_int Tryz.underlying3 z;obtain⟨N,kj,vl,sf,kp,vb,vr,vt,r,P,lb⟩:=Q7y A;obtain⟨oa,ca,T,s,J,O,l⟩:=Q5d h2;obtain⟨om,cm,V,t,M,rm,j⟩:=Q5R B;obtain⟨og,cg,U,u,L,R⟩:=Q6c C;obtain⟨b,w,_,_⟩:=DataW.trod_int Tryz.underlying3 D;obtain⟨c,x,_,_⟩:=DataW.trod_int Tryz.underlying3 E;simp at q r s t u w x;obtain⟨rfl,rfl,rfl,rfl,rfl,rfl,rfl⟩:=r
  subst q s t u w x;exact⟨⟨a,N,T,V,U,b,c⟩,⟨_,_,_,_,_,_,_,_,_,_,rfl,P,O,rm,⟨_,_,rfl,R⟩⟩,lb,⟨J,l⟩,⟨M,fun i hi=>(j i hi).1⟩,L,fun i hi=>(j i hi).2⟩
end Go.Proofs.YteffhdcankkfkaaGreat
