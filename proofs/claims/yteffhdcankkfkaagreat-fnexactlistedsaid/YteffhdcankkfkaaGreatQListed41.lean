/- Several texts in one: SKOk, SKI1, SHint. -/
import Derived.Test.YteffhdcankkfkaaGreatQListed35
import Derived.Test.YteffhdcankkfkaaGreatQListed40
namespace Go.Proofs.YteffhdcankkfkaaGreat
open Go.ChangeShapes Go.WideShapes Go.ChangeAt Go.RowKit Go.Joins
set_option linter.unusedVariables false
set_option linter.unusedSimpArgs false
set_option maxRecDepth 100000
set_option maxHeartbeats 40000000
theorem Q2h (f:Nat->Bool) (k:Nat):(List.range (k+1)).all f=((List.range k).all f && f k):=by rw[List.range_succ,List.all_append];simp
theorem Q2A {f:Nat->Bool} {n k:Nat} (hk:k < n) (h:f k=false):(List.range n).all f=false:=by
 rw[List.all_eq_false];exact⟨k,List.mem_range.2 hk,by rw[h];simp⟩
def agF (xs:List Am) (i:Nat):Bool:=Q1f (xs.getD i amD) && decide ((xs.getD i amD).id=(i:Int))
def Qe4 (m:Mm):Bool:=Q4M m.k m.c.a m.c.b m.c.f m.c.s m.c.l.length m.c.g m.c.pl m.c.st m.fa m.fp m.bk
def mlF (now:Int) (xs:List Mm) (i:Nat):Bool:=Qe4 (xs.getD i mmD) && decide ((xs.getD i mmD).c.st<=now)
def Qi7 (g:Gt):Bool:=Q0g g.a g.p && decide (0<=g.bk) && decide (g.bk < 6) && decide (0<=g.sq) && decide (g.sq<=65535)
def gtF (xs:List Gt) (i:Nat):Bool:=Qi7 (xs.getD i gt0)
def QbZ (m:Km):Bool:=decide (0<=m.now) && decide (m.now<=99000) && Q4O m.bal && decide (m.ags.length=6) && decide (m.bag.length<=60) && decide (m.got.length<=1000) && decide (0<=m.rst) && decide (m.rst<=100000) && decide (0<=m.gone) && decide (m.gone<=100000)
def okK (m:Km):Bool:=QbZ m && (List.range m.ags.length).all (agF m.ags) && (List.range m.bag.length).all (mlF m.now m.bag) && (List.range m.got.length).all (gtF m.got)
theorem QgI {m:Km} (h:QbZ m=false):okK m=false:=by simp[okK,h]
theorem QeV {m:Km} (h:(List.range m.ags.length).all (agF m.ags)=false):okK m=false:=by unfold okK;rw[h];simp
theorem Qfl {m:Km} (h:(List.range m.bag.length).all (mlF m.now m.bag)=false):okK m=false:=by unfold okK;rw[h];simp
theorem Qh9 {m:Km} (h:(List.range m.got.length).all (gtF m.got)=false):okK m=false:=by unfold okK;rw[h];simp
theorem Qhq {m:Km} (a:QbZ m=true) (b:(List.range m.ags.length).all (agF m.ags)=true) (h2:(List.range m.bag.length).all (mlF m.now m.bag)=true) (c:(List.range m.got.length).all (gtF m.got)=true):okK m=true:=by unfold okK;rw[a,b,h2,c];rfl
theorem Q6F {m:Km}:QbZ m=true↔(0<=m.now/\m.now<=99000/\Q4O m.bal=true/\m.ags.length=6/\m.bag.length<=60/\m.got.length<=1000/\0<=m.rst/\m.rst<=100000/\0<=m.gone/\m.gone<=100000):=by simp[QbZ,and_assoc]
theorem QgD {m:Km} (h:¬(0<=m.now/\m.now<=99000/\Q4O m.bal=true/\m.ags.length=6/\m.bag.length<=60/\m.got.length<=1000/\0<=m.rst/\m.rst<=100000/\0<=m.gone/\m.gone<=100000)):okK m=false:=QgI (Bool.eq_false_iff.2 (fun e=>h (Q6F.1 e)))
theorem Qaq {C:Nat} {v:Value} {m:Bm} {w:World} {lo hi:Nat} (h:InBm lo hi w v m) (q:hi<=w.heap.size) (n:Q5m m) {a:World} (d:Below w.heap.size w a):
  Calls Tryz.prog 70 #[v] a fun e b=>e=.returned (.bool (Q4O m))/\Below a.heap.size a b:=by
 have k:=h.step (Stp.of (lo:=0) (hi:=0) d) (.inl (Kcq _));obtain⟨o,c,s,g,r,f,u,i,rfl,x,y,z,A⟩:=Q7J k (Kdq q d.size);exact Q9m m.j.key o m.j.l.length c m.j.safe m.p.key s m.p.l.length g r m.p.ring.length f u m.t.length i m.j.l m.p.l m.p.ring m.t a rfl rfl x y z A n
theorem Q5P (lo hi:Nat) (v:Value) (m:Km) (w:World) (h:InKm lo hi w v m) (hh:hi<=w.heap.size) (hf:Q9j m):
  Calls Tryz.prog 30 #[v] w fun e w'=>e=.returned (.bool (okK m))/\Below w.heap.size w w':=by
 obtain⟨kj,o,nj,c,sf,kp,ob,np,cb,oR,nr,cR,ot,nt,ct,oa,na,ca,om,X,cm,og,ng,cg,ev,r1,r2,r3,r4,ea,em,eg⟩:=(h.rd.le hh).opn
 have ap:Hid (∀W,Below w.heap.size w W->Calls Tryz.prog 70 #[(Q5i kj (.slice o nj c) sf kp (.slice ob np cb) (.slice oR nr cR) (.slice ot nt ct))] W fun e w'=>e=.returned (.bool (Q4O m.bal))/\Below W.heap.size W w'):=fun W E=>by
  obtain⟨aJ,vl,aL,aK,vb,vr,vt,va,vm,vg,b0,b1,a0,a1,m0,m1,g0,g1,e,k,i1,_⟩:=h;rw[ev]at e;simp only[Value.agg.injEq,Array.mk.injEq,List.cons.injEq,and_true,true_and,Value.int.injEq]at e;obtain⟨e1,e2,e3,e4,e5,e6,e7,_⟩:=e;subst e1 e2 e3 e4 e5 e6 e7;exact Qaq (C:=0) i1 (by omega) hf.1 E
 subst ev;obtain⟨f1,f2,f3,f4,f5⟩:=hf;have HA:=Q00 (fun i hi=>QiD f2 i hi);have HM:=Q00 (fun i hi=>QiB f3 f5 i hi);have aC:=Q00 r2;have aD:=Q00 r3;have aE:=Q00 r4;have HE:=Q00 (And.intro ea (And.intro em eg));obtain⟨u,aa⟩:∃q,m.now=q:=⟨_,rfl⟩;obtain⟨O,ab⟩:∃q,m.rst=q:=⟨_,rfl⟩;obtain⟨x,R⟩:∃q,m.gone=q:=⟨_,rfl⟩;obtain⟨bk,ai⟩:∃q,Q4O m.bal=q:=⟨_,rfl⟩;have HV:=Q00 (And.intro aa (And.intro ab (And.intro R ai)))
 have P:Hid (¬(0<=u/\u<=99000/\bk=true/\na=6/\X<=60/\ng<=1000/\0<=O/\O<=100000/\0<=x/\x<=100000)->okK m=false):=fun hn=>QgD (by rw[aa,ab,R,ai,<-ea,<-em,<-eg];exact hn)
 have ao:Hid ((0<=u/\u<=99000/\bk=true/\na=6/\X<=60/\ng<=1000/\0<=O/\O<=100000/\0<=x/\x<=100000)->QbZ m=true):=fun hn=>Q6F.2 (by rw[aa,ab,R,ai,<-ea,<-em,<-eg];exact hn)
 rw[ai]at ap;rw[aa,ab,R];have bx:=World.alloc_heap_new w (.cells #[.int .i64 u,.int .i64 kj,.slice o nj c,.int .i64 sf,.int .i64 kp,.slice ob np cb,.slice oR nr cR,.slice ot nt ct,.slice oa na ca,.slice om X cm,.slice og ng cg,.int .i64 O,.int .i64 x] 39);have aw:Below w.heap.size w (w.alloc (.cells #[.int .i64 u,.int .i64 kj,.slice o nj c,.int .i64 sf,.int .i64 kp,.slice ob np cb,.slice oR nr cR,.slice ot nt ct,.slice oa na ca,.slice om X cm,.slice og ng cg,.int .i64 O,.int .i64 x] 39)):=KBq.alloc (Kaq _) _
 obtain⟨J,z1,z2,z3,z4,z5,z6,z7,z8,L,A,y,z,_⟩:=Q1b bx;have G:=Q00 bx;have n:=Q00 aw;clear bx aw r1 r2 r3 r4 ea em eg f1 f2 f3 f4 f5 h aa ab R ai
 by_cases t0:u < 0
 ·go_enter Tryz.func30,Tryz.ntmps30
  go_wp2;go_ret;exact⟨by rw[P.out (by omega)];rfl,n.out⟩
 by_cases t1:99000 < u
 ·go_enter Tryz.func30,Tryz.ntmps30
  go_wp2;go_ret;exact⟨by rw[P.out (by omega)];rfl,n.out⟩
 go_enter Tryz.func30,Tryz.ntmps30;go_wp2_with fail;generalize (w.alloc (.cells #[.int .i64 u,.int .i64 kj,.slice o nj c,.int .i64 sf,.int .i64 kp,.slice ob np cb,.slice oR nr cR,.slice ot nt ct,.slice oa na ca,.slice om X cm,.slice og ng cg,.int .i64 O,.int .i64 x] 39))=W0 at *;refine(ap.out W0 n.out).mono ?_;rintro e w1 ⟨rfl,E⟩;replace G:=Q00 (Q0E G.out E);replace n:=Q00 (n.out.trans (E.mono n.out.size));clear E J z1 z2 z3 z4 z5 z6 z7 z8 L A y z ap;obtain⟨J,z1,z2,z3,z4,z5,z6,z7,z8,L,A,y,z,_⟩:=Q1b G.out
 cases bk with
 |false=>
  go_wp2;go_ret;exact⟨by rw[P.out (by simp)];rfl,n.out⟩
 |true=>
  by_cases t2:¬((na:Int)=6)
  ·go_wp2
   go_ret;exact⟨by rw[P.out (by omega)];rfl,n.out⟩
  by_cases t3:60 < (X:Int)
  ·go_wp2
   go_ret;exact⟨by rw[P.out (by omega)];rfl,n.out⟩
  by_cases t4:1000 < (ng:Int)
  ·go_wp2
   go_ret;exact⟨by rw[P.out (by omega)];rfl,n.out⟩
  by_cases t5:O < 0
  ·go_wp2
   go_ret;exact⟨by rw[P.out (by omega)];rfl,n.out⟩
  by_cases t6:100000 < O
  ·go_wp2
   go_ret;exact⟨by rw[P.out (by omega)];rfl,n.out⟩
  by_cases t7:x < 0
  ·go_wp2
   go_ret;exact⟨by rw[P.out (by omega)];rfl,n.out⟩
  by_cases t8:100000 < x
  ·go_wp2
   go_ret;exact⟨by rw[P.out (by omega)];rfl,n.out⟩
  have aB:=Q00 (ao.out (by refine⟨by omega,by omega,rfl,by omega,by omega,by omega,by omega,by omega,by omega,by omega⟩));go_wp2;clear P ao t0 t1 t2 t4 t5 t6 t7 t8 J z1 z2 z3 z4 z5 z6 z7 z8 L A y z
  go_loopw [3] (fun iv wr=> ∃i:Nat,i<=na/\iv=.int .i64 (i:Int)/\Hid ((List.range i).all (agF m.ags)=true)/\Hid (wr.heap[w.heap.size]? =some (.cells #[.int .i64 u,.int .i64 kj,.slice o nj c,.int .i64 sf,.int .i64 kp,.slice ob np cb,.slice oR nr cR,.slice ot nt ct,.slice oa na ca,.slice om X cm,.slice og ng cg,.int .i64 O,.int .i64 x] 39 (0,0)))/\Hid (Below w.heap.size w wr))
   (fun iv _=>na - (intOf iv).toNat)
  case atStart=>exact⟨0,Kcq _,rfl,rfl,G.out,n.out⟩
  case round=>
   obtain⟨i,hi,rfl,D,G,n⟩:=hrel
   by_cases hlt:i < na
   ·have y1:(i:Int) < (na:Int):=by omega
    obtain⟨a,ha⟩:∃a,m.ags.getD i amD=a:=⟨_,rfl⟩
    have M:i < m.ags.length:=by rw[<-HE.out.1];exact hlt
    obtain⟨b,j,o1,c1,o2,c2,aG,E,N,U,V,T,Y,rr,_⟩:=RiA.cells aC.out i M ha;subst aG;have ac:=HA.out i M;rw[ha]at ac;have ak:=Q00 (Q7C _ a wr (rr.on n.out) ac);replace N:=bCA n.out N E;replace U:=bCA n.out U E;replace V:=bCA n.out V E;replace T:=bCA n.out T E;replace Y:=bCA n.out Y E;obtain⟨q1,ad⟩:∃q,a.c.length=q:=⟨_,rfl⟩;obtain⟨q2,ae⟩:∃q,a.t.length=q:=⟨_,rfl⟩;rw[ad,ae]at ak;rw[ad]at T;rw[ae]at Y;obtain⟨B,hB⟩:∃B,Q1f a=B:=⟨_,rfl⟩;rw[hB]at ak;have HF:=Q00 (show agF m.ags i=(B && decide (a.id=(i:Int)))by unfold agF;rw[ha,hB])
    have r:b < wr.heap.size:=Kbq E n.out.size;obtain⟨J,z1,z2,z3,z4,z5,z6,z7,z8,L,A,y,z,_⟩:=Q1b G.out;clear J z1 z2 z3 z4 z5 z6 z7 L A y z;have P0:=Q00 N;clear ad ae hB ha M ac rr;go_wp2_with fail;refine ak.out.mono ?_;rintro e w2 ⟨rfl,al⟩;replace G:=Q00 (Q0E G.out al);replace n:=Q00 (n.out.trans (al.mono n.out.size));clear z8 N U V T Y ak;have N:=bCA al P0.out r;clear al P0;obtain⟨J,z1,z2,z3,z4,z5,z6,z7,z8,L,A,y,z,_⟩:=Q1b G.out;clear J z1 z2 z3 z4 z5 z6 z7 L A y z
    cases B with
    |false=>
     go_wp2;go_ret;exact⟨by rw[QeV (Q2A (by rw[<-HE.out.1];exact hlt) (by rw[HF.out];rfl))];rfl,n.out⟩
    |true=>
     by_cases hid:a.id=(i:Int)
     ·have HS:Hid ((List.range (i+1)).all (agF m.ags)=true):=by unfold Hid;rw[Q2h,D.out,HF.out,hid];simp
      rw[hid]at N;go_wp2;go_roundw
      case rel=>exact⟨i+1,by omega,by go_num,HS.out,G.out,n.out⟩
      case measure=>simp[intOf];omega
     ·go_wp2
      go_ret;exact⟨by rw[QeV (Q2A (by rw[<-HE.out.1];exact hlt) (by rw[HF.out];simp[hid]))];rfl,n.out⟩
   ·have e:i=na:=by omega
    have ay:Hid ((List.range m.ags.length).all (agF m.ags)=true):=by unfold Hid;rw[<-HE.out.1,<-e];exact D.out
    have am:¬((i:Int) < (na:Int)):=by omega
    obtain⟨J,z1,z2,z3,z4,z5,z6,z7,z8,L,A,y,z,_⟩:=Q1b G.out;clear J z1 z2 z3 z4 z5 z6 z7 L A y z;go_wp2;clear z8 am e D
    go_loopw [4] (fun iv wr=> ∃i:Nat,i<=X/\iv=.int .i64 (i:Int)/\Hid ((List.range i).all (mlF u m.bag)=true)/\Hid (wr.heap[w.heap.size]? =some (.cells #[.int .i64 u,.int .i64 kj,.slice o nj c,.int .i64 sf,.int .i64 kp,.slice ob np cb,.slice oR nr cR,.slice ot nt ct,.slice oa na ca,.slice om X cm,.slice og ng cg,.int .i64 O,.int .i64 x] 39 (0,0)))/\Hid (Below w.heap.size w wr))
     (fun iv _=>X - (intOf iv).toNat)
    case atStart=>exact⟨0,Kcq _,rfl,rfl,G.out,n.out⟩
    case round=>
     obtain⟨i,hi,rfl,D,G,n⟩:=hrel
     by_cases hlt:i < X
     ·have y1:(i:Int) < (X:Int):=by omega
      obtain⟨a,ha⟩:∃a,m.bag.getD i mmD=a:=⟨_,rfl⟩
      have M:i < m.bag.length:=by rw[<-HE.out.2.1];exact hlt
      obtain⟨b,j,o1,c1,o2,c2,aI,E,N,U,V,T,Y,p5,p6,p7,p8,p9,H,I,rr,_⟩:=RiM.cells aD.out i M ha;subst aI;have ac:=HM.out i M;rw[ha]at ac
      have ah:Hid (∀W,Below w.heap.size w W->Calls Tryz.prog 72 #[mlv a.k a.c.a a.c.b a.c.f a.c.s (.slice o1 a.c.l.length c1) (.slice o2 a.c.g.length c2) a.c.pl a.c.st a.fa a.fp a.bk] W fun e w'=>e=.returned (.bool (Qe4 a))/\Below W.heap.size W w'):=fun W hW=>Q8H _ a W (rr.on hW) ac
      replace N:=bCA n.out N E;replace U:=bCA n.out U E;replace V:=bCA n.out V E;replace T:=bCA n.out T E;replace Y:=bCA n.out Y E;replace p5:=bCA n.out p5 E;replace p6:=bCA n.out p6 E;replace p7:=bCA n.out p7 E;replace p8:=bCA n.out p8 E;replace p9:=bCA n.out p9 E;replace H:=bCA n.out H E;replace I:=bCA n.out I E;obtain⟨q1,ad⟩:∃q,a.c.l.length=q:=⟨_,rfl⟩;obtain⟨q2,ae⟩:∃q,a.c.g.length=q:=⟨_,rfl⟩;rw[ad,ae]at ah;rw[ad]at p5;rw[ae]at p6;obtain⟨B,hB⟩:∃B,Qe4 a=B:=⟨_,rfl⟩;rw[hB]at ah
      have HF:=Q00 (show mlF u m.bag i=(B && decide (a.c.st<=u))by unfold mlF;rw[ha,hB]);have r:b < wr.heap.size:=Kbq E n.out.size;have ag:w.heap.size < wr.heap.size:=Qip G.out;obtain⟨J,z1,z2,z3,z4,z5,z6,z7,z8,L,A,y,z,_⟩:=Q1b G.out;clear z1 z2 z3 z4 z5 z6 z7 z8 A y z;clear ad ae hB ha M ac rr
      cases B with
      |false=>
       go_wp2
       refine wp_region_held_drew (S:=fun w'=>w'.cell? ⟨w.heap.size,9,none⟩=some (.slice (some ⟨b,j,none⟩) X cm)/\w'.cell? ⟨w.heap.size,0,none⟩=some (.int .i64 u)/\w'.cell? ⟨b,j+i * 12,none⟩=some (.int .i64 a.k)/\w'.cell? ⟨b,j+i * 12+1,none⟩=some (.int .i64 a.c.a)/\w'.cell? ⟨b,j+i * 12+2,none⟩=some (.int .i64 a.c.b)/\w'.cell? ⟨b,j+i * 12+3,none⟩=some (.int .i64 a.c.f)/\w'.cell? ⟨b,j+i * 12+4,none⟩=some (.int .i64 a.c.s)/\w'.cell? ⟨b,j+i * 12+5,none⟩=some (.slice o1 q1 c1)/\w'.cell? ⟨b,j+i * 12+6,none⟩=some (.slice o2 q2 c2)/\w'.cell? ⟨b,j+i * 12+7,none⟩=some (.int .i64 a.c.pl)/\w'.cell? ⟨b,j+i * 12+8,none⟩=some (.int .i64 a.c.st)/\w'.cell? ⟨b,j+i * 12+9,none⟩=some (.int .i64 a.fa)/\w'.cell? ⟨b,j+i * 12+10,none⟩=some (.int .i64 a.fp)/\w'.cell? ⟨b,j+i * 12+11,none⟩=some (.int .i64 a.bk)) (by kernel_rfl) ?hS (fun hHeld=>?rest)
       case hS=>(try dsimp only);exact⟨L,J,N,U,V,T,Y,p5,p6,p7,p8,p9,H,I⟩
       case rest=>
       refine wpAnyH_take (i:=0) (v:= ?v0) rfl (by kernel_rfl) (by kernel_rfl) (by kernel_rfl) (fun _ _ _ h=>h) (Or.inl ⟨by rfl, ?hy0⟩) (by assumption) ?rest0
       case hy0=>(intro W F;(try dsimp only at F);go_simp;try with_reducible rfl)
       case rest0=>
       try simp only[List.getElem_toArray,List.getElem_cons_zero,List.getElem_cons_succ,Act.put,List.setIfInBounds_toArray,List.set_cons_zero,List.set_cons_succ]
       refine wpAnyH_take (i:=1) (v:= ?v1) rfl (by kernel_rfl) (by kernel_rfl) (by kernel_rfl) (fun _ _ _ h=>h) (Or.inl ⟨by rfl, ?hy1⟩) (by assumption) ?rest1
       case hy1=>(intro W F;(try dsimp only at F);go_simp;try with_reducible rfl)
       case rest1=>
       try simp only[List.getElem_toArray,List.getElem_cons_zero,List.getElem_cons_succ,Act.put,List.setIfInBounds_toArray,List.set_cons_zero,List.set_cons_succ]
       refine wpAnyH_take (i:=2) (v:= ?v2) rfl (by kernel_rfl) (by kernel_rfl) (by kernel_rfl) (fun _ _ _ h=>h) (Or.inl ⟨by rfl, ?hy2⟩) (by assumption) ?rest2
       case hy2=>(intro W F;(try dsimp only at F);go_simp;try with_reducible rfl)
       case rest2=>
       try simp only[List.getElem_toArray,List.getElem_cons_zero,List.getElem_cons_succ,Act.put,List.setIfInBounds_toArray,List.set_cons_zero,List.set_cons_succ]
       refine wpAnyH_take (i:=3) (v:= ?v3) rfl (by kernel_rfl) (by kernel_rfl) (by kernel_rfl) (fun _ _ _ h=>h) (Or.inl ⟨by rfl, ?hy3⟩) (by assumption) ?rest3
       case hy3=>(intro W F;(try dsimp only at F);go_simp;try with_reducible rfl)
       case rest3=>
       try simp only[List.getElem_toArray,List.getElem_cons_zero,List.getElem_cons_succ,Act.put,List.setIfInBounds_toArray,List.set_cons_zero,List.set_cons_succ]
       refine wpAnyH_take (i:=4) (v:= ?v4) rfl (by kernel_rfl) (by kernel_rfl) (by kernel_rfl) (fun _ _ _ h=>h) (Or.inl ⟨by rfl, ?hy4⟩) (by assumption) ?rest4
       case hy4=>(intro W F;(try dsimp only at F);go_simp;try with_reducible rfl)
       case rest4=>
       try simp only[List.getElem_toArray,List.getElem_cons_zero,List.getElem_cons_succ,Act.put,List.setIfInBounds_toArray,List.set_cons_zero,List.set_cons_succ]
       refine wpAnyH_ready (rs:=[5]) (by kernel_rfl) (by simp) ?_;refine AllReadyH.cons rfl (fun K hK=>?_) AllReadyH.nil
       go_simp
       go_at_call 72;refine(ah.out _ (KHq n.out)).mono ?_;rintro e w2 ⟨rfl,d⟩;replace d:Below wr.heap.size wr w2:=(KHq KBq).trans d;have L:=bCA d L ag;have J:=bCA d J ag;have N:=bCA d N r;have U:=bCA d U r;have V:=bCA d V r;have T:=bCA d T r;have Y:=bCA d Y r;have p5:=bCA d p5 r;have p6:=bCA d p6 r;have p7:=bCA d p7 r;have p8:=bCA d p8 r;have p9:=bCA d p9 r;have H:=bCA d H r;have I:=bCA d I r;go_wp2_with fail;refine hK.out _ _ ?hS2 (fun hHeld2=>?restK)
       case hS2=>(try dsimp only);exact⟨L,J,N,U,V,T,Y,p5,p6,p7,p8,p9,H,I⟩
       case restK=>
       clear hK K hHeld
       try simp only[List.getElem_toArray,List.getElem_cons_zero,List.getElem_cons_succ,Act.put,List.setIfInBounds_toArray,List.set_cons_zero,List.set_cons_succ]
       refine wpAnyH_take (i:=6) (v:= ?v6) rfl (by kernel_rfl) (by kernel_rfl) (by kernel_rfl) (fun _ _ _ h=>h) (Or.inl ⟨by rfl, ?hy6⟩) (by assumption) ?rest6
       case hy6=>(intro W F;(try dsimp only at F);go_simp;try with_reducible rfl)
       case rest6=>
       try simp only[List.getElem_toArray,List.getElem_cons_zero,List.getElem_cons_succ,Act.put,List.setIfInBounds_toArray,List.set_cons_zero,List.set_cons_succ]
       refine wpAnyH_take (i:=7) (v:= ?v7) rfl (by kernel_rfl) (by kernel_rfl) (by kernel_rfl) (fun _ _ _ h=>h) (Or.inl ⟨by rfl, ?hy7⟩) (by assumption) ?rest7
       case hy7=>(intro W F;(try dsimp only at F);go_simp;try with_reducible rfl)
       case rest7=>
       try simp only[List.getElem_toArray,List.getElem_cons_zero,List.getElem_cons_succ,Act.put,List.setIfInBounds_toArray,List.set_cons_zero,List.set_cons_succ]
       refine wpAnyH_take (i:=8) (v:=undef) rfl (by kernel_rfl) (by kernel_rfl) (by kernel_rfl) (fun _ _ _ h=>h) (Or.inr ⟨by go_simp,rfl⟩) (by assumption) ?_
       try simp only[List.getElem_toArray,List.getElem_cons_zero,List.getElem_cons_succ,Act.put,List.setIfInBounds_toArray,List.set_cons_zero,List.set_cons_succ]
       refine wpAnyH_take (i:=9) (v:=undef) rfl (by kernel_rfl) (by kernel_rfl) (by kernel_rfl) (fun _ _ _ h=>h) (Or.inr ⟨by go_simp,rfl⟩) (by assumption) ?_
       try simp only[List.getElem_toArray,List.getElem_cons_zero,List.getElem_cons_succ,Act.put,List.setIfInBounds_toArray,List.set_cons_zero,List.set_cons_succ]
       refine wpAnyH_take (i:=10) (v:=undef) rfl (by kernel_rfl) (by kernel_rfl) (by kernel_rfl) (fun _ _ _ h=>h) (Or.inr ⟨by go_simp,rfl⟩) (by assumption) ?_
       try simp only[List.getElem_toArray,List.getElem_cons_zero,List.getElem_cons_succ,Act.put,List.setIfInBounds_toArray,List.set_cons_zero,List.set_cons_succ]
       refine wpAnyH_take (i:=11) (v:=undef) rfl (by kernel_rfl) (by kernel_rfl) (by kernel_rfl) (fun _ _ _ h=>h) (Or.inr ⟨by go_simp,rfl⟩) (by assumption) ?_
       try simp only[List.getElem_toArray,List.getElem_cons_zero,List.getElem_cons_succ,Act.put,List.setIfInBounds_toArray,List.set_cons_zero,List.set_cons_succ]
       refine wpAnyH_take (i:=12) (v:=undef) rfl (by kernel_rfl) (by kernel_rfl) (by kernel_rfl) (fun _ _ _ h=>h) (Or.inr ⟨by go_simp,rfl⟩) (by assumption) ?_
       try simp only[List.getElem_toArray,List.getElem_cons_zero,List.getElem_cons_succ,Act.put,List.setIfInBounds_toArray,List.set_cons_zero,List.set_cons_succ]
       refine wpAnyH_take (i:=13) (v:=undef) rfl (by kernel_rfl) (by kernel_rfl) (by kernel_rfl) (fun _ _ _ h=>h) (Or.inr ⟨by go_simp,rfl⟩) (by assumption) ?_
       try simp only[List.getElem_toArray,List.getElem_cons_zero,List.getElem_cons_succ,Act.put,List.setIfInBounds_toArray,List.set_cons_zero,List.set_cons_succ]
       refine wpAnyH_take (i:=14) (v:=undef) rfl (by kernel_rfl) (by kernel_rfl) (by kernel_rfl) (fun _ _ _ h=>h) (Or.inr ⟨by go_simp,rfl⟩) (by assumption) ?_
       try simp only[List.getElem_toArray,List.getElem_cons_zero,List.getElem_cons_succ,Act.put,List.setIfInBounds_toArray,List.set_cons_zero,List.set_cons_succ]
       refine wpAnyH_take (i:=15) (v:=undef) rfl (by kernel_rfl) (by kernel_rfl) (by kernel_rfl) (fun _ _ _ h=>h) (Or.inr ⟨by go_simp,rfl⟩) (by assumption) ?_
       try simp only[List.getElem_toArray,List.getElem_cons_zero,List.getElem_cons_succ,Act.put,List.setIfInBounds_toArray,List.set_cons_zero,List.set_cons_succ]
       refine wpAnyH_take (i:=16) (v:=undef) rfl (by kernel_rfl) (by kernel_rfl) (by kernel_rfl) (fun _ _ _ h=>h) (Or.inr ⟨by go_simp,rfl⟩) (by assumption) ?_
       try simp only[List.getElem_toArray,List.getElem_cons_zero,List.getElem_cons_succ,Act.put,List.setIfInBounds_toArray,List.set_cons_zero,List.set_cons_succ]
       refine wpAnyH_take (i:=17) (v:=undef) rfl (by kernel_rfl) (by kernel_rfl) (by kernel_rfl) (fun _ _ _ h=>h) (Or.inr ⟨by go_simp,rfl⟩) (by assumption) ?_
       try simp only[List.getElem_toArray,List.getElem_cons_zero,List.getElem_cons_succ,Act.put,List.setIfInBounds_toArray,List.set_cons_zero,List.set_cons_succ]
       refine wpAnyH_take (i:=18) (v:= ?v18) rfl (by kernel_rfl) (by kernel_rfl) (by kernel_rfl) (fun _ _ _ h=>h) (Or.inl ⟨by rfl, ?hy18⟩) (by assumption) ?rest18
       case hy18=>(intro W F;(try dsimp only at F);go_simp;try with_reducible rfl)
       case rest18=>
       try simp only[List.getElem_toArray,List.getElem_cons_zero,List.getElem_cons_succ,Act.put,List.setIfInBounds_toArray,List.set_cons_zero,List.set_cons_succ]
       refine wpAnyH_done (by kernel_rfl) ?_ _;replace n:=Q00 (n.out.trans (d.mono n.out.size));go_wp2;go_ret;exact⟨by rw[Qfl (Q2A (by rw[<-HE.out.2.1];exact hlt) (by rw[HV.out.1,HF.out];rfl))];rfl,n.out⟩
      |true=>
       by_cases hst:u < a.c.st
       ·go_wp2
        go_region_held3 (fun w'=>w'.cell? ⟨w.heap.size,9,none⟩=some (.slice (some ⟨b,j,none⟩) X cm)/\w'.cell? ⟨w.heap.size,0,none⟩=some (.int .i64 u)/\w'.cell? ⟨b,j+i * 12,none⟩=some (.int .i64 a.k)/\w'.cell? ⟨b,j+i * 12+1,none⟩=some (.int .i64 a.c.a)/\w'.cell? ⟨b,j+i * 12+2,none⟩=some (.int .i64 a.c.b)/\w'.cell? ⟨b,j+i * 12+3,none⟩=some (.int .i64 a.c.f)/\w'.cell? ⟨b,j+i * 12+4,none⟩=some (.int .i64 a.c.s)/\w'.cell? ⟨b,j+i * 12+5,none⟩=some (.slice o1 q1 c1)/\w'.cell? ⟨b,j+i * 12+6,none⟩=some (.slice o2 q2 c2)/\w'.cell? ⟨b,j+i * 12+7,none⟩=some (.int .i64 a.c.pl)/\w'.cell? ⟨b,j+i * 12+8,none⟩=some (.int .i64 a.c.st)/\w'.cell? ⟨b,j+i * 12+9,none⟩=some (.int .i64 a.fa)/\w'.cell? ⟨b,j+i * 12+10,none⟩=some (.int .i64 a.fp)/\w'.cell? ⟨b,j+i * 12+11,none⟩=some (.int .i64 a.bk)) (first|exact⟨L,J,N,U,V,T,Y,p5,p6,p7,p8,p9,H,I⟩) (first|(go_at_call 72;refine(ah.out _ (KHq n.out)).mono ?_;rintro e w2 ⟨rfl,d⟩;replace d:Below wr.heap.size wr w2:=(KHq KBq).trans d;have L:=bCA d L ag;have J:=bCA d J ag;have N:=bCA d N r;have U:=bCA d U r;have V:=bCA d V r;have T:=bCA d T r;have Y:=bCA d Y r;have p5:=bCA d p5 r;have p6:=bCA d p6 r;have p7:=bCA d p7 r;have p8:=bCA d p8 r;have p9:=bCA d p9 r;have H:=bCA d H r;have I:=bCA d I r))
        replace n:=Q00 (n.out.trans (d.mono n.out.size));go_wp2;go_ret;exact⟨by rw[Qfl (Q2A (by rw[<-HE.out.2.1];exact hlt) (by rw[HV.out.1,HF.out];simp;omega))];rfl,n.out⟩
       ·have HS:Hid ((List.range (i+1)).all (mlF u m.bag)=true):=by unfold Hid;rw[Q2h,D.out,HF.out];simp;omega
        go_wp2
        go_region_held3 (fun w'=>w'.cell? ⟨w.heap.size,9,none⟩=some (.slice (some ⟨b,j,none⟩) X cm)/\w'.cell? ⟨w.heap.size,0,none⟩=some (.int .i64 u)/\w'.cell? ⟨b,j+i * 12,none⟩=some (.int .i64 a.k)/\w'.cell? ⟨b,j+i * 12+1,none⟩=some (.int .i64 a.c.a)/\w'.cell? ⟨b,j+i * 12+2,none⟩=some (.int .i64 a.c.b)/\w'.cell? ⟨b,j+i * 12+3,none⟩=some (.int .i64 a.c.f)/\w'.cell? ⟨b,j+i * 12+4,none⟩=some (.int .i64 a.c.s)/\w'.cell? ⟨b,j+i * 12+5,none⟩=some (.slice o1 q1 c1)/\w'.cell? ⟨b,j+i * 12+6,none⟩=some (.slice o2 q2 c2)/\w'.cell? ⟨b,j+i * 12+7,none⟩=some (.int .i64 a.c.pl)/\w'.cell? ⟨b,j+i * 12+8,none⟩=some (.int .i64 a.c.st)/\w'.cell? ⟨b,j+i * 12+9,none⟩=some (.int .i64 a.fa)/\w'.cell? ⟨b,j+i * 12+10,none⟩=some (.int .i64 a.fp)/\w'.cell? ⟨b,j+i * 12+11,none⟩=some (.int .i64 a.bk)) (first|exact⟨L,J,N,U,V,T,Y,p5,p6,p7,p8,p9,H,I⟩) (first|(go_at_call 72;refine(ah.out _ (KHq n.out)).mono ?_;rintro e w2 ⟨rfl,d⟩;replace d:Below wr.heap.size wr w2:=(KHq KBq).trans d;have L:=bCA d L ag;have J:=bCA d J ag;have N:=bCA d N r;have U:=bCA d U r;have V:=bCA d V r;have T:=bCA d T r;have Y:=bCA d Y r;have p5:=bCA d p5 r;have p6:=bCA d p6 r;have p7:=bCA d p7 r;have p8:=bCA d p8 r;have p9:=bCA d p9 r;have H:=bCA d H r;have I:=bCA d I r))
        replace n:=Q00 (n.out.trans (d.mono n.out.size));replace G:=Q00 (Q0E G.out d);clear d J L N U V T Y p5 p6 p7 p8 p9 H I;go_wp2;go_roundw
        case rel=>exact⟨i+1,by omega,by go_num,HS.out,G.out,n.out⟩
        case measure=>simp[intOf];omega
     ·have e:i=X:=by omega
      have az:Hid ((List.range m.bag.length).all (mlF u m.bag)=true):=by unfold Hid;rw[<-HE.out.2.1,<-e];exact D.out
      have am:¬((i:Int) < (X:Int)):=by omega
      obtain⟨J,z1,z2,z3,z4,z5,z6,z7,z8,L,A,y,z,_⟩:=Q1b G.out;clear J z1 z2 z3 z4 z5 z6 z7 z8 A y z;go_wp2;clear L am e D
      go_loopw [5] (fun iv wr=> ∃i:Nat,i<=ng/\iv=.int .i64 (i:Int)/\Hid ((List.range i).all (gtF m.got)=true)/\Hid (wr.heap[w.heap.size]? =some (.cells #[.int .i64 u,.int .i64 kj,.slice o nj c,.int .i64 sf,.int .i64 kp,.slice ob np cb,.slice oR nr cR,.slice ot nt ct,.slice oa na ca,.slice om X cm,.slice og ng cg,.int .i64 O,.int .i64 x] 39 (0,0)))/\Hid (Below w.heap.size w wr))
       (fun iv _=>ng - (intOf iv).toNat)
      case atStart=>exact⟨0,Kcq _,rfl,rfl,G.out,n.out⟩
      case round=>
       obtain⟨i,hi,rfl,D,G,n⟩:=hrel
       by_cases hlt:i < ng
       ·have y1:(i:Int) < (ng:Int):=by omega
        have M:i < m.got.length:=by rw[<-HE.out.2.2];exact hlt
        obtain⟨a,ha⟩:∃a,m.got.getD i gt0=a:=⟨_,rfl⟩;obtain⟨o',c',aF,rg⟩:=aE.out;injection aF with eg1 eg2 eg3;clear eg2 eg3;subst eg1
        rcases rg with rg|⟨b,j,aH,E,rg⟩
        ·rw[rg]at M;exact absurd M (KMq _)
        subst aH;obtain⟨N,U,V,T⟩:=RdL.gt (C:=w.heap.size) rg i M;rw[ha]at N U V T;replace N:=bCA n.out N E;replace U:=bCA n.out U E;replace V:=bCA n.out V E;replace T:=bCA n.out T E;have HF:=Q00 (show gtF m.got i=Qi7 a by unfold gtF;rw[ha]);have r:b < wr.heap.size:=Kbq E n.out.size;have bg:=World.alloc_heap_new wr (.cells #[.int .i64 a.a,.int .i64 a.p,.int .i64 a.bk,.int .i64 a.sq] 143);have ax:Below wr.heap.size wr (wr.alloc (.cells #[.int .i64 a.a,.int .i64 a.p,.int .i64 a.bk,.int .i64 a.sq] 143)):=KBq.alloc (Kaq _) _;have g0:=Q05 bg 0 _ rfl
        have g1:=Q05 bg 1 _ rfl;have an:=Q00 bg;have au:=Q00 ax;obtain⟨J,z1,z2,z3,z4,z5,z6,z7,z8,L,A,y,z,_⟩:=Q1b G.out;clear J z1 z2 z3 z4 z5 z6 z7 z8 L y z;clear ha M rg bg ax;go_wp2_with fail;have av:=an.out;have aj:=au.out;clear an au g0 g1 A N U V T;generalize wr.alloc (.cells #[.int .i64 a.a,.int .i64 a.p,.int .i64 a.bk,.int .i64 a.sq] 143)=w2 at *;refine(Q0s a.a a.p w2).mono ?_;rintro e w3 ⟨rfl,d⟩;have aq:=Q0E av d;replace G:=Q00 (Q0E (Q0E G.out aj) d)
        replace n:=Q00 ((n.out.trans (aj.mono n.out.size)).trans (d.mono (Kdq n.out.size aj.size)));have g2:=Q05 aq 2 _ rfl;have g3:=Q05 aq 3 _ rfl;clear d av aj aq;obtain⟨fo,ar⟩:∃q,Q0g a.a a.p=q:=⟨_,rfl⟩;rw[ar];have af:=Q00 (show gtF m.got i=(fo && decide (0<=a.bk) && decide (a.bk < 6) && decide (0<=a.sq) && decide (a.sq<=65535))by rw[HF.out];unfold Qi7;rw[ar]);clear ar HF
        have Z:Hid (gtF m.got i=false->okK m=false):=fun hf=>Qh9 (Q2A (by rw[<-HE.out.2.2];exact hlt) hf)
        cases fo with
        |false=>
         go_wp2;go_ret;exact⟨by rw[Z.out (by rw[af.out];rfl)];rfl,n.out⟩
        |true=>
         by_cases u0:a.bk < 0
         ·go_wp2
          go_ret;exact⟨by rw[Z.out (by rw[af.out];simp;omega)];rfl,n.out⟩
         by_cases u1:6<=a.bk
         ·go_wp2
          go_ret;exact⟨by rw[Z.out (by rw[af.out];simp;omega)];rfl,n.out⟩
         by_cases u2:a.sq < 0
         ·go_wp2
          go_ret;exact⟨by rw[Z.out (by rw[af.out];simp;omega)];rfl,n.out⟩
         by_cases u3:65535 < a.sq
         ·go_wp2
          go_ret;exact⟨by rw[Z.out (by rw[af.out];simp;omega)];rfl,n.out⟩
         have HS:Hid ((List.range (i+1)).all (gtF m.got)=true):=by unfold Hid;rw[Q2h,D.out,af.out];simp;omega
         go_wp2;go_roundw
         case rel=>first|exact⟨i+1,by omega,by go_num,HS.out,G.out,n.out⟩|((repeat apply Exists.intro);refine⟨?_,rfl⟩;exact⟨i+1,by omega,by go_num,HS.out,G.out,n.out⟩)|((repeat apply Exists.intro);exact⟨⟨i+1,by omega,by go_num,HS.out,G.out,n.out⟩,rfl⟩)
         case measure=>simp[intOf];omega
       ·have e:i=ng:=by omega
        have aA:Hid ((List.range m.got.length).all (gtF m.got)=true):=by unfold Hid;rw[<-HE.out.2.2,<-e];exact D.out
        have am:¬((i:Int) < (ng:Int)):=by omega
        obtain⟨J,z1,z2,z3,z4,z5,z6,z7,z8,L,A,y,z,_⟩:=Q1b G.out;clear J z1 z2 z3 z4 z5 z6 z7 z8 L y z;go_wp2;go_ret;exact⟨by rw[Qhq aB.out ay.out (by rw[HV.out.1];exact az.out) aA.out];rfl,n.out⟩
structure Gh where
 c:Hd
 t:Hd
 id:Int
 lim:Int
 dr:Bool
def Q5Q:Lay Gh:=⟨5,fun h=> [.slice h.c.1 h.c.2.1 h.c.2.2,.slice h.t.1 h.t.2.1 h.t.2.2,.int .i64 h.id,.int .i64 h.lim,.bool h.dr],⟨(none,0,0),(none,0,0),0,0,false⟩,fun _=>rfl⟩
abbrev Qja (h:Gh):Value:=agi (.slice h.c.1 h.c.2.1 h.c.2.2) (.slice h.t.1 h.t.2.1 h.t.2.2) h.id h.lim h.dr
def RiG (lo hi:Nat) (w:World) (v:Value) (m:Am):Prop:=∃o1 c1 o2 c2,v=agi (.slice o1 m.c.length c1) (.slice o2 m.t.length c2) m.id m.lim m.dr/\RiV Q0u lo hi w (.slice o1 m.c.length c1) m.c/\RiV Q0u lo hi w (.slice o2 m.t.length c2) m.t
theorem RiG.rs:Stps RiG:=⟨fun ⟨o1,c1,o2,c2,e,h1,h2⟩ s hd=>⟨o1,c1,o2,c2,e,h1.step s hd,h2.step s hd⟩⟩
theorem RiG.rm:Monos RiG:=⟨fun ⟨o1,c1,o2,c2,e,h1,h2⟩ k1 k2=>⟨o1,c1,o2,c2,e,h1.mono k1 k2,h2.mono k1 k2⟩⟩
theorem OwnG.qs:Stps OwnG:=⟨fun h s hd=>OwnG.step h s hd⟩
theorem OwnG.qr {lo hi:Nat} {w:World} {v:Value} {m:Am} (h:OwnG lo hi w v m):RiG lo hi w v m:=by
 obtain⟨g,q,j,e,c,d,f,i⟩:=h;obtain⟨r,n,a,k⟩:=InRow.ri c;obtain⟨s,p,b,l⟩:=InRow.ri d;injection a with x1 x2 x3;injection b with y1 y2 y3;subst x1 x3 y1 y3;exact⟨_,_,_,_,e,RiV.mono ⟨_,_,rfl,k⟩ (Kaq _) i,RiV.mono ⟨_,_,rfl,l⟩ f (Kaq _)⟩
def elG:El Gh Am:=⟨Q5Q,Qja,RiG,OwnG,amD,by decide,RiG.rs,RiG.rm,OwnG.qs,OwnG.qr⟩
theorem QhQ {e:TypeId} {w wr:World} {base B g c n:Nat} {l:List Gh} {k:Nat} (h:Gh) (b:B<=g) (d:wr.ownsRow base e 5 (.slice (some ⟨g,0,none⟩) n c) n (l.flatMap Q5Q.cs)) (f:Below B w wr):
  (((((wr.setCell ⟨g,k * 5,none⟩ (.slice h.c.1 h.c.2.1 h.c.2.2)).setCell ⟨g,k * 5+1,none⟩ (.slice h.t.1 h.t.2.1 h.t.2.2)).setCell ⟨g,k * 5+2,none⟩ (.int .i64 h.id)).setCell ⟨g,k * 5+3,none⟩ (.int .i64 h.lim)).setCell ⟨g,k * 5+4,none⟩ (.bool h.dr)).ownsRow base e 5 (.slice (some ⟨g,0,none⟩) n c) n ((l.set k h).flatMap Q5Q.cs)/\Below B w (((((wr.setCell ⟨g,k * 5,none⟩ (.slice h.c.1 h.c.2.1 h.c.2.2)).setCell ⟨g,k * 5+1,none⟩ (.slice h.t.1 h.t.2.1 h.t.2.2)).setCell ⟨g,k * 5+2,none⟩ (.int .i64 h.id)).setCell ⟨g,k * 5+3,none⟩ (.int .i64 h.lim)).setCell ⟨g,k * 5+4,none⟩ (.bool h.dr))/\Stp g (g+1) wr (((((wr.setCell ⟨g,k * 5,none⟩ (.slice h.c.1 h.c.2.1 h.c.2.2)).setCell ⟨g,k * 5+1,none⟩ (.slice h.t.1 h.t.2.1 h.t.2.2)).setCell ⟨g,k * 5+2,none⟩ (.int .i64 h.id)).setCell ⟨g,k * 5+3,none⟩ (.int .i64 h.lim)).setCell ⟨g,k * 5+4,none⟩ (.bool h.dr)):=by
 have q:=(((((d.stored (k * 5) (.slice h.c.1 h.c.2.1 h.c.2.2)).1.stored (k * 5+1) (.slice h.t.1 h.t.2.1 h.t.2.2)).1.stored (k * 5+2) (.int .i64 h.id)).1.stored (k * 5+3) (.int .i64 h.lim)).1.stored (k * 5+4) (.bool h.dr)).1;rw[Q3q Q5Q rfl (a:=h) rfl]at q
 exact⟨q,(((((f.setCell (p:=⟨g,k * 5,none⟩) b _).setCell (p:=⟨g,k * 5+1,none⟩) b _).setCell (p:=⟨g,k * 5+2,none⟩) b _).setCell (p:=⟨g,k * 5+3,none⟩) b _).setCell (p:=⟨g,k * 5+4,none⟩) b _),((((((Stp.refl wr).trans (Q07 _ g (k * 5) _)).trans (Q07 _ g (k * 5+1) _)).trans (Q07 _ g (k * 5+2) _)).trans (Q07 _ g (k * 5+3) _)).trans (Q07 _ g (k * 5+4) _))⟩
theorem Qia:(Tryz.prog.info? 132).map (fun i=>(i.zero,i.size,i.bytes))=some (some (.agg #[.slice none 0 0,.slice none 0 0,.int .i64 0,.int .i64 0,.bool false]),5,72):=by kernel_rfl
def QcF (xs:List Am):Bool:=decide (xs.length=6) && (List.range xs.length).all (agF xs)
theorem Q7i (v:Value) (xs:List Am) (w:World) (hR:RiE elA 0 w.heap.size w v xs) (al:xs.length<=1048576) (hx:∀i,i < xs.length->(xs.getD i amD).c.length+(xs.getD i amD).t.length<=1048576):
  Calls Tryz.prog 111 #[v] w fun e w'=> ∃o n c,e=.returned (.tuple #[.slice o n c,.bool (QcF xs)])/\(QcF xs=true->InE elG 132 w.heap.size w'.heap.size w' (.slice o n c) xs)/\Below w.heap.size w w':=by
 obtain⟨o,cap,ev⟩:=hR.len;subst ev;obtain⟨i0,hi,av,aw,ax⟩:=info_parts Qia;have ah:=Q00 hR;have HX:=Q00 hx;clear hR hx
 by_cases h6:xs.length=6
 rotate_left
 ·have l:Hid (QcF xs=false):=by unfold Hid QcF;simp[h6]
  obtain⟨nx,au⟩:∃q,xs.length=q:=⟨_,rfl⟩;rw[au]at h6 ⊢
  have aB:¬((nx:Int)=6):=by omega
  go_enter Tryz.func111,Tryz.ntmps111;go_wp2;refine bodyPost_ret (v:=.tuple #[.slice none 0 0,.bool false]) (by simp[results,Tryz.results111,go_sem]) rfl ⟨none,0,0,by rw[l.out],fun e=>absurd e (by rw[l.out];simp),KBq⟩
 have ac:Hid (∀k,k < 6->agF xs k=false->QcF xs=false):=fun k hk hf=>by unfold QcF;rw[Q2A (by rw[h6];exact hk) hf];simp
 have ap:Hid ((List.range 6).all (agF xs)=true->QcF xs=true):=fun hf=>by unfold QcF;rw[h6,hf];rfl
 have H6:=Q00 h6;rw[h6]at ah HX ⊢;clear al h6;have aA:Hid (Below w.heap.size w w):=KBq;go_enter Tryz.func111,Tryz.ntmps111;go_wp2_with (at_make;refine wpList_make_full _ rfl _ _ 124 rfl w.heap.size 132 i0 (agi (.slice none 0 0) (.slice none 0 0) 0 0 false) 5 Tryz.underlying124 hi av aw _ _ _ _ 6 rfl rfl rfl rfl ?b2 ?b3 ?b4 ?_)
 case b2=>rw[ax];omega
 case b3=>unfold maxLen;omega
 case b4=>simp
 intro w3 E C;have ab:=Q00 (show Below w.heap.size w w3 from KBq.grown C (Kaq _) (fun k h=>by cases h))
 have ag:Hid (w3.ownsRow w.heap.size 132 5 (.slice (some ⟨w.heap.size,0,none⟩) 6 6) 6 ((Q2X Q5Q [] 6 0).flatMap Q5Q.cs)):=by
  rw[Q54,<-Q11 Q5Q (agi (.slice none 0 0) (.slice none 0 0) 0 0 false) rfl];exact E
 have am:w.heap.size+1<=w3.heap.size:=(E.lt w.heap.size rfl).2;clear E C;go_wp2
 go_loopw [15] (fun iv wr=> ∃(k:Nat) (hs:List Gh) (L H:Nat->Nat),k<=6/\iv=.int .i64 (k:Int)/\Hid ((List.range k).all (agF xs)=true)/\Hid (wr.ownsRow w.heap.size 132 5 (.slice (some ⟨w.heap.size,0,none⟩) 6 6) 6 ((Q2X Q5Q hs 6 k).flatMap Q5Q.cs))/\Hid (RwE elG (xs.take k) (w.heap.size+1) wr.heap.size wr hs L H)/\Hid (Below w.heap.size w wr)/\w.heap.size+1<=wr.heap.size)
  (fun iv _=> 6 - (intOf iv).toNat)
 case atStart=>exact⟨0,[],fun _=> 0,fun _=> 0,Kcq _,rfl,rfl,ag.out,by rw[List.take_zero];exact RwE.nil _ _ _ _ _ _,ab.out,am⟩
 case round=>
  obtain⟨k,hs,L,H,aq,rfl,aa,HO,HR,d,aH⟩:=hrel;clear ag ab am
  have aj:hs.length=k:=by have h1:=HR.out.len;rw[List.length_take,H6.out]at h1;omega
  have ad:=Q00 aj
  by_cases hlt:k < 6
  ·have z1:(k:Int) < 6:=by omega
   obtain⟨m,hm⟩:∃m,xs.getD k amD=m:=⟨_,rfl⟩;have HS:=Q00 (Q3H (xs:=xs) amD (by rw[H6.out];exact hlt));have Z:=HX.out k hlt
   have r:Hid (agF xs k=(Q1f m && decide (m.id=(k:Int)))):=by unfold Hid agF;rw[hm]
   rw[hm]at HS Z;obtain⟨b,aO,o1,c1,o2,c2,rfl,B,p0,p1,p2,p3,p4,rr,_⟩:=RiA.cells ah.out k (by rw[H6.out];exact hlt) hm;have HL:Hid (∀W,Below wr.heap.size wr W->_):=Q00 (fun W (hb:Below wr.heap.size wr W)=>Q8p _ m W (rr.on (d.out.trans (hb.mono d.out.size))) Z);replace p0:=bCA d.out p0 B;replace p1:=bCA d.out p1 B;replace p2:=bCA d.out p2 B;replace p3:=bCA d.out p3 B;replace p4:=bCA d.out p4 B;have HW:=Q00 hlt;clear rr hm Z aj;obtain⟨q1,T⟩:∃q,m.c.length=q:=⟨_,rfl⟩;obtain⟨q2,U⟩:∃q,m.t.length=q:=⟨_,rfl⟩;obtain⟨mi,P⟩:∃q,m.id=q:=⟨_,rfl⟩
   obtain⟨ml,R⟩:∃q,m.lim=q:=⟨_,rfl⟩;obtain⟨md,O⟩:∃q,m.dr=q:=⟨_,rfl⟩;have HQ:=Q00 (And.intro T (And.intro U (And.intro P (And.intro R O))));rw[T,U,P,R,O]at HL;rw[P]at p0 r;rw[R]at p1;rw[O]at p2;rw[T]at p3;rw[U]at p4;clear T U P R O;have X:Below wr.heap.size wr (wr.alloc (.cells #[.int .i64 mi,.int .i64 ml,.bool md,.slice o1 q1 c1,.slice o2 q2 c2] 83)):=KBq.alloc (Kaq _) _;have af:=Q00 (HL.out _ X);have s:=Q00 X;clear HL X;go_wp2_with fail
   generalize wr.alloc (.cells #[.int .i64 mi,.int .i64 ml,.bool md,.slice o1 q1 c1,.slice o2 q2 c2] 83)=w1 at *;refine af.out.mono ?_;rintro e w2 ⟨oa,na,f,ob,nb,g,i5,J,F,rfl,D,p⟩;obtain⟨ak,ai⟩:∃q,Q1f m=q:=⟨_,rfl⟩;rw[ai]at D r ⊢;clear ai af
   cases ak with
   |false=>
    have l:=Q00 (ac.out k hlt (by rw[r.out];rfl));have j:=Q00 (d.out.trans ((s.out.trans (p.mono s.out.size)).mono d.out.size));clear D p;go_wp2;refine bodyPost_ret (v:=.tuple #[.slice none 0 0,.bool false]) (by simp[results,Tryz.results111,go_sem]) rfl ⟨none,0,0,by rw[l.out],fun e=>absurd e (by rw[l.out];simp),by first|exact j.out|exact j.out.alloc j.out.size _⟩
   |true=>
    obtain⟨G,I,aN,ei,ic,it,ay,az⟩:=D rfl;rw[HQ.out.1,HQ.out.2.1,HQ.out.2.2.1,HQ.out.2.2.2.1,HQ.out.2.2.2.2]at ei;simp only[Value.agg.injEq,Array.mk.injEq,List.cons.injEq,and_true,Value.int.injEq,Value.slice.injEq,Value.bool.injEq,true_and]at ei;obtain⟨⟨rfl,rfl,rfl⟩,⟨rfl,rfl,rfl⟩,rfl,rfl,rfl⟩:=ei;have z:=Q00 (s.out.trans (p.mono s.out.size));have ao:=Q00 (D rfl);clear D ic it ay az
    by_cases hid:i5=(k:Int)
    rotate_left
    ·have l:=Q00 (ac.out k hlt (by rw[r.out];simp[hid]))
     have j:=Q00 (d.out.trans (z.out.mono d.out.size));clear p;go_wp2;refine bodyPost_ret (v:=.tuple #[.slice none 0 0,.bool false]) (by simp[results,Tryz.results111,go_sem]) rfl ⟨none,0,0,by rw[l.out],fun e=>absurd e (by rw[l.out];simp),by first|exact j.out|exact j.out.alloc j.out.size _⟩
    subst hid;go_upto_region 8 with fail;have bx:=World.alloc_heap_new w2 (.cells #[.slice (some ⟨G,0,none⟩) f f,.slice (some ⟨I,0,none⟩) g g,.int .i64 (k:Int),.int .i64 J,.bool F] 132);have N:Below w2.heap.size w2 (w2.alloc (.cells #[.slice (some ⟨G,0,none⟩) f f,.slice (some ⟨I,0,none⟩) g g,.int .i64 (k:Int),.int .i64 J,.bool F] 132)):=KBq.alloc (Kaq _) _;generalize w2.alloc (.cells #[.slice (some ⟨G,0,none⟩) f f,.slice (some ⟨I,0,none⟩) g g,.int .i64 (k:Int),.int .i64 J,.bool F] 132)=w4 at *;obtain⟨y0,y1,y2,y3,y4⟩:=cxb5v0v0 bx;have s12:=p.size
    have s1:=s.out.size;have s24:=N.size;have A:=Q00 (z.out.trans (N.mono z.out.size));have j:=Q00 (d.out.trans (A.out.mono d.out.size));have ae:=Q00 ((ao.out.step (Stp.of (lo:=0) (hi:=0) N) (.inl (Kcq _))).mono (a':=w1.heap.size) (b':=w4.heap.size) (Kaq _) s24);have a:=Q0a HO.out A.out
    have ar:((Q2X Q5Q hs 6 k).flatMap Q5Q.cs).length=6 * 5:=by rw[Q0f,Q6i aq ad.out];rfl
    obtain⟨x0,aI⟩:∃u,w4.cell? ⟨w.heap.size,k * 5,none⟩=some u:=⟨_,(a.cellAt (k * 5) (by omega)).trans (KGq (by omega))⟩;have aC:=a.frozenAt (k * 5);obtain⟨x1,aJ⟩:∃u,w4.cell? ⟨w.heap.size,k * 5+1,none⟩=some u:=⟨_,(a.cellAt (k * 5+1) (by omega)).trans (KGq (by omega))⟩;have aD:=a.frozenAt (k * 5+1);obtain⟨x2,aK⟩:∃u,w4.cell? ⟨w.heap.size,k * 5+2,none⟩=some u:=⟨_,(a.cellAt (k * 5+2) (by omega)).trans (KGq (by omega))⟩;have aE:=a.frozenAt (k * 5+2)
    obtain⟨x3,aL⟩:∃u,w4.cell? ⟨w.heap.size,k * 5+3,none⟩=some u:=⟨_,(a.cellAt (k * 5+3) (by omega)).trans (KGq (by omega))⟩;have aF:=a.frozenAt (k * 5+3);obtain⟨x4,aM⟩:∃u,w4.cell? ⟨w.heap.size,k * 5+4,none⟩=some u:=⟨_,(a.cellAt (k * 5+4) (by omega)).trans (KGq (by omega))⟩;have aG:=a.frozenAt (k * 5+4)
    obtain⟨L2,H2,Y⟩:∃L2 H2,RwE elG (xs.take k++[m]) (w.heap.size+1) w4.heap.size w4 (hs++[⟨(some ⟨G,0,none⟩,f,f),(some ⟨I,0,none⟩,g,g),(k:Int),J,F⟩]) L2 H2:=⟨_,_,HR.out.kept A.out|>.snoc (l2:=w1.heap.size) (h2:=w4.heap.size) (y:=⟨(some ⟨G,0,none⟩,f,f),(some ⟨I,0,none⟩,g,g),(k:Int),J,F⟩) (x:=m) s1 (by omega) (by omega) (show elG.Q w1.heap.size w4.heap.size w4 (elG.val ⟨(some ⟨G,0,none⟩,f,f),(some ⟨I,0,none⟩,g,g),(k:Int),J,F⟩) m from ae.out)⟩;rw[<-HS.out]at Y
    have ST:=Q00 (QhQ (k:=k) ⟨(some ⟨G,0,none⟩,f,f),(some ⟨I,0,none⟩,g,g),(k:Int),J,F⟩ (Kaq w.heap.size) a j.out);have HF:=Q00 (Q6r (L:=Q5Q) HW.out ad.out ⟨(some ⟨G,0,none⟩,f,f),(some ⟨I,0,none⟩,g,g),(k:Int),J,F⟩);have M:=Q00 Y
    have V:Hid ((List.range (k+1)).all (agF xs)=true):=by unfold Hid;rw[Q2h,aa.out,r.out];simp
    have an:w.heap.size+1<=w4.heap.size:=by omega
    clear a p N ar Y p0 p1 p2 p3 p4 bx;go_wp2;go_roundw
    case rel=>first
     |exact⟨k+1,hs++[⟨(some ⟨G,0,none⟩,f,f),(some ⟨I,0,none⟩,g,g),(k:Int),J,F⟩],L2,H2,by omega,by go_num,V.out,(by have h:=ST.out.1;rw[HF.out]at h;exact h),RwE.mono (M.out.step ST.out.2.2 (fun i hi=> .inl (M.out.bd i hi).1)) (Kaq _) (by simp),ST.out.2.1,by simpa using an⟩
     |(refine⟨_, ?_,rfl⟩;exact⟨k+1,hs++[⟨(some ⟨G,0,none⟩,f,f),(some ⟨I,0,none⟩,g,g),(k:Int),J,F⟩],L2,H2,by omega,by go_num,V.out,(by have h:=ST.out.1;rw[HF.out]at h;exact h),RwE.mono (M.out.step ST.out.2.2 (fun i hi=> .inl (M.out.bd i hi).1)) (Kaq _) (by simp),ST.out.2.1,by simpa using an⟩)
    case measure=>simp[intOf];omega
  ·have e:k=6:=by omega
   subst e;go_wp2;have hy:=ap.out aa.out;have h2:=HR.out;rw[show xs.take 6=xs from by rw[<-H6.out];exact List.take_length]at h2;have h3:=HO.out;rw[<-H6.out]at h3 ⊢;refine bodyPost_ret (v:=.tuple #[.slice (some ⟨w.heap.size,0,none⟩) xs.length xs.length,.bool true]) (by simp[results,Tryz.results111,go_sem,H6.out]) rfl ⟨_,_,_,by rw[hy],fun _=>InE.filled h3 h2 (by omega),d.out⟩
def Qgx (l:List Sl) (a p:Int):Int:=if(Q2x l a p).2=true then(Q9n l a p).v else -1
theorem Q9e {m:Bm} (h:Q4O m=true):Q0k m.t=true:=by
 rw[QaL]at h;simp only[Bool.and_eq_true]at h;exact h.2.1
theorem Q8V {m:Bm} (h:Q4O m=true):0 < m.t.length:=(Q10.1 (Q9e h)).1
theorem QfI {C:Nat} {w:World} {o:Option Addr} {l:List Sl} (h:RdS C w o l) (f:0 < l.length):∃b a,o=some ⟨b,a,none⟩/\b < C/\∀i,i < l.length->∀j,j < Q0u.k->w.cell? ⟨b,a+i * Q0u.k+j,none⟩=(Q0u.cs (l.getD i Q0u.d))[j]? :=by
 rcases h with h|⟨b,a,e,c,r⟩
 ·subst h;simp at f
 ·exact⟨b,a,e,c,r⟩
theorem Qfx {lo hi:Nat} {w:World} {y:Option Addr} {x v:Nat} {f:Int} {B:Option Addr} {A z:Nat} {k i:Int} {n:Option Addr} {m l:Nat} {u:Option Addr} {s q:Nat} {j:Jm} {p:Pm} {t:List Sl} (h:InBl lo hi w (QaN (.slice y x v) f (.slice B A z) k i (.slice n m l) (.slice u s q)) j p t) (T:0 < t.length):
  ∃g a b,lo<=a/\a<=g/\g < b/\b<=hi/\f=j.key/\k=j.safe/\i=p.key/\y=some ⟨g,0,none⟩/\x=t.length/\InPm lo a w (plv p.key (.slice n m l) (.slice u s q)) p/\w.ownsRow a Q3m 5 (.slice (some ⟨g,0,none⟩) t.length v) t.length (t.flatMap Q0u.cs)/\InJm b hi w (jrn j.key (.slice B A z) j.safe) j:=by
 obtain⟨Z,X,V,Y,a,b,e,O,U,P,M,c,N⟩:=h;simp only[Value.agg.injEq,Array.mk.injEq,List.cons.injEq,and_true,Value.int.injEq,true_and]at e;obtain⟨D,E,F,G,H,I,J⟩:=e;subst D F I J;have d:=c
 rcases d.1.2 with⟨R,h2⟩|⟨g,cap,C,hv,L,r⟩
 ·exact absurd h2 (by omega)
 ·injection hv with h4 h5 h6
  subst h4 h5 h6;exact⟨g,a,b,O,L,c.2 g rfl,P,E,G,H,rfl,rfl,M,c.1,N⟩
theorem QdF (b m c:Nat) (l:List Sl) (a p:Int) (w:World) (Z:0 < l.length) (Y:l.length<=1048576) (V:Q0g a p=true) (F:b < w.heap.size) (M:∀i,i < l.length->∀j,j < Q0u.k->w.cell? ⟨b,m+i * Q0u.k+j,none⟩=(Q0u.cs (l.getD i Q0u.d))[j]?):
  Calls Tryz.prog 171 #[tab (.slice (some ⟨b,m,none⟩) l.length c),Q8x a p] w fun e w'=>e=.returned (.int .i64 (Qgx l a p))/\Below w.heap.size w w':=by
 have N:=Q00 M;clear M;obtain⟨L,s⟩:∃W,((w.alloc (.cells #[.slice (some ⟨b,m,none⟩) l.length c] 121)).alloc (.cells #[.int .i64 a,.int .i64 p] 73))=W:=⟨_,rfl⟩;have x:=alb0v0v2 s;have y:=Q00 x;clear x;have n:=alz0v0v2 s
 have B:L.cell? ⟨w.heap.size,0,none⟩=some (.slice (some ⟨b,m,none⟩) l.length c):=by rw[<-s];simp[go_sem]
 have h:=alz0v1v2 s;obtain⟨z,A⟩:=alc2v1v2 s;have G:=Qhe b m c l a p L Z Y V (Kbq F y.out.size) (fun i hi j X=>(y.out.cell (p:=⟨b,m+i * Q0u.k+j,none⟩) F).trans (N.out i hi j X));obtain⟨r,I⟩:∃r,Qgx l a p=r:=⟨_,rfl⟩;rw[I];obtain⟨q,H⟩:∃q,Q9n l a p=q:=⟨_,rfl⟩;obtain⟨f,E⟩:∃f,(Q2x l a p).2=f:=⟨_,rfl⟩;rw[H,E]at G
 have J:Hid (r=if f=true then q.v else -1):=by unfold Hid;rw[<-I,<-H,<-E];rfl
 clear H E I;go_enter Tryz.func171,Tryz.ntmps171;go_wp2_with fail;refine(G).mono ?_;rintro e v1 ⟨rfl,D⟩;replace B:=bC D B n;replace n:=Kbq n D.size;replace z:=bC D z h;replace A:=bC D A h;replace h:=Kbq h D.size;replace y:=Q00 (y.out.trans (D.mono y.out.size));clear D;clear G;obtain⟨W2,C⟩:∃W,(v1.alloc (.cells #[.bool q.u,.int .i64 q.a,.int .i64 q.p,.int .i64 q.v,.int .i64 q.t] 271))=W:=⟨_,rfl⟩;have g:=alb0v0v1 C;replace B:=bC g B n;replace n:=Kbq n g.size;replace z:=bC g z h;replace A:=bC g A h
 replace h:=Kbq h g.size;replace y:=Q00 (y.out.trans (g.mono y.out.size));clear g;have aa:=alz0v0v1 C;obtain⟨O,P,R,T,U⟩:=alc5v0v1 C
 cases f with
 |false=>
  go_wp2;go_ret;exact⟨Q0O (by rw[J.out];rfl),y.out⟩
 |true=>
  go_wp2;go_ret;exact⟨Q0O (by rw[J.out];rfl),y.out⟩
end Go.Proofs.YteffhdcankkfkaaGreat
