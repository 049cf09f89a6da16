/- For every code the law FnLearns answers true: what is learnt is the hint; no more than one other flow's goes for it. No conditions. -/
import Derived.Test.YtpneolgdghbinaaGreatQLearnsL49
import Derived.Test.YtpneolgdghbinaaGreatQLearnsL52
import Derived.Test.YtpneolgdghbinaaGreatQLearnsL55
namespace Go.Proofs.YtpneolgdghbinaaGreat
open Go.ChangeShapes Go.WideShapes Go.ChangeAt Go.RowKit Go.Joins
set_option linter.unusedVariables false
set_option linter.unusedSimpArgs false
set_option maxRecDepth 100000
set_option maxHeartbeats 40000000
theorem QbF (l:List Sl):(Q1j l).length≤16:=by
 unfold Q1j
 split
 ·next h=> rw [Q6r,Q7G];have:=Q8w l l.length;have:=(Q07.1 h).2.1;omega
 ·exact Kcq _
theorem QbZ {W:World} {B:Nat} {z0 z1:Value} {T:TypeId} (h:W.heap[B]? =some (.cells #[z0,z1] T (0,0))):W.cell? ⟨B,0,none⟩=some z0∧W.cell? ⟨B,1,none⟩=some z1:=⟨Q00 h 0 _ rfl,Q00 h 1 _ rfl⟩
theorem Q9i (P:Nat→Bool):∀k,Q3a P k≤k
 |0=> Kaq _
 |k+1=> by show Q3a P k+_≤_;have:=Q9i P k;split <;> omega
theorem Qf2 (o0:Option Addr) (cap:Nat) (l:List Int) (w:World) (hm:l.length≤maxLen) (hR:Rd w o0 l) (aM:isB l):
  Calls Tryz.prog 5 #[.slice o0 l.length cap] w fun e w'=> e=.returned (.bool true)∧Below w.heap.size w w':=by
 have B_w:Below w.heap.size w w:=Below.refl _ _;have aI:=Q01 (Q9Q o0 cap l w hR aM hm);clear hR aM hm;have r:=Q01 B_w;clear B_w;go_enter Tryz.func5,Tryz.ntmps5;go_wp2_with fail;have B_w:=r.out;clear r;refine aI.out.mono ?_;rintro e w1 ⟨kj,o,nj,c,sj,kp,ob,np,cb,oR,nr,cR,ot,nt,ct,m,now,a,b,bk,rfl,hv,hf,am⟩;clear aI;have B_w1:Below w.heap.size w w1:=B_w.trans (am.mono B_w.size);have a3:w.heap.size≤w1.heap.size:=am.size;clear am B_w;have al:=Q01 (hv.brd (Kaq _) hf);clear hv hf;have av:=Q01 (fun h=> QdO (m:=m) (now:=now) (a:=a) (b:=b) (v:=bk) h)
 have ax:=Q01 (show Q5D m now a b bk=false→Q2q m now a b bk=bm0 from fun h=> by unfold Q2q;rw [if_neg (by rw [h];decide)]);have aw:=Q01 (fun W (h:BalRd W (Q13 kj (.slice o nj c) sj kp (.slice ob np cb) (.slice oR nr cR) (.slice ot nt ct)) m)=> Q9W now a b bk h);obtain ⟨sb,aV⟩:∃x,Q5D m now a b bk=x:=⟨_,rfl⟩;obtain ⟨H,aU⟩:∃x,Q2q m now a b bk=x:=⟨_,rfl⟩;rw [aV,aU] at aw av ax;clear aV aU
 obtain ⟨w2,ag⟩:∃W,((w1.alloc (.cells #[.int .i64 kj,.slice o nj c,.int .i64 sj,.int .i64 kp,.slice ob np cb,.slice oR nr cR,.slice ot nt ct] 34)).alloc (.cells #[.int .i64 a,.int .i64 b] 36))=W:=⟨_,rfl⟩;have ai:=alb0v0v2 ag;have d:=alx0v0v2 ag;have f:=alx0v1v2 ag;have be:=alz0v1v2 ag;have s:Below w1.heap.size w1 w2:=ai;have B_w2:Below w.heap.size w w2:=B_w1.trans (ai.mono B_w1.size);have a4:w1.heap.size≤w2.heap.size:=ai.size;clear ai B_w1;obtain ⟨M,N,O,R,T,U,V⟩:=Q3V d;obtain ⟨X,Y⟩:=QbZ f;replace d:=Q01 d
 replace f:=Q01 f;have r:=Q01 B_w2;clear B_w2;replace s:=Q01 s;go_wp2_with fail;clear M N O R T U V;clear X Y;replace d:=d.out;replace f:=f.out;have B_w2:=r.out;clear r;replace s:=s.out;clear ag;refine (aw.out w2 (al.out.kept s)).mono ?_;rintro e w3 ⟨vx,rfl,ap,L⟩;replace s:=s.trans (L.mono s.size);replace d:=(L.block _ (by omega)).trans d;replace f:=(L.block _ (by omega)).trans f;have B_w3:Below w.heap.size w w3:=B_w2.trans (L.mono B_w2.size);have a5:w2.heap.size≤w3.heap.size:=L.size
 clear L B_w2;obtain ⟨ox,cx,aD,aA,aC,az,aE,aB,aY⟩:=ap.rd.opn;subst aY;obtain ⟨w4,ah⟩:∃W,w3.alloc (.cells #[.int .i64 H.j.key,.slice ox H.j.l.length cx,.int .i64 H.j.safe,.int .i64 H.p.key,.slice aD H.p.l.length aA,.slice aC H.p.ring.length az,.slice aE H.t.length aB] 34)=W:=⟨_,rfl⟩;have i:=alx0v0v1 ah;have J:=alb0v0v1 ah;have bf:=alz0v0v1 ah;replace s:=s.trans (J.mono s.size);replace d:=(J.block _ (by omega)).trans d;replace f:=(J.block _ (by omega)).trans f;replace ap:=ap.step (Stp.of (lo:=0) (hi:=0) J) (.inl (Kcq _))
 have B_w4:Below w.heap.size w w4:=B_w3.trans (J.mono B_w3.size);have a6:w3.heap.size≤w4.heap.size:=J.size;clear J B_w3
 cases sb with
 |false=>
  have e1:=ax.out rfl;subst e1;clear ax av aw al ap;simp only [bm0,List.length_nil] at i;obtain ⟨q1,q2,q3,q4,q5,q6,q7⟩:=Q3V i;replace d:=Q01 d;replace f:=Q01 f;replace i:=Q01 i;have r:=Q01 B_w4;clear B_w4;replace s:=Q01 s;go_wp2_with fail;clear q1 q2 q3 q4 q5 q6 q7 ah;replace d:=d.out;replace f:=f.out;replace i:=i.out;have B_w4:=r.out;clear r;replace s:=s.out;refine (Q5G _).mono ?_;rintro e w5 ⟨rfl,u⟩;replace s:=s.trans (u.mono s.size);replace d:=(u.block _ (by omega)).trans d;replace f:=(u.block _ (by omega)).trans f
  replace i:=(u.block _ (by omega)).trans i;have B_w5:Below w.heap.size w w5:=B_w4.trans (u.mono B_w4.size);have aG:w4.heap.size≤w5.heap.size:=u.size;clear u B_w4;replace d:=Q01 d;replace f:=Q01 f;replace i:=Q01 i;have r:=Q01 B_w5;clear B_w5;replace s:=Q01 s;go_wp2;go_ret;exact ⟨rfl,r.out⟩
 |true=>
  obtain ⟨e1,e2,e3,e4,e5⟩:=av.out rfl;clear ax av aw;have ay:=Q01 (ap.brd (show _≤w4.heap.size by omega) (Qh8 e2));have HE:=Q01 (And.intro e1 (And.intro e2 (And.intro e3 (And.intro e4 e5))));clear e1 e2 e3 e4 e5;have A:Below w4.heap.size w4 w4:=Below.refl _ _;clear ap;have bb:=al.out.tab;obtain ⟨a1,a2,aT⟩:=bb;subst a1;clear aT a2;have aJ:=Q01 (fun W (hW:Below w1.heap.size w1 W)=> Q7F ot ct m.t W ((al.out.kept hW).tab.2.1) ((al.out.kept hW).tab.2.2));obtain ⟨M,N,O,R,T,U,V⟩:=Q3V d;obtain ⟨X,Y⟩:=QbZ f;replace d:=Q01 d
  replace f:=Q01 f;replace i:=Q01 i;have r:=Q01 B_w4;clear B_w4;replace s:=Q01 s;replace A:=Q01 A;go_wp2_with fail;clear M N O R T U V;clear X Y;replace d:=d.out;replace f:=f.out;replace i:=i.out;have B_w4:=r.out;clear r;replace s:=s.out;replace A:=A.out;clear ah;refine (aJ.out w4 s).mono ?_;rintro e w5 ⟨vf,rfl,an,u⟩;replace s:=s.trans (u.mono s.size);replace A:=A.trans (u.mono A.size);replace d:=(u.block _ (by omega)).trans d;replace f:=(u.block _ (by omega)).trans f
  replace i:=(u.block _ (by omega)).trans i;have B_w5:Below w.heap.size w w5:=B_w4.trans (u.mono B_w4.size);have aG:w4.heap.size≤w5.heap.size:=u.size;clear u B_w4;have HF:=Q01 an;obtain ⟨bg,aX,bc,_⟩:=an.open;subst bc;clear an aJ;have HP:=Q01 (show ∀k,Qfw m H a b (Q1j m.t) k=(!(decide (((Q1j m.t).getD k (0,0)).1=a) && decide (((Q1j m.t).getD k (0,0)).2=b)) && !(decide (Q59 H ((Q1j m.t).getD k (0,0)).1 ((Q1j m.t).getD k (0,0)).2=Q59 m ((Q1j m.t).getD k (0,0)).1 ((Q1j m.t).getD k (0,0)).2))) from fun _=> rfl);have aL:(Q1j m.t).length≤16:=QbF m.t
  obtain ⟨P,hP⟩:∃x,Qfw m H a b (Q1j m.t)=x:=⟨_,rfl⟩;obtain ⟨fs,an⟩:∃x,Q1j m.t=x:=⟨_,rfl⟩;rw [hP] at HP HE;rw [an] at HF HP HE aL;simp only [an];clear hP an;obtain ⟨n,hn⟩:∃x,fs.length=x:=⟨_,rfl⟩;rw [hn] at aL HE;simp only [hn];have HN:=Q01 hn;clear hn;replace d:=Q01 d;replace f:=Q01 f;replace i:=Q01 i;have r:=Q01 B_w5;clear B_w5;replace s:=Q01 s;replace A:=Q01 A;go_wp2
  go_loopw [9,11] (fun lv iv wr=> ∃k:Nat,lv=.int .i64 (Q3a P k:Nat)∧iv=.int .i64 k∧k≤n∧Hid (Below w5.heap.size w5 wr)) (fun _ iv _=> n - (intOf iv).toNat)
  case atStart=> exact ⟨0,rfl,rfl,Kcq _,Below.refl _ _⟩
  case round=>
   obtain ⟨k,rfl,rfl,hk,y⟩:=hrel;have I:=y.out.size
   by_cases hin:k < n
   ·have aS:(k:Int) < (n:Int):=by omega
    have aF:k < fs.length:=by have:=HN.out;omega
    obtain ⟨g,rfl,_,aN⟩:∃g,bg=some ⟨g,0,none⟩∧fs.length≤aX∧g < w5.heap.size:=by
     rcases Qcw HF.out with ⟨_,h,_⟩|h
     ·rw [h] at aF;simp at aF
     ·exact h
    have r1:=Qem HF.out k aF;have B:=HP.out k;obtain ⟨⟨xa,xp⟩,aW⟩:∃z,fs.getD k (0,0)=z:=⟨_,rfl⟩;rw [aW] at r1 B;simp only at r1 B;clear aW;have GF0:=Grown.cell ((y.out.cell (p:=⟨g,k * 2,none⟩) aN).trans r1.1) (show g < wr.heap.size by omega);have GF1:=Grown.cell ((y.out.cell (p:=⟨g,k * 2+1,none⟩) aN).trans r1.2) (show g < wr.heap.size by omega);clear r1;have ar:=Q01 (fun G:Grown wr=> Q5g xa xp (ay.out.kept (A.out.trans ((y.out.trans (G.b.mono y.out.size)).mono A.out.size))))
    have aq:=Q01 (fun G:Grown wr=> Q5g xa xp (al.out.kept (s.out.trans ((y.out.trans (G.b.mono y.out.size)).mono s.out.size))));obtain ⟨aR,aO⟩:∃x,Q59 H xa xp=x:=⟨_,rfl⟩;obtain ⟨aQ,aP⟩:∃x,Q59 m xa xp=x:=⟨_,rfl⟩;rw [aO] at ar B;rw [aP] at aq B;clear aO aP;have kA:w1.heap.size < w5.heap.size:=(Array.getElem?_eq_some_iff.1 d.out).1;have yA:=(y.out.block _ kA).trans d.out
    have GA0:∀G:Grown wr,G.v.cell? ⟨w1.heap.size,0,none⟩=some (.int .i64 kj):=Grown.cell (Q00 yA 0 _ rfl) (Kbq kA I)
    have GA1:∀G:Grown wr,G.v.cell? ⟨w1.heap.size,1,none⟩=some (.slice o nj c):=Grown.cell (Q00 yA 1 _ rfl) (Kbq kA I)
    have GA2:∀G:Grown wr,G.v.cell? ⟨w1.heap.size,2,none⟩=some (.int .i64 sj):=Grown.cell (Q00 yA 2 _ rfl) (Kbq kA I)
    have GA3:∀G:Grown wr,G.v.cell? ⟨w1.heap.size,3,none⟩=some (.int .i64 kp):=Grown.cell (Q00 yA 3 _ rfl) (Kbq kA I)
    have GA4:∀G:Grown wr,G.v.cell? ⟨w1.heap.size,4,none⟩=some (.slice ob np cb):=Grown.cell (Q00 yA 4 _ rfl) (Kbq kA I)
    have GA5:∀G:Grown wr,G.v.cell? ⟨w1.heap.size,5,none⟩=some (.slice oR nr cR):=Grown.cell (Q00 yA 5 _ rfl) (Kbq kA I)
    have GA6:∀G:Grown wr,G.v.cell? ⟨w1.heap.size,6,none⟩=some (.slice ot m.t.length ct):=Grown.cell (Q00 yA 6 _ rfl) (Kbq kA I)
    clear yA;have kP:w1.heap.size+1 < w5.heap.size:=(Array.getElem?_eq_some_iff.1 f.out).1;have yP:=(y.out.block _ kP).trans f.out
    have GP0:∀G:Grown wr,G.v.cell? ⟨w1.heap.size+1,0,none⟩=some (.int .i64 a):=Grown.cell (Q00 yP 0 _ rfl) (Kbq kP I)
    have GP1:∀G:Grown wr,G.v.cell? ⟨w1.heap.size+1,1,none⟩=some (.int .i64 b):=Grown.cell (Q00 yP 1 _ rfl) (Kbq kP I)
    clear yP;have kX:w3.heap.size < w5.heap.size:=(Array.getElem?_eq_some_iff.1 i.out).1;have yX:=(y.out.block _ kX).trans i.out
    have GX0:∀G:Grown wr,G.v.cell? ⟨w3.heap.size,0,none⟩=some (.int .i64 H.j.key):=Grown.cell (Q00 yX 0 _ rfl) (Kbq kX I)
    have GX1:∀G:Grown wr,G.v.cell? ⟨w3.heap.size,1,none⟩=some (.slice ox H.j.l.length cx):=Grown.cell (Q00 yX 1 _ rfl) (Kbq kX I)
    have GX2:∀G:Grown wr,G.v.cell? ⟨w3.heap.size,2,none⟩=some (.int .i64 H.j.safe):=Grown.cell (Q00 yX 2 _ rfl) (Kbq kX I)
    have GX3:∀G:Grown wr,G.v.cell? ⟨w3.heap.size,3,none⟩=some (.int .i64 H.p.key):=Grown.cell (Q00 yX 3 _ rfl) (Kbq kX I)
    have GX4:∀G:Grown wr,G.v.cell? ⟨w3.heap.size,4,none⟩=some (.slice aD H.p.l.length aA):=Grown.cell (Q00 yX 4 _ rfl) (Kbq kX I)
    have GX5:∀G:Grown wr,G.v.cell? ⟨w3.heap.size,5,none⟩=some (.slice aC H.p.ring.length az):=Grown.cell (Q00 yX 5 _ rfl) (Kbq kX I)
    have GX6:∀G:Grown wr,G.v.cell? ⟨w3.heap.size,6,none⟩=some (.slice aE H.t.length aB):=Grown.cell (Q00 yX 6 _ rfl) (Kbq kX I)
    clear yX
    by_cases e1:xa=a
    ·subst e1
     by_cases e2:xp=b
     ·subst e2
      replace B:Hid (P k=false):=Q01 (by rw [B];simp);go_upto_region 10 with fail
      (refine Q0b (by kernel_rfl) (by kernel_rfl) ?_;intro ao;(repeat (go_big_quiet_step (fail)));(with_reducible refine wpQuiet_nil ?_);intro _ ak;obtain ⟨pq,aj⟩:=ak;subst aj)
      go_wp2;go_roundw
      case rel=> refine ⟨k+1, ?_,by go_num,hin,y.out.trans (pq.b.mono y.out.size)⟩;show _=Value.int .i64 ((Q3a P k+if P k=true then 1 else 0:Nat):Int);rw [B.out];first|rfl|simp|(simp;omega)
      case measure=> simp [intOf];omega
     ·skip
      by_cases e3:aR=aQ
      ·subst e3
       replace B:Hid (P k=false):=Q01 (by rw [B];simp);go_upto_region 10 with fail
       (refine Q0b (by kernel_rfl) (by kernel_rfl) ?_;intro ao;(repeat (go_big_quiet_step ((first|(go_at_call 16;with_reducible exact Q15 _ (ar.out _))|(go_at_call 16;with_reducible exact Q15 _ (aq.out _))))));(with_reducible refine wpQuiet_nil ?_);intro _ ak;obtain ⟨pq,aj⟩:=ak;subst aj)
       go_wp2;go_roundw
       case rel=> refine ⟨k+1, ?_,by go_num,hin,y.out.trans (pq.b.mono y.out.size)⟩;show _=Value.int .i64 ((Q3a P k+if P k=true then 1 else 0:Nat):Int);rw [B.out];first|rfl|simp|(simp;omega)
       case measure=> simp [intOf];omega
      ·replace B:Hid (P k=true):=Q01 (by rw [B];simp [e2,e3])
       have a0:Q3a P k≤k:=Q9i P k
       have bd:IntKind.i64.wrap (((Q3a P k:Nat):Int)+1)=((Q3a P k:Nat):Int)+1:=by rw [IntKind.wrap_i64];omega
       go_upto_region 10 with fail
       (refine Q0b (by kernel_rfl) (by kernel_rfl) ?_;intro ao;(repeat (go_big_quiet_step ((first|(go_at_call 16;with_reducible exact Q15 _ (ar.out _))|(go_at_call 16;with_reducible exact Q15 _ (aq.out _))))));(with_reducible refine wpQuiet_nil ?_);intro _ ak;obtain ⟨pq,aj⟩:=ak;subst aj)
       go_wp2;go_roundw
       case rel=> refine ⟨k+1, ?_,by go_num,hin,y.out.trans (pq.b.mono y.out.size)⟩;show _=Value.int .i64 ((Q3a P k+if P k=true then 1 else 0:Nat):Int);rw [B.out];first|rfl|simp|(simp;omega)
       case measure=> simp [intOf];omega
    ·skip
     by_cases e3:aR=aQ
     ·subst e3
      replace B:Hid (P k=false):=Q01 (by rw [B];simp);go_upto_region 10 with fail
      (refine Q0b (by kernel_rfl) (by kernel_rfl) ?_;intro ao;(repeat (go_big_quiet_step ((first|(go_at_call 16;with_reducible exact Q15 _ (ar.out _))|(go_at_call 16;with_reducible exact Q15 _ (aq.out _))))));(with_reducible refine wpQuiet_nil ?_);intro _ ak;obtain ⟨pq,aj⟩:=ak;subst aj)
      go_wp2;go_roundw
      case rel=> refine ⟨k+1, ?_,by go_num,hin,y.out.trans (pq.b.mono y.out.size)⟩;show _=Value.int .i64 ((Q3a P k+if P k=true then 1 else 0:Nat):Int);rw [B.out];first|rfl|simp|(simp;omega)
      case measure=> simp [intOf];omega
     ·replace B:Hid (P k=true):=Q01 (by rw [B];simp [e1,e3])
      have a0:Q3a P k≤k:=Q9i P k
      have bd:IntKind.i64.wrap (((Q3a P k:Nat):Int)+1)=((Q3a P k:Nat):Int)+1:=by rw [IntKind.wrap_i64];omega
      go_upto_region 10 with fail
      (refine Q0b (by kernel_rfl) (by kernel_rfl) ?_;intro ao;(repeat (go_big_quiet_step ((first|(go_at_call 16;with_reducible exact Q15 _ (ar.out _))|(go_at_call 16;with_reducible exact Q15 _ (aq.out _))))));(with_reducible refine wpQuiet_nil ?_);intro _ ak;obtain ⟨pq,aj⟩:=ak;subst aj)
      go_wp2;go_roundw
      case rel=> refine ⟨k+1, ?_,by go_num,hin,y.out.trans (pq.b.mono y.out.size)⟩;show _=Value.int .i64 ((Q3a P k+if P k=true then 1 else 0:Nat):Int);rw [B.out];first|rfl|simp|(simp;omega)
      case measure=> simp [intOf];omega
   ·have aZ:k=n:=by omega
    have aS:¬((k:Int) < (n:Int)):=by omega
    subst aZ;obtain ⟨e1,e2,e3,e4,e5⟩:=HE.out;clear HE HF HP;have aH:=Q01 (r.out.trans (y.out.mono r.out.size));clear r;replace d:=Q01 ((y.out.block _ (Array.getElem?_eq_some_iff.1 d.out).1).trans d.out);replace f:=Q01 ((y.out.block _ (Array.getElem?_eq_some_iff.1 f.out).1).trans f.out);replace i:=Q01 ((y.out.block _ (Array.getElem?_eq_some_iff.1 i.out).1).trans i.out);replace s:=Q01 (s.out.trans (y.out.mono s.out.size));replace A:=Q01 (A.out.trans (y.out.mono A.out.size));clear y
    have HH:=Q01 (fun W (h:BalRd W (Q13 H.j.key (.slice ox H.j.l.length cx) H.j.safe H.p.key (.slice aD H.p.l.length aA) (.slice aC H.p.ring.length az) (.slice aE H.t.length aB)) H)=> Q5g a b h);rw [e1] at HH;have HO:=Q01 (fun W (h:BalRd W (Q13 H.j.key (.slice ox H.j.l.length cx) H.j.safe H.p.key (.slice aD H.p.l.length aA) (.slice aC H.p.ring.length az) (.slice aE H.t.length aB)) H)=> QaS h);rw [e2] at HO
    have bh:((Q3a P k:Nat):Int)≤1:=by omega
    generalize Q3a P k=q at *;have au:=Q01 (And.intro e3 e5);clear e1 e2 e3 e4 e5;have r:=aH;clear aH;replace d:=d.out;replace f:=f.out;replace i:=i.out;have B_wr:=r.out;clear r;replace s:=s.out;replace A:=A.out;obtain ⟨Z,aa,ab,ac,ad,ae,af⟩:=Q3V i;obtain ⟨X,Y⟩:=QbZ f;replace d:=Q01 d;replace f:=Q01 f;replace i:=Q01 i;have r:=Q01 B_wr;clear B_wr;replace s:=Q01 s;replace A:=Q01 A;go_wp2_with fail;clear Z aa ab ac ad ae af;clear X Y;replace d:=d.out;replace f:=f.out
    replace i:=i.out;have B_wr:=r.out;clear r;replace s:=s.out;replace A:=A.out;refine (HH.out _ (ay.out.kept A)).mono ?_;rintro e w6 ⟨rfl,C⟩;replace s:=s.trans (C.mono s.size);replace A:=A.trans (C.mono A.size);replace d:=(C.block _ (by omega)).trans d;replace f:=(C.block _ (by omega)).trans f;replace i:=(C.block _ (by omega)).trans i;have B_w6:Below w.heap.size w w6:=B_wr.trans (C.mono B_wr.size);have a7:wr.heap.size≤w6.heap.size:=C.size;clear C B_wr;obtain ⟨Z,aa,ab,ac,ad,ae,af⟩:=Q3V i
    replace d:=Q01 d;replace f:=Q01 f;replace i:=Q01 i;have r:=Q01 B_w6;clear B_w6;replace s:=Q01 s;replace A:=Q01 A;go_wp2_with fail;clear Z aa ab ac ad ae af;replace d:=d.out;replace f:=f.out;replace i:=i.out;have B_w6:=r.out;clear r;replace s:=s.out;replace A:=A.out;refine (HO.out _ (ay.out.kept A)).mono ?_;rintro e w7 ⟨rfl,D⟩;replace s:=s.trans (D.mono s.size);replace A:=A.trans (D.mono A.size);replace d:=(D.block _ (by omega)).trans d;replace f:=(D.block _ (by omega)).trans f
    replace i:=(D.block _ (by omega)).trans i;have B_w7:Below w.heap.size w w7:=B_w6.trans (D.mono B_w6.size);have a8:w6.heap.size≤w7.heap.size:=D.size;clear D B_w6;have h1:=(ay.out.kept A).pool;have h2:=(al.out.kept s).pool;rw [au.out.1] at h1;have aK:=Q01 (QbX _ _ m.p w7 h1 h2 (Q5K au.out.2) (Qdh au.out.2));clear h1 h2;obtain ⟨Z,aa,ab,ac,ad,ae,af⟩:=Q3V i;obtain ⟨M,N,O,R,T,U,V⟩:=Q3V d;replace d:=Q01 d;replace f:=Q01 f;replace i:=Q01 i;have r:=Q01 B_w7;clear B_w7;replace s:=Q01 s
    replace A:=Q01 A;go_wp2_with fail;clear Z aa ab ac ad ae af;clear M N O R T U V;replace d:=d.out;replace f:=f.out;replace i:=i.out;have B_w7:=r.out;clear r;replace s:=s.out;replace A:=A.out
    first|(rw [au.out.1];refine aK.out.mono ?_)|refine aK.out.mono ?_
    rintro e w8 ⟨rfl,E⟩;replace s:=s.trans (E.mono s.size);replace A:=A.trans (E.mono A.size);replace d:=(E.block _ (by omega)).trans d;replace f:=(E.block _ (by omega)).trans f;replace i:=(E.block _ (by omega)).trans i;have B_w8:Below w.heap.size w w8:=B_w7.trans (E.mono B_w7.size);have a9:w7.heap.size≤w8.heap.size:=E.size;clear E B_w7;replace d:=Q01 d;replace f:=Q01 f;replace i:=Q01 i;have r:=Q01 B_w8;clear B_w8;replace s:=Q01 s;replace A:=Q01 A;go_wp2_with fail;replace d:=d.out;replace f:=f.out
    replace i:=i.out;have B_w8:=r.out;clear r;replace s:=s.out;replace A:=A.out;refine (Q5G _).mono ?_;rintro e w9 ⟨rfl,F⟩;replace s:=s.trans (F.mono s.size);replace A:=A.trans (F.mono A.size);replace d:=(F.block _ (by omega)).trans d;replace f:=(F.block _ (by omega)).trans f;replace i:=(F.block _ (by omega)).trans i;have B_w9:Below w.heap.size w w9:=B_w8.trans (F.mono B_w8.size);have ba:w8.heap.size≤w9.heap.size:=F.size;clear F B_w8;replace d:=Q01 d;replace f:=Q01 f;replace i:=Q01 i;have r:=Q01 B_w9;clear B_w9
    replace s:=Q01 s;replace A:=Q01 A;go_wp2;go_ret;exact ⟨rfl,r.out⟩
theorem fnLearns_lifted (os:Os) (started:os.Started) (H:Type) (enc:TypeId × Value→H):
  ReturnsInHanded {} Tryz.checked os 5 .any (Rows.fnLearnsSpec.pre6 enc Tryz.prog Tryz.f5 Rows.fnLearnsRow.domain false) (Rows.fnLearnsSpec.post enc Tryz.prog Tryz.f5 false true false false):=by
 refine returnsInHanded_of_change (C:=Tryz.checked) own started (by kernel_rfl) Tryz.func5
  (ChangeSpec.witness6 (enc:=enc) (C:=Tryz.checked) false ⟨#[],#[.slice none 0 0],[]⟩ 8 (by kernel_rfl) (by kernel_rfl) (by kernel_rfl) (by kernel_rfl)) ?_
 intro W base args ds gs before hval0 hW hcnd _
 have hval:∀(j:Nat) t v,Tryz.f5.params[j]? =some t→args[j]? =some v→Value.okWide Tryz.prog W .any base t v:=hval0
 have hW':=hW;obtain ⟨p,q,hA0,hV,rfl,hfz,hnd⟩:=hW;have hA:DataW.TrodAll enc Tryz.prog W 0 (fun _=> true) true Tryz.f5.params.toList args.toList ds p:=hA0;rw [Tryz.params5] at hA hval;obtain ⟨v0,vs0,d0,ds0,p0,q0,hargs,rfl,rfl,h0,r0⟩:=trodAll_cons hA;obtain ⟨rfl,rfl,rfl⟩:=trodAll_nil r0
 obtain rfl:args=#[v0]:=by cases args;simp_all
 obtain ⟨rfl,rfl⟩:=trodVars_none hV;have k0:=h0
 have lt0:∀x∈p0,x.block < W.heap.size:=by obtain ⟨m,hm⟩:=k0;exact DataW.trod_lt m _ _ _ hm
 obtain ⟨o0,cap0,l0,rfl,hm0,hR0,hB80⟩:=QcX (hval 0 22 v0 rfl rfl) h0;clear hA0 hval0
 refine (Qf2 o0 cap0 l0 W hm0 hR0 hB80).mono fun e W' ⟨he,bel⟩=> ?_
 subst he;exact ⟨_,rfl,_,_,_,[],_,[],hW',trodAll_mk1 (shut_bool Tryz.underlying4 _),(trodAll_cons_mk (Below.trod Qi9 (by kernel_rfl) (of_decide_eq_true (by kernel_rfl)) k0 bel lt0) trodAll_mk0),rfl,bel.frame _,fun h=> by cases h⟩
theorem fnLearns_over:Rows.fnLearnsRow.holds Tryz.pinned (OpenSpec.ofChange Rows.fnLearnsSpec):=
 OpenClaim.holds_of_wide 5 Tryz.f5 rfl rfl rfl rfl rfl rfl rfl ⟨rfl,rfl,rfl,rfl,rfl⟩ rfl rfl rfl rfl rfl (by kernel_rfl) Tryz.func5 (by kernel_rfl)
  (of_decide_eq_true (by kernel_rfl)) (by unfold Func.isWrapper;first|(rw [if_pos (by decide+kernel)];kernel_rfl)|(rw [if_neg (by decide+kernel)];exact ⟨rfl,rfl⟩))
  (fun os started H enc _=> fnLearns_lifted os started H enc)
theorem fnLearns_holds:Rows.FnLearnsSaid:=fnLearns_over
end Go.Proofs.YtpneolgdghbinaaGreat
