/- For every code the law FnLearns answers true: what is learnt is the hint; no more than one other flow's goes for it. No conditions. -/
import Derived.Test.YtpneolgdghbinaaGreatQLearnsL49
import Derived.Test.YtpneolgdghbinaaGreatQLearnsL52
import Derived.Test.YtpneolgdghbinaaGreatQLearnsL55
namespace Go.Proofs.YtpneolgdghbinaaGreat
open Go.ChangeShapes Go.WideShapes Go.ChangeAt Go.RowKit Go.Joins
set_option linter.unusedVariables false
set_option linter.unusedSimpArgs false
set_option maxRecDepth 100000
set_option maxHeartbeats 40000000
theorem Qbp (l:List Sl):(Q1k l).length≤16:=by
 unfold Q1k
 split
 ·next h=> rw [Q6v,Q7T];have:=Q8u l l.length;have:=(Q07.1 h).2.1;omega
 ·exact Kcq _
theorem QbX {W:World} {B:Nat} {z0 z1:Value} {T:TypeId} (h:W.heap[B]? =some (.cells #[z0,z1] T (0,0))):W.cell? ⟨B,0,none⟩=some z0∧W.cell? ⟨B,1,none⟩=some z1:=⟨Q00 h 0 _ rfl,Q00 h 1 _ rfl⟩
theorem Q9F (P:Nat→Bool):∀k,Q3a P k≤k
 |0=> Kaq _
 |k+1=> by show Q3a P k+_≤_;have:=Q9F P k;split <;> omega
theorem QeD (o0:Option Addr) (cap:Nat) (l:List Int) (w:World) (hm:l.length≤maxLen) (hR:Rd w o0 l) (aN:isB l):
  Calls Tryz.prog 5 #[.slice o0 l.length cap] w fun e w'=> e=.returned (.bool true)∧Below w.heap.size w w':=by
 have B_w:Below w.heap.size w w:=Below.refl _ _;have aH:=Q01 (Q9z o0 cap l w hR aN hm);clear hR aN hm;have r:=Q01 B_w;clear B_w;go_enter Tryz.func5,Tryz.ntmps5;go_wp2_with fail;have B_w:=r.out;clear r;refine aH.out.mono ?_;rintro e w1 ⟨kj,o,nj,c,sj,kp,ob,np,cb,oR,nr,cR,ot,nt,ct,m,now,a,b,bk,rfl,hv,hf,al⟩;clear aH;have B_w1:Below w.heap.size w w1:=B_w.trans (al.mono B_w.size);have a9:w.heap.size≤w1.heap.size:=al.size;clear al B_w;have am:=Q01 (hv.brd (Kaq _) hf);clear hv hf;have aA:=Q01 (fun h=> QdG (m:=m) (now:=now) (a:=a) (b:=b) (v:=bk) h)
 have aD:=Q01 (show Q5x m now a b bk=false→Q2p m now a b bk=bm0 from fun h=> by unfold Q2p;rw [if_neg (by rw [h];decide)]);have aC:=Q01 (fun W (h:BalRd W (Q13 kj (.slice o nj c) sj kp (.slice ob np cb) (.slice oR nr cR) (.slice ot nt ct)) m)=> Q9U now a b bk h);obtain ⟨sb,aK⟩:∃x,Q5x m now a b bk=x:=⟨_,rfl⟩;obtain ⟨H,aL⟩:∃x,Q2p m now a b bk=x:=⟨_,rfl⟩;rw [aK,aL] at aC aA aD;clear aK aL
 obtain ⟨w2,aa⟩:∃W,((w1.alloc (.cells #[.int .i64 kj,.slice o nj c,.int .i64 sj,.int .i64 kp,.slice ob np cb,.slice oR nr cR,.slice ot nt ct] 34)).alloc (.cells #[.int .i64 a,.int .i64 b] 36))=W:=⟨_,rfl⟩;have ak:=alb0v0v2 aa;have d:=alx0v0v2 aa;have f:=alx0v1v2 aa;have a1:=alz0v1v2 aa;have s:Below w1.heap.size w1 w2:=ak;have B_w2:Below w.heap.size w w2:=B_w1.trans (ak.mono B_w1.size);have a7:w1.heap.size≤w2.heap.size:=ak.size;clear ak B_w1;obtain ⟨V,T,ag,Y,af,ah,ad⟩:=Q3Z d;obtain ⟨O,M⟩:=QbX f;replace d:=Q01 d
 replace f:=Q01 f;have r:=Q01 B_w2;clear B_w2;replace s:=Q01 s;go_wp2_with fail;clear V T ag Y af ah ad;clear O M;replace d:=d.out;replace f:=f.out;have B_w2:=r.out;clear r;replace s:=s.out;clear aa;refine (aC.out w2 (am.out.kept s)).mono ?_;rintro e w3 ⟨vx,rfl,ap,L⟩;replace s:=s.trans (L.mono s.size);replace d:=(L.block _ (by omega)).trans d;replace f:=(L.block _ (by omega)).trans f;have B_w3:Below w.heap.size w w3:=B_w2.trans (L.mono B_w2.size);have bb:w2.heap.size≤w3.heap.size:=L.size
 clear L B_w2;obtain ⟨ox,cx,aB,az,ay,aE,ax,av,a6⟩:=ap.rd.opn;subst a6;obtain ⟨w4,ac⟩:∃W,w3.alloc (.cells #[.int .i64 H.j.key,.slice ox H.j.l.length cx,.int .i64 H.j.safe,.int .i64 H.p.key,.slice aB H.p.l.length az,.slice ay H.p.ring.length aE,.slice ax H.t.length av] 34)=W:=⟨_,rfl⟩;have i:=alx0v0v1 ac;have J:=alb0v0v1 ac;have bd:=alz0v0v1 ac;replace s:=s.trans (J.mono s.size);replace d:=(J.block _ (by omega)).trans d;replace f:=(J.block _ (by omega)).trans f;replace ap:=ap.step (Stp.of (lo:=0) (hi:=0) J) (.inl (Kcq _))
 have B_w4:Below w.heap.size w w4:=B_w3.trans (J.mono B_w3.size);have a3:w3.heap.size≤w4.heap.size:=J.size;clear J B_w3
 cases sb with
 |false=>
  have e1:=aD.out rfl;subst e1;clear aD aA aC am ap;simp only [bm0,List.length_nil] at i;obtain ⟨q1,q2,q3,q4,q5,q6,q7⟩:=Q3Z i;replace d:=Q01 d;replace f:=Q01 f;replace i:=Q01 i;have r:=Q01 B_w4;clear B_w4;replace s:=Q01 s;go_wp2_with fail;clear q1 q2 q3 q4 q5 q6 q7 ac;replace d:=d.out;replace f:=f.out;replace i:=i.out;have B_w4:=r.out;clear r;replace s:=s.out;refine (Q5r _).mono ?_;rintro e w5 ⟨rfl,u⟩;replace s:=s.trans (u.mono s.size);replace d:=(u.block _ (by omega)).trans d;replace f:=(u.block _ (by omega)).trans f
  replace i:=(u.block _ (by omega)).trans i;have B_w5:Below w.heap.size w w5:=B_w4.trans (u.mono B_w4.size);have aF:w4.heap.size≤w5.heap.size:=u.size;clear u B_w4;replace d:=Q01 d;replace f:=Q01 f;replace i:=Q01 i;have r:=Q01 B_w5;clear B_w5;replace s:=Q01 s;go_wp2;go_ret;exact ⟨rfl,r.out⟩
 |true=>
  obtain ⟨e1,e2,e3,e4,e5⟩:=aA.out rfl;clear aD aA aC;have au:=Q01 (ap.brd (show _≤w4.heap.size by omega) (Qg2 e2));have HE:=Q01 (And.intro e1 (And.intro e2 (And.intro e3 (And.intro e4 e5))));clear e1 e2 e3 e4 e5;have A:Below w4.heap.size w4 w4:=Below.refl _ _;clear ap;have aY:=am.out.tab;obtain ⟨a2,a0,aJ⟩:=aY;subst a2;clear aJ a0;have aP:=Q01 (fun W (hW:Below w1.heap.size w1 W)=> Q7o ot ct m.t W ((am.out.kept hW).tab.2.1) ((am.out.kept hW).tab.2.2));obtain ⟨V,T,ag,Y,af,ah,ad⟩:=Q3Z d;obtain ⟨O,M⟩:=QbX f;replace d:=Q01 d
  replace f:=Q01 f;replace i:=Q01 i;have r:=Q01 B_w4;clear B_w4;replace s:=Q01 s;replace A:=Q01 A;go_wp2_with fail;clear V T ag Y af ah ad;clear O M;replace d:=d.out;replace f:=f.out;replace i:=i.out;have B_w4:=r.out;clear r;replace s:=s.out;replace A:=A.out;clear ac;refine (aP.out w4 s).mono ?_;rintro e w5 ⟨vf,rfl,an,u⟩;replace s:=s.trans (u.mono s.size);replace A:=A.trans (u.mono A.size);replace d:=(u.block _ (by omega)).trans d;replace f:=(u.block _ (by omega)).trans f
  replace i:=(u.block _ (by omega)).trans i;have B_w5:Below w.heap.size w w5:=B_w4.trans (u.mono B_w4.size);have aF:w4.heap.size≤w5.heap.size:=u.size;clear u B_w4;have HF:=Q01 an;obtain ⟨bg,bf,a8,_⟩:=an.open;subst a8;clear an aP;have HP:=Q01 (show ∀k,QeV m H a b (Q1k m.t) k=(!(decide (((Q1k m.t).getD k (0,0)).1=a) && decide (((Q1k m.t).getD k (0,0)).2=b)) && !(decide (Q58 H ((Q1k m.t).getD k (0,0)).1 ((Q1k m.t).getD k (0,0)).2=Q58 m ((Q1k m.t).getD k (0,0)).1 ((Q1k m.t).getD k (0,0)).2))) from fun _=> rfl);have aU:(Q1k m.t).length≤16:=Qbp m.t
  obtain ⟨P,hP⟩:∃x,QeV m H a b (Q1k m.t)=x:=⟨_,rfl⟩;obtain ⟨fs,an⟩:∃x,Q1k m.t=x:=⟨_,rfl⟩;rw [hP] at HP HE;rw [an] at HF HP HE aU;simp only [an];clear hP an;obtain ⟨n,hn⟩:∃x,fs.length=x:=⟨_,rfl⟩;rw [hn] at aU HE;simp only [hn];have HN:=Q01 hn;clear hn;replace d:=Q01 d;replace f:=Q01 f;replace i:=Q01 i;have r:=Q01 B_w5;clear B_w5;replace s:=Q01 s;replace A:=Q01 A;go_wp2
  go_loopw [9,11] (fun lv iv wr=> ∃k:Nat,lv=.int .i64 (Q3a P k:Nat)∧iv=.int .i64 k∧k≤n∧Hid (Below w5.heap.size w5 wr)) (fun _ iv _=> n - (intOf iv).toNat)
  case atStart=> exact ⟨0,rfl,rfl,Kcq _,Below.refl _ _⟩
  case round=>
   obtain ⟨k,rfl,rfl,hk,y⟩:=hrel;have I:=y.out.size
   by_cases hin:k < n
   ·have aM:(k:Int) < (n:Int):=by omega
    have aG:k < fs.length:=by have:=HN.out;omega
    obtain ⟨g,rfl,_,aT⟩:∃g,bg=some ⟨g,0,none⟩∧fs.length≤bf∧g < w5.heap.size:=by
     rcases Qcl HF.out with ⟨_,h,_⟩|h
     ·rw [h] at aG;simp at aG
     ·exact h
    have r1:=Qfm HF.out k aG;have B:=HP.out k;obtain ⟨⟨xa,xp⟩,aQ⟩:∃z,fs.getD k (0,0)=z:=⟨_,rfl⟩;rw [aQ] at r1 B;simp only at r1 B;clear aQ;have GF0:=Grown.cell ((y.out.cell (p:=⟨g,k * 2,none⟩) aT).trans r1.1) (show g < wr.heap.size by omega);have GF1:=Grown.cell ((y.out.cell (p:=⟨g,k * 2+1,none⟩) aT).trans r1.2) (show g < wr.heap.size by omega);clear r1;have ar:=Q01 (fun F:Grown wr=> Q5b xa xp (au.out.kept (A.out.trans ((y.out.trans (F.b.mono y.out.size)).mono A.out.size))))
    have aq:=Q01 (fun F:Grown wr=> Q5b xa xp (am.out.kept (s.out.trans ((y.out.trans (F.b.mono y.out.size)).mono s.out.size))));obtain ⟨aS,aV⟩:∃x,Q58 H xa xp=x:=⟨_,rfl⟩;obtain ⟨aW,aO⟩:∃x,Q58 m xa xp=x:=⟨_,rfl⟩;rw [aV] at ar B;rw [aO] at aq B;clear aV aO;have kA:w1.heap.size < w5.heap.size:=(Array.getElem?_eq_some_iff.1 d.out).1;have yA:=(y.out.block _ kA).trans d.out
    have GA0:∀F:Grown wr,F.v.cell? ⟨w1.heap.size,0,none⟩=some (.int .i64 kj):=Grown.cell (Q00 yA 0 _ rfl) (Kbq kA I)
    have GA1:∀F:Grown wr,F.v.cell? ⟨w1.heap.size,1,none⟩=some (.slice o nj c):=Grown.cell (Q00 yA 1 _ rfl) (Kbq kA I)
    have GA2:∀F:Grown wr,F.v.cell? ⟨w1.heap.size,2,none⟩=some (.int .i64 sj):=Grown.cell (Q00 yA 2 _ rfl) (Kbq kA I)
    have GA3:∀F:Grown wr,F.v.cell? ⟨w1.heap.size,3,none⟩=some (.int .i64 kp):=Grown.cell (Q00 yA 3 _ rfl) (Kbq kA I)
    have GA4:∀F:Grown wr,F.v.cell? ⟨w1.heap.size,4,none⟩=some (.slice ob np cb):=Grown.cell (Q00 yA 4 _ rfl) (Kbq kA I)
    have GA5:∀F:Grown wr,F.v.cell? ⟨w1.heap.size,5,none⟩=some (.slice oR nr cR):=Grown.cell (Q00 yA 5 _ rfl) (Kbq kA I)
    have GA6:∀F:Grown wr,F.v.cell? ⟨w1.heap.size,6,none⟩=some (.slice ot m.t.length ct):=Grown.cell (Q00 yA 6 _ rfl) (Kbq kA I)
    clear yA;have kP:w1.heap.size+1 < w5.heap.size:=(Array.getElem?_eq_some_iff.1 f.out).1;have yP:=(y.out.block _ kP).trans f.out
    have GP0:∀F:Grown wr,F.v.cell? ⟨w1.heap.size+1,0,none⟩=some (.int .i64 a):=Grown.cell (Q00 yP 0 _ rfl) (Kbq kP I)
    have GP1:∀F:Grown wr,F.v.cell? ⟨w1.heap.size+1,1,none⟩=some (.int .i64 b):=Grown.cell (Q00 yP 1 _ rfl) (Kbq kP I)
    clear yP;have kX:w3.heap.size < w5.heap.size:=(Array.getElem?_eq_some_iff.1 i.out).1;have yX:=(y.out.block _ kX).trans i.out
    have GX0:∀F:Grown wr,F.v.cell? ⟨w3.heap.size,0,none⟩=some (.int .i64 H.j.key):=Grown.cell (Q00 yX 0 _ rfl) (Kbq kX I)
    have GX1:∀F:Grown wr,F.v.cell? ⟨w3.heap.size,1,none⟩=some (.slice ox H.j.l.length cx):=Grown.cell (Q00 yX 1 _ rfl) (Kbq kX I)
    have GX2:∀F:Grown wr,F.v.cell? ⟨w3.heap.size,2,none⟩=some (.int .i64 H.j.safe):=Grown.cell (Q00 yX 2 _ rfl) (Kbq kX I)
    have GX3:∀F:Grown wr,F.v.cell? ⟨w3.heap.size,3,none⟩=some (.int .i64 H.p.key):=Grown.cell (Q00 yX 3 _ rfl) (Kbq kX I)
    have GX4:∀F:Grown wr,F.v.cell? ⟨w3.heap.size,4,none⟩=some (.slice aB H.p.l.length az):=Grown.cell (Q00 yX 4 _ rfl) (Kbq kX I)
    have GX5:∀F:Grown wr,F.v.cell? ⟨w3.heap.size,5,none⟩=some (.slice ay H.p.ring.length aE):=Grown.cell (Q00 yX 5 _ rfl) (Kbq kX I)
    have GX6:∀F:Grown wr,F.v.cell? ⟨w3.heap.size,6,none⟩=some (.slice ax H.t.length av):=Grown.cell (Q00 yX 6 _ rfl) (Kbq kX I)
    clear yX
    by_cases e1:xa=a
    ·subst e1
     by_cases e2:xp=b
     ·subst e2
      replace B:Hid (P k=false):=Q01 (by rw [B];simp);go_upto_region 10 with fail
      (refine Q0b (by kernel_rfl) (by kernel_rfl) ?_;intro ao;(repeat (go_big_quiet_step (fail)));(with_reducible refine wpQuiet_nil ?_);intro _ ai;obtain ⟨pq,aj⟩:=ai;subst aj)
      go_wp2;go_roundw
      case rel=> refine ⟨k+1, ?_,by go_num,hin,y.out.trans (pq.b.mono y.out.size)⟩;show _=Value.int .i64 ((Q3a P k+if P k=true then 1 else 0:Nat):Int);rw [B.out];first|rfl|simp|(simp;omega)
      case measure=> simp [intOf];omega
     ·skip
      by_cases e3:aS=aW
      ·subst e3
       replace B:Hid (P k=false):=Q01 (by rw [B];simp);go_upto_region 10 with fail
       (refine Q0b (by kernel_rfl) (by kernel_rfl) ?_;intro ao;(repeat (go_big_quiet_step ((first|(go_at_call 16;with_reducible exact Q14 _ (ar.out _))|(go_at_call 16;with_reducible exact Q14 _ (aq.out _))))));(with_reducible refine wpQuiet_nil ?_);intro _ ai;obtain ⟨pq,aj⟩:=ai;subst aj)
       go_wp2;go_roundw
       case rel=> refine ⟨k+1, ?_,by go_num,hin,y.out.trans (pq.b.mono y.out.size)⟩;show _=Value.int .i64 ((Q3a P k+if P k=true then 1 else 0:Nat):Int);rw [B.out];first|rfl|simp|(simp;omega)
       case measure=> simp [intOf];omega
      ·replace B:Hid (P k=true):=Q01 (by rw [B];simp [e2,e3])
       have bc:Q3a P k≤k:=Q9F P k
       have a4:IntKind.i64.wrap (((Q3a P k:Nat):Int)+1)=((Q3a P k:Nat):Int)+1:=by rw [IntKind.wrap_i64];omega
       go_upto_region 10 with fail
       (refine Q0b (by kernel_rfl) (by kernel_rfl) ?_;intro ao;(repeat (go_big_quiet_step ((first|(go_at_call 16;with_reducible exact Q14 _ (ar.out _))|(go_at_call 16;with_reducible exact Q14 _ (aq.out _))))));(with_reducible refine wpQuiet_nil ?_);intro _ ai;obtain ⟨pq,aj⟩:=ai;subst aj)
       go_wp2;go_roundw
       case rel=> refine ⟨k+1, ?_,by go_num,hin,y.out.trans (pq.b.mono y.out.size)⟩;show _=Value.int .i64 ((Q3a P k+if P k=true then 1 else 0:Nat):Int);rw [B.out];first|rfl|simp|(simp;omega)
       case measure=> simp [intOf];omega
    ·skip
     by_cases e3:aS=aW
     ·subst e3
      replace B:Hid (P k=false):=Q01 (by rw [B];simp);go_upto_region 10 with fail
      (refine Q0b (by kernel_rfl) (by kernel_rfl) ?_;intro ao;(repeat (go_big_quiet_step ((first|(go_at_call 16;with_reducible exact Q14 _ (ar.out _))|(go_at_call 16;with_reducible exact Q14 _ (aq.out _))))));(with_reducible refine wpQuiet_nil ?_);intro _ ai;obtain ⟨pq,aj⟩:=ai;subst aj)
      go_wp2;go_roundw
      case rel=> refine ⟨k+1, ?_,by go_num,hin,y.out.trans (pq.b.mono y.out.size)⟩;show _=Value.int .i64 ((Q3a P k+if P k=true then 1 else 0:Nat):Int);rw [B.out];first|rfl|simp|(simp;omega)
      case measure=> simp [intOf];omega
     ·replace B:Hid (P k=true):=Q01 (by rw [B];simp [e1,e3])
      have bc:Q3a P k≤k:=Q9F P k
      have a4:IntKind.i64.wrap (((Q3a P k:Nat):Int)+1)=((Q3a P k:Nat):Int)+1:=by rw [IntKind.wrap_i64];omega
      go_upto_region 10 with fail
      (refine Q0b (by kernel_rfl) (by kernel_rfl) ?_;intro ao;(repeat (go_big_quiet_step ((first|(go_at_call 16;with_reducible exact Q14 _ (ar.out _))|(go_at_call 16;with_reducible exact Q14 _ (aq.out _))))));(with_reducible refine wpQuiet_nil ?_);intro _ ai;obtain ⟨pq,aj⟩:=ai;subst aj)
      go_wp2;go_roundw
      case rel=> refine ⟨k+1, ?_,by go_num,hin,y.out.trans (pq.b.mono y.out.size)⟩;show _=Value.int .i64 ((Q3a P k+if P k=true then 1 else 0:Nat):Int);rw [B.out];first|rfl|simp|(simp;omega)
      case measure=> simp [intOf];omega
   ·have a5:k=n:=by omega
    have aM:¬((k:Int) < (n:Int)):=by omega
    subst a5;obtain ⟨e1,e2,e3,e4,e5⟩:=HE.out;clear HE HF HP;have aI:=Q01 (r.out.trans (y.out.mono r.out.size));clear r;replace d:=Q01 ((y.out.block _ (Array.getElem?_eq_some_iff.1 d.out).1).trans d.out);replace f:=Q01 ((y.out.block _ (Array.getElem?_eq_some_iff.1 f.out).1).trans f.out);replace i:=Q01 ((y.out.block _ (Array.getElem?_eq_some_iff.1 i.out).1).trans i.out);replace s:=Q01 (s.out.trans (y.out.mono s.out.size));replace A:=Q01 (A.out.trans (y.out.mono A.out.size));clear y
    have HH:=Q01 (fun W (h:BalRd W (Q13 H.j.key (.slice ox H.j.l.length cx) H.j.safe H.p.key (.slice aB H.p.l.length az) (.slice ay H.p.ring.length aE) (.slice ax H.t.length av)) H)=> Q5b a b h);rw [e1] at HH;have HO:=Q01 (fun W (h:BalRd W (Q13 H.j.key (.slice ox H.j.l.length cx) H.j.safe H.p.key (.slice aB H.p.l.length az) (.slice ay H.p.ring.length aE) (.slice ax H.t.length av)) H)=> Qa2 h);rw [e2] at HO
    have bh:((Q3a P k:Nat):Int)≤1:=by omega
    generalize Q3a P k=q at *;have aw:=Q01 (And.intro e3 e5);clear e1 e2 e3 e4 e5;have r:=aI;clear aI;replace d:=d.out;replace f:=f.out;replace i:=i.out;have B_wr:=r.out;clear r;replace s:=s.out;replace A:=A.out;obtain ⟨ab,N,Z,X,U,ae,R⟩:=Q3Z i;obtain ⟨O,M⟩:=QbX f;replace d:=Q01 d;replace f:=Q01 f;replace i:=Q01 i;have r:=Q01 B_wr;clear B_wr;replace s:=Q01 s;replace A:=Q01 A;go_wp2_with fail;clear ab N Z X U ae R;clear O M;replace d:=d.out;replace f:=f.out
    replace i:=i.out;have B_wr:=r.out;clear r;replace s:=s.out;replace A:=A.out;refine (HH.out _ (au.out.kept A)).mono ?_;rintro e w6 ⟨rfl,C⟩;replace s:=s.trans (C.mono s.size);replace A:=A.trans (C.mono A.size);replace d:=(C.block _ (by omega)).trans d;replace f:=(C.block _ (by omega)).trans f;replace i:=(C.block _ (by omega)).trans i;have B_w6:Below w.heap.size w w6:=B_wr.trans (C.mono B_wr.size);have be:wr.heap.size≤w6.heap.size:=C.size;clear C B_wr;obtain ⟨ab,N,Z,X,U,ae,R⟩:=Q3Z i
    replace d:=Q01 d;replace f:=Q01 f;replace i:=Q01 i;have r:=Q01 B_w6;clear B_w6;replace s:=Q01 s;replace A:=Q01 A;go_wp2_with fail;clear ab N Z X U ae R;replace d:=d.out;replace f:=f.out;replace i:=i.out;have B_w6:=r.out;clear r;replace s:=s.out;replace A:=A.out;refine (HO.out _ (au.out.kept A)).mono ?_;rintro e w7 ⟨rfl,E⟩;replace s:=s.trans (E.mono s.size);replace A:=A.trans (E.mono A.size);replace d:=(E.block _ (by omega)).trans d;replace f:=(E.block _ (by omega)).trans f
    replace i:=(E.block _ (by omega)).trans i;have B_w7:Below w.heap.size w w7:=B_w6.trans (E.mono B_w6.size);have aX:w6.heap.size≤w7.heap.size:=E.size;clear E B_w6;have h1:=(au.out.kept A).pool;have h2:=(am.out.kept s).pool;rw [aw.out.1] at h1;have aR:=Q01 (Qba _ _ m.p w7 h1 h2 (Q5q aw.out.2) (Qd4 aw.out.2));clear h1 h2;obtain ⟨ab,N,Z,X,U,ae,R⟩:=Q3Z i;obtain ⟨V,T,ag,Y,af,ah,ad⟩:=Q3Z d;replace d:=Q01 d;replace f:=Q01 f;replace i:=Q01 i;have r:=Q01 B_w7;clear B_w7;replace s:=Q01 s
    replace A:=Q01 A;go_wp2_with fail;clear ab N Z X U ae R;clear V T ag Y af ah ad;replace d:=d.out;replace f:=f.out;replace i:=i.out;have B_w7:=r.out;clear r;replace s:=s.out;replace A:=A.out
    first|(rw [aw.out.1];refine aR.out.mono ?_)|refine aR.out.mono ?_
    rintro e w8 ⟨rfl,G⟩;replace s:=s.trans (G.mono s.size);replace A:=A.trans (G.mono A.size);replace d:=(G.block _ (by omega)).trans d;replace f:=(G.block _ (by omega)).trans f;replace i:=(G.block _ (by omega)).trans i;have B_w8:Below w.heap.size w w8:=B_w7.trans (G.mono B_w7.size);have aZ:w7.heap.size≤w8.heap.size:=G.size;clear G B_w7;replace d:=Q01 d;replace f:=Q01 f;replace i:=Q01 i;have r:=Q01 B_w8;clear B_w8;replace s:=Q01 s;replace A:=Q01 A;go_wp2_with fail;replace d:=d.out;replace f:=f.out
    replace i:=i.out;have B_w8:=r.out;clear r;replace s:=s.out;replace A:=A.out;refine (Q5r _).mono ?_;rintro e w9 ⟨rfl,D⟩;replace s:=s.trans (D.mono s.size);replace A:=A.trans (D.mono A.size);replace d:=(D.block _ (by omega)).trans d;replace f:=(D.block _ (by omega)).trans f;replace i:=(D.block _ (by omega)).trans i;have B_w9:Below w.heap.size w w9:=B_w8.trans (D.mono B_w8.size);have ba:w8.heap.size≤w9.heap.size:=D.size;clear D B_w8;replace d:=Q01 d;replace f:=Q01 f;replace i:=Q01 i;have r:=Q01 B_w9;clear B_w9
    replace s:=Q01 s;replace A:=Q01 A;go_wp2;go_ret;exact ⟨rfl,r.out⟩
theorem fnLearns_lifted (os:Os) (started:os.Started) (H:Type) (enc:TypeId × Value→H):
  ReturnsInHanded {} Tryz.checked os 5 .any (Rows.fnLearnsSpec.pre6 enc Tryz.prog Tryz.f5 Rows.fnLearnsRow.domain false) (Rows.fnLearnsSpec.post enc Tryz.prog Tryz.f5 false true false false):=by
 refine returnsInHanded_of_change (C:=Tryz.checked) own started (by kernel_rfl) Tryz.func5
  (ChangeSpec.witness6 (enc:=enc) (C:=Tryz.checked) false ⟨#[],#[.slice none 0 0],[]⟩ 8 (by kernel_rfl) (by kernel_rfl) (by kernel_rfl) (by kernel_rfl)) ?_
 intro W base args ds gs before hval0 hW hcnd _
 have hval:∀(j:Nat) t v,Tryz.f5.params[j]? =some t→args[j]? =some v→Value.okWide Tryz.prog W .any base t v:=hval0
 have hW':=hW;obtain ⟨p,q,hA0,hV,rfl,hfz,hnd⟩:=hW;have hA:DataW.TrodAll enc Tryz.prog W 0 (fun _=> true) true Tryz.f5.params.toList args.toList ds p:=hA0;rw [Tryz.params5] at hA hval;obtain ⟨v0,vs0,d0,ds0,p0,q0,hargs,rfl,rfl,h0,r0⟩:=trodAll_cons hA;obtain ⟨rfl,rfl,rfl⟩:=trodAll_nil r0
 obtain rfl:args=#[v0]:=by cases args;simp_all
 obtain ⟨rfl,rfl⟩:=trodVars_none hV;have k0:=h0
 have lt0:∀x∈p0,x.block < W.heap.size:=by obtain ⟨m,hm⟩:=k0;exact DataW.trod_lt m _ _ _ hm
 obtain ⟨o0,cap0,l0,rfl,hm0,hR0,hB80⟩:=QdI (hval 0 22 v0 rfl rfl) h0;clear hA0 hval0
 refine (QeD o0 cap0 l0 W hm0 hR0 hB80).mono fun e W' ⟨he,bel⟩=> ?_
 subst he;exact ⟨_,rfl,_,_,_,[],_,[],hW',trodAll_mk1 (shut_bool Tryz.underlying4 _),(trodAll_cons_mk (Below.trod Qi9 (by kernel_rfl) (of_decide_eq_true (by kernel_rfl)) k0 bel lt0) trodAll_mk0),rfl,bel.frame _,fun h=> by cases h⟩
theorem fnLearns_over:Rows.fnLearnsRow.holds Tryz.pinned (OpenSpec.ofChange Rows.fnLearnsSpec):=
 OpenClaim.holds_of_wide 5 Tryz.f5 rfl rfl rfl rfl rfl rfl rfl ⟨rfl,rfl,rfl,rfl,rfl⟩ rfl rfl rfl rfl rfl (by kernel_rfl) Tryz.func5 (by kernel_rfl)
  (of_decide_eq_true (by kernel_rfl)) (by unfold Func.isWrapper;first|(rw [if_pos (by decide+kernel)];kernel_rfl)|(rw [if_neg (by decide+kernel)];exact ⟨rfl,rfl⟩))
  (fun os started H enc _=> fnLearns_lifted os started H enc)
theorem fnLearns_holds:Rows.FnLearnsSaid:=fnLearns_over
end Go.Proofs.YtpneolgdghbinaaGreat
