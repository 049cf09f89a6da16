/- For every code the law FnRoutes answers true: what does not open is taken to own alone; what opens hunts the pair of its bucket, behind all who may have it; each is asked once for what it has. No conditions. -/
import Derived.Test.YtpneolgdghbinaaGreatQRoutesL46
namespace Go.Proofs.YtpneolgdghbinaaGreat
open Go.ChangeShapes Go.WideShapes Go.ChangeAt Go.RowKit Go.Joins
set_option linter.unusedVariables false
set_option linter.unusedSimpArgs false
set_option maxRecDepth 100000
set_option maxHeartbeats 40000000
theorem QdK (o0:Option Addr) (cap:Nat) (l:List Int) (w:World) (hm:l.length≤maxLen) (hR:Rd w o0 l) (b2:isB l):
  Calls Tryz.prog 3 #[.slice o0 l.length cap] w fun e w'=> e=.returned (.bool true)∧Below w.heap.size w w':=by
 have B_w:Below w.heap.size w w:=Below.refl _ _;have bW:=Q01 (Q7T o0 cap l w hR b2 hm);clear hR b2 hm;have v:=Q01 B_w;clear B_w;go_enter Tryz.func3,Tryz.ntmps3;go_wp2_with fail;have B_w:=v.out;clear v;refine bW.out.mono ?_;rintro e w1 ⟨kj,o,nj,c,sj,kp,ob,np,cb,oR,nr,cR,ot,nt,ct,m,a,b,f,s,po,pn,pc,L,rfl,hv,hf,cP,aC,_,aI⟩;clear bW;have B_w1:Below w.heap.size w w1:=B_w.trans (aI.mono B_w.size);have cS:w.heap.size≤w1.heap.size:=aI.size;clear aI B_w;have be:pn≤maxLen:=Kdq (show pn≤2000 by omega) (by decide);clear cP aC;have ax:=Q01 (hv.brd (Kaq _) hf);clear hv hf
 have cj:=Q01 ax.out.key;have aE:=Q01 (fun (h1:Q2g m=true) (h2:Q0p a b f s pn=true)=> Qbf h1 h2);have aA:=Q01 (fun (h:Q2g m=false∨Q0p a b f s pn=false)=> Qcy (m:=m) (f:=f) (s:=s) (n:=pn) (a:=a) (b:=b) h);have bz:=Q01 (fun W (h:BalRd W (Q0Z kj (.slice o nj c) sj kp (.slice ob np cb) (.slice oR nr cR) (.slice ot nt ct)) m)=> Q8m a b f s po pn pc be h);have bp:=Q01 (fun W (h:BalRd W (Q0Z kj (.slice o nj c) sj kp (.slice ob np cb) (.slice oR nr cR) (.slice ot nt ct)) m)=> Qah h);have bx:=Q01 (fun W=> Q6H a b f s po pn pc W be);have aV:=Q01 (fun W=> Q43 a b f s po pn pc W be)
 have bv:=Q01 (fun (h:Q0p a b f s pn=true)=> Qas h);clear be;obtain ⟨bb,bB⟩:∃x,Q2g m=x:=⟨_,rfl⟩;obtain ⟨pb,cs⟩:∃x,Q0p a b f s pn=x:=⟨_,rfl⟩;obtain ⟨rt,aM⟩:∃x,Q5N m a b f s pn=x:=⟨_,rfl⟩;rw [aM] at bz aA aE;rw [bB] at bp aE aA;rw [cs] at bx aE aA bv;have aT:=Q01 bB;clear bB cs aM;obtain ⟨w2,ap⟩:∃W,((w1.alloc (.cells #[.int .i64 kj,.slice o nj c,.int .i64 sj,.int .i64 kp,.slice ob np cb,.slice oR nr cR,.slice ot nt ct] 34)).alloc (.cells #[.int .i64 a,.int .i64 b,.int .i64 f,.int .i64 s,.slice po pn pc] 38))=W:=⟨_,rfl⟩;have ay:=alb0v0v2 ap;have g:=alx0v0v2 ap
 have d:=alx0v1v2 ap;have c1:=alz0v1v2 ap;have u:Below w1.heap.size w1 w2:=ay;have B_w2:Below w.heap.size w w2:=B_w1.trans (ay.mono B_w1.size);have cT:w1.heap.size≤w2.heap.size:=ay.size;clear ay B_w1;obtain ⟨B,D,E,G,H,I,J⟩:=Q2P g;obtain ⟨M,N,O,P,T⟩:=Q3W d;replace g:=Q01 g;replace d:=Q01 d;have v:=Q01 B_w2;clear B_w2;replace u:=Q01 u;go_wp2_with fail;clear B D E G H I J;clear M N O P T;replace g:=g.out;replace d:=d.out;have B_w2:=v.out;clear v
 replace u:=u.out;clear ap;refine (bz.out w2 (ax.out.kept u)).mono ?_;rintro e w3 ⟨vr,rfl,ar,am⟩;replace u:=u.trans (am.mono u.size);replace g:=(am.block _ (by omega)).trans g;replace d:=(am.block _ (by omega)).trans d;have B_w3:Below w.heap.size w w3:=B_w2.trans (am.mono B_w2.size);have cU:w2.heap.size≤w3.heap.size:=am.size;clear am B_w2;have Y:=InRow.of ar;obtain ⟨og,cg,a5,_⟩:=ar.open;obtain ⟨rn,bN⟩:∃x,rt.length=x:=⟨_,rfl⟩;rw [bN] at a5;subst a5;have aF:=Q01 bN;clear bN ar bz
 obtain ⟨B,D,E,G,H,I,J⟩:=Q2P g;replace g:=Q01 g;replace d:=Q01 d;replace Y:=Q01 Y;have v:=Q01 B_w3;clear B_w3;replace u:=Q01 u;go_wp2_with fail;clear B D E G H I J;replace g:=g.out;replace d:=d.out;replace Y:=Y.out;have B_w3:=v.out;clear v;replace u:=u.out;refine (bp.out w3 (ax.out.kept u)).mono ?_;rintro e w4 ⟨rfl,ah⟩;replace u:=u.trans (ah.mono u.size);replace g:=(ah.block _ (by omega)).trans g;replace d:=(ah.block _ (by omega)).trans d
 replace Y:=Y.step (Stp.of (lo:=0) (hi:=0) ah) (.inl (Kcq _));have B_w4:Below w.heap.size w w4:=B_w3.trans (ah.mono B_w3.size);have cV:w3.heap.size≤w4.heap.size:=ah.size;clear ah B_w3;clear bp
 cases bb with
 |false=>
  have hz:=aF.out;rw [aA.out (.inl rfl)] at hz;have bT:rn=0:=hz.symm;subst bT;clear hz aA aE Y ax;replace g:=Q01 g;replace d:=Q01 d;have v:=Q01 B_w4;clear B_w4;replace u:=Q01 u;go_wp2_with fail;replace g:=g.out;replace d:=d.out;have B_w4:=v.out;clear v;replace u:=u.out;refine (Q2D _).mono ?_;rintro e w5 ⟨rfl,V⟩;replace u:=u.trans (V.mono u.size);replace g:=(V.block _ (by omega)).trans g;replace d:=(V.block _ (by omega)).trans d;have B_w5:Below w.heap.size w w5:=B_w4.trans (V.mono B_w4.size)
  have bO:w4.heap.size≤w5.heap.size:=V.size;clear V B_w4;replace g:=Q01 g;replace d:=Q01 d;have v:=Q01 B_w5;clear B_w5;replace u:=Q01 u;go_wp2;go_ret;exact ⟨rfl,v.out⟩
 |true=>
  obtain ⟨M,N,O,P,T⟩:=Q3W d;replace g:=Q01 g;replace d:=Q01 d;replace Y:=Q01 Y;have v:=Q01 B_w4;clear B_w4;replace u:=Q01 u;go_wp2_with fail;clear M N O P T;replace g:=g.out;replace d:=d.out;replace Y:=Y.out;have B_w4:=v.out;clear v;replace u:=u.out;refine (bx.out w4).mono ?_;rintro e w5 ⟨rfl,V⟩;replace u:=u.trans (V.mono u.size);replace g:=(V.block _ (by omega)).trans g;replace d:=(V.block _ (by omega)).trans d;replace Y:=Y.step (Stp.of (lo:=0) (hi:=0) V) (.inl (Kcq _))
  have B_w5:Below w.heap.size w w5:=B_w4.trans (V.mono B_w4.size);have bO:w4.heap.size≤w5.heap.size:=V.size;clear V B_w4;clear bx
  cases pb with
  |false=>
   have hz:=aF.out;rw [aA.out (.inr rfl)] at hz;have bT:rn=0:=hz.symm;subst bT;clear hz aA aE Y ax;replace g:=Q01 g;replace d:=Q01 d;have v:=Q01 B_w5;clear B_w5;replace u:=Q01 u;go_wp2_with fail;replace g:=g.out;replace d:=d.out;have B_w5:=v.out;clear v;replace u:=u.out;refine (Q2D _).mono ?_;rintro e w6 ⟨rfl,X⟩;replace u:=u.trans (X.mono u.size);replace g:=(X.block _ (by omega)).trans g;replace d:=(X.block _ (by omega)).trans d;have B_w6:Below w.heap.size w w6:=B_w5.trans (X.mono B_w5.size)
   have bP:w5.heap.size≤w6.heap.size:=X.size;clear X B_w5;replace g:=Q01 g;replace d:=Q01 d;have v:=Q01 B_w6;clear B_w6;replace u:=Q01 u;go_wp2;go_ret;exact ⟨rfl,v.out⟩
  |true=>
   obtain ⟨q,b4,cQ,AA,BB,aM,bd,cF,cG,aX,b5,aG,aq,au,h8⟩:=aE.out (by trivial) (by trivial);have cq:=bv.out (by trivial);rw [cq] at aV;obtain ⟨op,bm⟩:∃x,Q50 f=x:=⟨_,rfl⟩;rw [bm] at aV aG;clear aE aA bv cq bm;have bn:=Q01 (fun W=> Q6O kp a b W)
   have bl:Q0S kp a b=(q:Int):=by rw [cj.out,b4]
   rw [bl] at bn;clear b4 bl;have bq:=Q01 (fun W (h:BalRd W (Q0Z kj (.slice o nj c) sj kp (.slice ob np cb) (.slice oR nr cR) (.slice ot nt ct)) m)=> Q6b (plv kp (.slice ob np cb) (.slice oR nr cR)) m.p (q:Int) W h.pool h.fitP);obtain ⟨cl,b6⟩:∃x,Q6L m.p (q:Int)=x:=⟨_,rfl⟩;rw [b6] at bq aX b5;clear b6;have HI:=Q01 (And.intro aM (And.intro bd (And.intro aX (And.intro aG (And.intro aq (And.intro au h8))))));clear aM bd aX aG aq au h8 cj;obtain ⟨B,D,E,G,H,I,J⟩:=Q2P g;obtain ⟨M,N,O,P,T⟩:=Q3W d;replace g:=Q01 g
   replace d:=Q01 d;replace Y:=Q01 Y;have v:=Q01 B_w5;clear B_w5;replace u:=Q01 u;go_wp2_with fail;clear B D E G H I J;clear M N O P T;replace g:=g.out;replace d:=d.out;replace Y:=Y.out;have B_w5:=v.out;clear v;replace u:=u.out;refine (bn.out w5).mono ?_;rintro e w6 ⟨rfl,X⟩;replace u:=u.trans (X.mono u.size);replace g:=(X.block _ (by omega)).trans g;replace d:=(X.block _ (by omega)).trans d;replace Y:=Y.step (Stp.of (lo:=0) (hi:=0) X) (.inl (Kcq _))
   have B_w6:Below w.heap.size w w6:=B_w5.trans (X.mono B_w5.size);have bP:w5.heap.size≤w6.heap.size:=X.size;clear X B_w5;clear bn;obtain ⟨B,D,E,G,H,I,J⟩:=Q2P g;replace g:=Q01 g;replace d:=Q01 d;replace Y:=Q01 Y;have v:=Q01 B_w6;clear B_w6;replace u:=Q01 u;go_wp2_with fail;clear B D E G H I J;replace g:=g.out;replace d:=d.out;replace Y:=Y.out;have B_w6:=v.out;clear v;replace u:=u.out;refine (bq.out w6 (ax.out.kept u)).mono ?_;rintro e w7 ⟨vc,rfl,ar,ai⟩
   replace u:=u.trans (ai.mono u.size);replace g:=(ai.block _ (by omega)).trans g;replace d:=(ai.block _ (by omega)).trans d;replace Y:=Y.step (Stp.of (lo:=0) (hi:=0) ai) (.inl (Kcq _));have B_w7:Below w.heap.size w w7:=B_w6.trans (ai.mono B_w6.size);have cW:w6.heap.size≤w7.heap.size:=ai.size;clear ai B_w6;have cy:=InRow.of ar;obtain ⟨oc,cc,a5,_⟩:=ar.open;obtain ⟨cn,bE⟩:∃x,cl.length=x:=⟨_,rfl⟩;rw [bE] at a5 b5;subst a5;have bs:=Q01 bE;clear bE ar bq;have bX:=Q01 (RdL.segs ((InL.rd (L:=Q5j) Y).rdl (show _≤w7.heap.size by omega)))
   clear Y;have bV:=Q01 ((InL.rd (L:=Q1P) cy).rdl (show _≤w7.heap.size by omega));clear cy;replace g:=Q01 g;replace d:=Q01 d;have v:=Q01 B_w7;clear B_w7;replace u:=Q01 u;go_wp2
   go_loopw [8,9,10] (fun ov hv iv wr=> ∃(k C:Nat),iv=.int .i64 k∧k≤rn∧Hid (RtInv AA BB w7 wr ov hv k C)) (fun _ _ iv _=> rn - (intOf iv).toNat)
   case atStart=> exact ⟨0,w7.heap.size,rfl,Kcq _,RtInv.start _ _ _⟩
   case round=>
    obtain ⟨k,C,rfl,hk,HR⟩:=hrel;have aR:=HR.out.bel.size;obtain ⟨oo,co,cL,cm⟩:=HR.out.own_rd;subst cL;have a8:=Q01 cm;clear cm
    by_cases hin:k < rn
    ·have ca:(k:Int) < (rn:Int):=by omega
     have aw:=aF.out;rw [HI.out.1,List.length_append,List.length_map,List.length_map] at aw
     obtain ⟨bg,fg,cN,a9,b8⟩:∃bg fg,og=some ⟨bg,fg,none⟩∧bg < w7.heap.size∧∀i,i < rt.length→w7.cell? ⟨bg,fg+i * 2,none⟩=some (.int .i64 (rt.getD i (0,0)).1)∧w7.cell? ⟨bg,fg+i * 2+1,none⟩=some (.int .i64 (rt.getD i (0,0)).2):=by
      rcases bX.out with h|⟨bg,fg,h1,h2,h3⟩
      ·have:=aF.out;rw [h] at this;simp at this;omega
      ·exact ⟨bg,fg,h1,h2,h3⟩
     subst cN;have bJ:=b8 k (by rw [aF.out];exact hin);have g0:=(HR.out.bel.cell (p:=⟨bg,fg+k * 2,none⟩) a9).trans bJ.1;have g1:=(HR.out.bel.cell (p:=⟨bg,fg+k * 2+1,none⟩) a9).trans bJ.2;clear b8 bJ
     by_cases hph:k < AA.length
     ·rw [HI.out.1,Qi2 hph] at g0 g1
      dsimp only at g0 g1;have ck:=HR.out.nil (Nat.le_of_lt hph);subst ck;have bK:=Qgd HI.out.2.1 hph;obtain ⟨x,hx⟩:∃x,AA.getD k 0=x:=⟨_,rfl⟩;rw [hx] at g0 bK;have cC:=Q01 bK;have HX:=Q01 hx;clear bK hx aw
      have bL:(AA.take k).length=k:=by rw [List.length_take];omega
      rw [bL] at HR ⊢;have b1:=Q01 bL;clear bL;go_wp2
      go_loopw [11] (fun jv w2=> ∃j:Nat,jv=.int .i64 j∧j≤k∧Hid (Below wr.heap.size wr w2)) (fun jv _=> k - (intOf jv).toNat)
      case atStart=> exact ⟨0,rfl,Kcq _,Below.refl _ _⟩
      case round=>
       rename World=> w2
       obtain ⟨j,rfl,hj,Z⟩:=hrel
       by_cases hjk:j < k
       ·have ce:(j:Int) < (k:Int):=by omega
        obtain ⟨bo,fo,aL,aQ,ak⟩:=QaD a8.out (by rw [b1.out];exact hjk);subst aL;rw [QcT hjk] at ak;obtain ⟨y,hy⟩:∃y,AA.getD j 0=y:=⟨_,rfl⟩
        have cx:¬(y=x):=by rw [←hy];exact cC.out j hjk
        rw [hy] at ak;clear hy;have aB:bo < wr.heap.size:=Kbq aQ HR.out.hi;have bk:bg < wr.heap.size:=Kbq a9 aR;have G0:=Grown.cell ((Z.out.cell (p:=⟨bo,fo+j,none⟩) aB).trans ak) (Kbq aB Z.out.size);have G1:=Grown.cell ((Z.out.cell (p:=⟨bg,fg+k * 2,none⟩) bk).trans g0) (Kbq bk Z.out.size);clear ak;go_upto_region 18 with fail
        (refine Q0b (by kernel_rfl) (by kernel_rfl) ?_;intro a1;(repeat (go_big_quiet_step (fail)));(with_reducible refine wpQuiet_nil ?_);intro _ aO;obtain ⟨pq,aN⟩:=aO;subst aN)
        go_wp2;go_roundw
        case rel=> exact ⟨j+1,by go_num,hjk,Z.out.trans (pq.b.mono Z.out.size)⟩
        case measure=> simp [intOf];omega
       ·have ce:¬((j:Int) < (k:Int)):=by omega
        have cI:j=k:=by omega
        have cE:=(Z.out.cell (p:=⟨bg,fg+k * 2,none⟩) (Kbq a9 aR)).trans g0;have F:=Q01 (World.ownsRow.alloc (Q03 (HR.out.own.1) Z.out) (.cells #[.int .i64 x] 3));go_wp2_with (at_builtin;refine Q09 Qit rfl _ _ rfl w7.heap.size _ (AA.take k) rfl F.out (some ⟨w2.heap.size,0,none⟩) 1 _ [x] 1 rfl rfl (fun h=> by cases h) (Qe1 w2 x) ?e2 ?e3 ?_)
        case e2=> (try rw [b1.out]);(try simp only [List.length_cons,List.length_nil]);omega
        case e3=> exact Kdq (Kdq aR Z.out.size) (by simp)
        intro v2 cA az aY _;have HN:=Q01 (HR.out.asked hph HX.out Z.out F.out az aY);clear az aY F cE g0 g1;go_wp2;go_roundw
        case rel=> exact ⟨k+1,cA.heap.size,by go_num,hin,HN.out⟩
        case measure=> simp [intOf];omega
     ·have cf:AA.length≤k:=by omega
      have ci:k - AA.length < BB.length:=by omega
      rw [HI.out.1,QgM cf ci] at g0 g1;dsimp only at g0 g1
      have cu:(AA.take k).length=AA.length:=by rw [List.length_take];omega
      rw [cu] at HR
      try rw [cu]
      obtain ⟨y,hy⟩:∃y,BB.getD (k - AA.length) 0=y:=⟨_,rfl⟩;rw [hy] at g0;have HY:=Q01 hy;clear hy aw;have F:=Q01 (World.ownsRow.alloc HR.out.hunt (.cells #[.int .i64 y] 3));go_wp2_with (at_builtin;refine Q09 Qit rfl _ _ rfl C _ (BB.take (k - AA.length)) rfl F.out (some ⟨wr.heap.size,0,none⟩) 1 _ [y] 1 rfl rfl (fun h=> by cases h) (Qe1 wr y) ?e2 ?e3 ?_)
      case e2=> rw [List.length_take];simp only [List.length_cons,List.length_nil];omega
      case e3=> exact Kdq HR.out.hi (by simp)
      intro v2 cA az aY _;have HN:=Q01 (HR.out.hunted cf ci HY.out F.out az aY);clear az aY F g0 g1;go_wp2;go_roundw
      case rel=> exact ⟨k+1,C,by go_num,hin,HN.out⟩
      case measure=> simp [intOf];omega
    ·have ca:¬((k:Int) < (rn:Int)):=by omega
     have cJ:k=rn:=by omega
     subst cJ;have aw:=aF.out;rw [HI.out.1,List.length_append,List.length_map,List.length_map] at aw;have bR:AA.take k=AA:=List.take_of_length_le (by omega);have bS:BB.take (k - AA.length)=BB:=List.take_of_length_le (by omega);rw [bR] at a8;rw [bR];obtain ⟨oh,ch,cZ,az⟩:=HR.out.hunt_rd;subst cZ;rw [bS] at az;rw [bS];have bY:=Q01 az;clear az bR bS aw bX aF;obtain ⟨an,av⟩:∃x,AA.length=x:=⟨_,rfl⟩;rw [av] at cF;simp only [av];have aS:=Q01 av;obtain ⟨hn,ba⟩:∃x,BB.length=x:=⟨_,rfl⟩;rw [ba] at cG;simp only [ba];have a7:=Q01 ba;clear av ba
     have cr:=a8.out.le HR.out.hi;have bu:=Q01 cr;clear cr a8;go_wp2
     go_loopw [12] (fun iv w2=> ∃i:Nat,iv=.int .i64 i∧i≤cn∧Hid (Below wr.heap.size wr w2)) (fun iv _=> cn - (intOf iv).toNat)
     case atStart=> exact ⟨0,rfl,Kcq _,Below.refl _ _⟩
     case round=>
      rename World=> w2
      obtain ⟨i,rfl,hi,ao⟩:=hrel
      by_cases hic:i < cn
      ·have b9:(i:Int) < (cn:Int):=by omega
       obtain ⟨bc,fc,cH,bD,bH⟩:=QaD bV.out (by rw [bs.out];exact hic);subst cH;have a0:=HI.out.2.2.1 (cl.getD i 0) (Qes (by rw [bs.out];exact hic));obtain ⟨x,hx⟩:∃x,cl.getD i 0=x:=⟨_,rfl⟩;rw [hx] at bH a0;have bZ:=Q01 a0;clear hx a0;have c0:=(ao.out.cell (p:=⟨bc,fc+i,none⟩) (Kbq bD aR)).trans ((HR.out.bel.cell (p:=⟨bc,fc+i,none⟩) bD).trans bH);clear bH;go_wp2
       go_loopw [13,14] (fun fv jv w4=> ∃j:Nat,fv=.bool ((AA.take j).contains x)∧jv=.int .i64 j∧j≤an∧Hid (Below w2.heap.size w2 w4)) (fun _ jv _=> an - (intOf jv).toNat)
       case atStart=> exact ⟨0,by simp,rfl,Kcq _,Below.refl _ _⟩
       case round=>
        rename World=> w4
        obtain ⟨j,rfl,rfl,hj,Z⟩:=hrel
        by_cases hja:j < an
        ·have cd:(j:Int) < (an:Int):=by omega
         obtain ⟨bo,fo,aL,aQ,ak⟩:=QaD bu.out (by rw [aS.out];exact hja);subst aL;have aU:=Q01 (Q86 AA x j (by rw [aS.out];exact hja));obtain ⟨y,hy⟩:∃y,AA.getD j 0=y:=⟨_,rfl⟩;rw [hy] at ak aU;clear hy;have cw:wr.heap.size≤w2.heap.size:=ao.out.size;have bj:bc < w2.heap.size:=Kbq bD (Kdq aR cw);have aB:bo < w2.heap.size:=Kbq aQ cw;have G0:=Grown.cell ((Z.out.cell (p:=⟨bo,fo+j,none⟩) aB).trans ((ao.out.cell (p:=⟨bo,fo+j,none⟩) aQ).trans ak)) (Kbq aB Z.out.size);have G1:=Grown.cell ((Z.out.cell (p:=⟨bc,fc+i,none⟩) bj).trans c0) (Kbq bj Z.out.size);clear ak
         obtain ⟨fb,bI⟩:∃z,(AA.take j).contains x=z:=⟨_,rfl⟩;rw [bI] at aU;simp only [bI];clear bI
         cases fb with
         |true=>
          go_upto_region 28 with fail
          (refine Q0b (by kernel_rfl) (by kernel_rfl) ?_;intro a1;(repeat (go_big_quiet_step (fail)));(with_reducible refine wpQuiet_nil ?_);intro _ aO;obtain ⟨pq,aN⟩:=aO;subst aN)
          go_wp2;go_roundw
          case rel=> refine ⟨j+1, ?_,by go_num,hja,Z.out.trans (pq.b.mono Z.out.size)⟩;rw [aU.out];first|rfl|simp [*]|simp
          case measure=> simp [intOf];omega
         |false=>
          by_cases cx:y=x
          ·subst cx
           go_upto_region 28 with fail
           (refine Q0b (by kernel_rfl) (by kernel_rfl) ?_;intro a1;(repeat (go_big_quiet_step (fail)));(with_reducible refine wpQuiet_nil ?_);intro _ aO;obtain ⟨pq,aN⟩:=aO;subst aN)
           go_wp2;go_roundw
           case rel=> refine ⟨j+1, ?_,by go_num,hja,Z.out.trans (pq.b.mono Z.out.size)⟩;rw [aU.out];first|rfl|simp [*]|simp
           case measure=> simp [intOf];omega
          ·skip
           go_upto_region 28 with fail
           (refine Q0b (by kernel_rfl) (by kernel_rfl) ?_;intro a1;(repeat (go_big_quiet_step (fail)));(with_reducible refine wpQuiet_nil ?_);intro _ aO;obtain ⟨pq,aN⟩:=aO;subst aN)
           go_wp2;go_roundw
           case rel=> refine ⟨j+1, ?_,by go_num,hja,Z.out.trans (pq.b.mono Z.out.size)⟩;rw [aU.out];first|rfl|simp [*]|simp
           case measure=> simp [intOf];omega
        ·have cd:¬((j:Int) < (an:Int)):=by omega
         have cI:j=an:=by omega
         have ad:(AA.take j).contains x=true:=by rw [List.take_of_length_le (by rw [aS.out];omega)];simpa using bZ.out
         rw [ad];clear ad;go_wp2;go_roundw
         case rel=> exact ⟨i+1,by go_num,hic,ao.out.trans (Z.out.mono ao.out.size)⟩
         case measure=> simp [intOf];omega
      ·have b9:¬((i:Int) < (cn:Int)):=by omega
       clear hic hi aR;have aW:=Q01 (HR.out.bel.trans (ao.out.mono HR.out.bel.size));have aj:=Q01 ((bu.out.kept ao.out (Kaq _)).le ao.out.size);have ag:=Q01 ((bY.out.kept ao.out (Kaq _)).le ao.out.size);clear bu bY HR ao bV bs;have bU:=Q01 (v.out.trans (aW.out.mono v.out.size));clear v;replace g:=Q01 ((aW.out.block _ (Array.getElem?_eq_some_iff.1 g.out).1).trans g.out);replace d:=Q01 ((aW.out.block _ (Array.getElem?_eq_some_iff.1 d.out).1).trans d.out);replace u:=Q01 (u.out.trans (aW.out.mono u.out.size));clear aW;have v:=bU;clear bU
       replace g:=g.out;replace d:=d.out;have B_w2:=v.out;clear v;replace u:=u.out;have c7:w1.heap.size+1 < w2.heap.size:=(Array.getElem?_eq_some_iff.1 d).1;obtain ⟨aM,bd,aX,aG,aq,au,h8⟩:=HI.out;clear HI aM bd aX;have aC:=(ax.out.kept u).pool;obtain ⟨cK,br,fr,u0,cM,ab,b7,a4⟩:=Qgh aC 0 au
       have c5:(0:Int) < (nr:Int):=by omega
       clear cK;subst cM;obtain ⟨da,c4,cv⟩:=RiT.lenR a4;rw [h8] at cv;subst cv;obtain ⟨bt,ft,u1,cO,ac,ad,bf⟩:=RiRows.atS a4 (Kaq _) q (by rw [h8];exact cQ);subst cO;obtain ⟨c3,cD,cY⟩:=RiI.lenR bf;subst cY;obtain ⟨R,hR⟩:∃x,(m.p.ring.getD 0 []).getD q []=x:=⟨_,rfl⟩;rw [hR] at ad bf aG;have al:=Q01 (RiI.rdR bf (Kaq _));clear bf hR a4 aC h8 au;obtain ⟨pl,aC⟩:∃x,R.length=x:=⟨_,rfl⟩;rw [aC] at ad;have bw:=Q01 aC;clear aC;have aT:=Q01 aG;clear aG;have a6:=Q01 aq;clear aq;have aa:w2.cell? ⟨br,fr,none⟩=some (.slice (some ⟨bt,ft,none⟩) 8 c4):=b7
       clear b7
       have c6:(q:Int) < 8:=by omega
       obtain ⟨B,D,E,G,H,I,J⟩:=Q2P g;obtain ⟨M,N,O,P,T⟩:=Q3W d;replace g:=Q01 g;replace d:=Q01 d;have v:=Q01 B_w2;clear B_w2;replace u:=Q01 u;go_wp2_with fail;clear B D E G H I J;clear M N O P T;replace g:=g.out;replace d:=d.out;have B_w2:=v.out;clear v;replace u:=u.out;refine (aV.out w2).mono ?_;rintro e w8 ⟨rfl,U⟩;replace aa:=(U.cell (p:=⟨br,fr,none⟩) ab).trans aa;replace ad:=(U.cell (p:=⟨bt,ft+q,none⟩) ac).trans ad;replace ab:=Kbq ab U.size
       replace ac:=Kbq ac U.size;replace aj:=Q01 ((aj.out.kept U (Kaq _)).le U.size);replace ag:=Q01 ((ag.out.kept U (Kaq _)).le U.size);replace al:=Q01 ((al.out.kept U (Kaq _)).le U.size);replace u:=u.trans (U.mono u.size);replace g:=(U.block _ (by omega)).trans g;replace d:=(U.block _ (by omega)).trans d;have B_w8:Below w.heap.size w w8:=B_w2.trans (U.mono B_w2.size);have cX:w2.heap.size≤w8.heap.size:=U.size;clear U B_w2
       cases op with
       |false=>
        have aH:=aT.out;rw [if_neg (by decide)] at aH;rw [aH] at ag a7;have aZ:hn=0:=a7.out.symm;subst aZ;clear aT aH;obtain ⟨M,N,O,P,T⟩:=Q3W d;replace g:=Q01 g;replace d:=Q01 d;have v:=Q01 B_w8;clear B_w8;replace u:=Q01 u;go_wp2_with fail;clear M N O P T;replace g:=g.out;replace d:=d.out;have B_w8:=v.out;clear v;replace u:=u.out;refine (aV.out w8).mono ?_;rintro e w9 ⟨rfl,t⟩;replace aa:=(t.cell (p:=⟨br,fr,none⟩) ab).trans aa;replace ad:=(t.cell (p:=⟨bt,ft+q,none⟩) ac).trans ad
        replace ab:=Kbq ab t.size;replace ac:=Kbq ac t.size;replace aj:=Q01 ((aj.out.kept t (Kaq _)).le t.size);replace ag:=Q01 ((ag.out.kept t (Kaq _)).le t.size);replace al:=Q01 ((al.out.kept t (Kaq _)).le t.size);replace u:=u.trans (t.mono u.size);replace g:=(t.block _ (by omega)).trans g;replace d:=(t.block _ (by omega)).trans d;have B_w9:Below w.heap.size w w9:=B_w8.trans (t.mono B_w8.size);have bQ:w8.heap.size≤w9.heap.size:=t.size;clear t B_w8;obtain ⟨B,D,E,G,H,I,J⟩:=Q2P g
        obtain ⟨M,N,O,P,T⟩:=Q3W d;replace g:=Q01 g;replace d:=Q01 d;have v:=Q01 B_w9;clear B_w9;replace u:=Q01 u;go_wp2_with fail;clear B D E G H I J;clear M N O P T;replace g:=g.out;replace d:=d.out;have B_w9:=v.out;clear v;replace u:=u.out;refine (Q82 a b (ax.out.kept u)).mono ?_;rintro e aD ⟨rfl,r⟩;replace aa:=(r.cell (p:=⟨br,fr,none⟩) ab).trans aa;replace ad:=(r.cell (p:=⟨bt,ft+q,none⟩) ac).trans ad;replace ab:=Kbq ab r.size;replace ac:=Kbq ac r.size
        replace aj:=Q01 ((aj.out.kept r (Kaq _)).le r.size);replace ag:=Q01 ((ag.out.kept r (Kaq _)).le r.size);replace al:=Q01 ((al.out.kept r (Kaq _)).le r.size);replace u:=u.trans (r.mono u.size);replace g:=(r.block _ (by omega)).trans g;replace d:=(r.block _ (by omega)).trans d;have B_w10:Below w.heap.size w aD:=B_w9.trans (r.mono B_w9.size);have bh:w9.heap.size≤aD.heap.size:=r.size;clear r B_w9;have aK:=a6.out;obtain ⟨hh,aJ⟩:∃x,Q8b m a b=x:=⟨_,rfl⟩;rw [aJ] at aK;simp only [aJ];clear aJ a6
        have bG:hh < 0∨(¬hh < 0∧0 < an∧(0:Int) < (an:Int)∧∃bo fo,oo=some ⟨bo,fo,none⟩∧aD.cell? ⟨bo,fo,none⟩=some (.int .i64 hh)):=by
         rcases aK with h|⟨a3,bM⟩
         ·exact .inl h
         ·by_cases h:hh < 0
          ·exact .inl h
          ·obtain ⟨bo,fo,aL,aQ,ak⟩:=QaD aj.out a3
           rw [bM] at ak
           have av:0 < an:=by rw [←aS.out];exact a3
           exact .inr ⟨h,av,by omega,bo,fo,aL,ak⟩
        clear aK
        rcases bG with a2|⟨a2,av,b3,bo,fo,rfl,cp⟩
        all_goals
         replace g:=Q01 g;replace d:=Q01 d;have v:=Q01 B_w10;clear B_w10;replace u:=Q01 u;go_wp2_with fail;replace g:=g.out;replace d:=d.out;have B_w10:=v.out;clear v;replace u:=u.out;refine (Q2D _).mono ?_;rintro e aP ⟨rfl,A⟩;replace u:=u.trans (A.mono u.size);replace g:=(A.block _ (by omega)).trans g;replace d:=(A.block _ (by omega)).trans d;have B_w11:Below w.heap.size w aP:=B_w10.trans (A.mono B_w10.size);have bi:aD.heap.size≤aP.heap.size:=A.size;clear A B_w10;replace g:=Q01 g;replace d:=Q01 d
         have v:=Q01 B_w11;clear B_w11;replace u:=Q01 u;go_wp2;go_ret;exact ⟨rfl,v.out⟩
       |true=>
        have aH:=aT.out;rw [if_pos rfl] at aH;rw [aH] at ag a7;have aZ:hn=pl:=a7.out.symm.trans bw.out;subst aZ;clear aT aH;have bA:=Q01 (fun W (hW:Below w8.heap.size w8 W)=> Q6z oh c3 ch cD R W ((ag.out.kept hW (Kaq _)).le hW.size) ((al.out.kept hW (Kaq _)).le hW.size) (by rw [bw.out];omega));rw [bw.out] at bA;have af:Below w8.heap.size w8 w8:=Below.refl _ _
        have c2:hn=0∨(0 < hn∧(0:Int) < (hn:Int)):=by omega
        rcases c2 with rfl|⟨c8,c9⟩
        all_goals
         obtain ⟨B,D,E,G,H,I,J⟩:=Q2P g;obtain ⟨M,N,O,P,T⟩:=Q3W d;replace g:=Q01 g;replace d:=Q01 d;have v:=Q01 B_w8;clear B_w8;replace u:=Q01 u;replace af:=Q01 af;go_wp2_with fail;clear B D E G H I J;clear M N O P T;replace g:=g.out;replace d:=d.out;have B_w8:=v.out;clear v;replace u:=u.out;replace af:=af.out;refine (aV.out w8).mono ?_;rintro e w9 ⟨rfl,t⟩;replace aa:=(t.cell (p:=⟨br,fr,none⟩) ab).trans aa
         replace ad:=(t.cell (p:=⟨bt,ft+q,none⟩) ac).trans ad;replace ab:=Kbq ab t.size;replace ac:=Kbq ac t.size;replace aj:=Q01 ((aj.out.kept t (Kaq _)).le t.size);replace ag:=Q01 ((ag.out.kept t (Kaq _)).le t.size);replace al:=Q01 ((al.out.kept t (Kaq _)).le t.size);replace u:=u.trans (t.mono u.size);replace af:=af.trans (t.mono af.size);replace g:=(t.block _ (by omega)).trans g;replace d:=(t.block _ (by omega)).trans d;have B_w9:Below w.heap.size w w9:=B_w8.trans (t.mono B_w8.size)
         have bQ:w8.heap.size≤w9.heap.size:=t.size;clear t B_w8;obtain ⟨B,D,E,G,H,I,J⟩:=Q2P g;obtain ⟨M,N,O,P,T⟩:=Q3W d;replace g:=Q01 g;replace d:=Q01 d;have v:=Q01 B_w9;clear B_w9;replace u:=Q01 u;replace af:=Q01 af;go_wp2_with fail;clear B D E G H I J;clear M N O P T;replace g:=g.out;replace d:=d.out;have B_w9:=v.out;clear v;replace u:=u.out;replace af:=af.out;refine (bA.out w9 af).mono ?_;rintro e aD ⟨rfl,r⟩
         replace aa:=(r.cell (p:=⟨br,fr,none⟩) ab).trans aa;replace ad:=(r.cell (p:=⟨bt,ft+q,none⟩) ac).trans ad;replace ab:=Kbq ab r.size;replace ac:=Kbq ac r.size;replace aj:=Q01 ((aj.out.kept r (Kaq _)).le r.size);replace ag:=Q01 ((ag.out.kept r (Kaq _)).le r.size);replace al:=Q01 ((al.out.kept r (Kaq _)).le r.size);replace u:=u.trans (r.mono u.size);replace af:=af.trans (r.mono af.size);replace g:=(r.block _ (by omega)).trans g;replace d:=(r.block _ (by omega)).trans d
         have B_w10:Below w.heap.size w aD:=B_w9.trans (r.mono B_w9.size);have bh:w9.heap.size≤aD.heap.size:=r.size;clear r B_w9;clear bA af;obtain ⟨B,D,E,G,H,I,J⟩:=Q2P g;obtain ⟨M,N,O,P,T⟩:=Q3W d;replace g:=Q01 g;replace d:=Q01 d;have v:=Q01 B_w10;clear B_w10;replace u:=Q01 u;go_wp2_with fail;clear B D E G H I J;clear M N O P T;replace g:=g.out;replace d:=d.out;have B_w10:=v.out;clear v;replace u:=u.out;refine (Q82 a b (ax.out.kept u)).mono ?_
         rintro e aP ⟨rfl,A⟩;replace aa:=(A.cell (p:=⟨br,fr,none⟩) ab).trans aa;replace ad:=(A.cell (p:=⟨bt,ft+q,none⟩) ac).trans ad;replace ab:=Kbq ab A.size;replace ac:=Kbq ac A.size;replace aj:=Q01 ((aj.out.kept A (Kaq _)).le A.size);replace ag:=Q01 ((ag.out.kept A (Kaq _)).le A.size);replace al:=Q01 ((al.out.kept A (Kaq _)).le A.size);replace u:=u.trans (A.mono u.size);replace g:=(A.block _ (by omega)).trans g;replace d:=(A.block _ (by omega)).trans d
         have B_w11:Below w.heap.size w aP:=B_w10.trans (A.mono B_w10.size);have bi:aD.heap.size≤aP.heap.size:=A.size;clear A B_w10;have aK:=a6.out;obtain ⟨hh,aJ⟩:∃x,Q8b m a b=x:=⟨_,rfl⟩;rw [aJ] at aK;simp only [aJ];clear aJ a6
         have bG:hh < 0∨(¬hh < 0∧0 < an∧(0:Int) < (an:Int)∧∃bo fo,oo=some ⟨bo,fo,none⟩∧aP.cell? ⟨bo,fo,none⟩=some (.int .i64 hh)):=by
          rcases aK with h|⟨a3,bM⟩
          ·exact .inl h
          ·by_cases h:hh < 0
           ·exact .inl h
           ·obtain ⟨bo,fo,aL,aQ,ak⟩:=QaD aj.out a3
            rw [bM] at ak
            have av:0 < an:=by rw [←aS.out];exact a3
            exact .inr ⟨h,av,by omega,bo,fo,aL,ak⟩
         clear aK
         rcases bG with a2|⟨a2,av,b3,bo,fo,rfl,cp⟩
         all_goals
          replace g:=Q01 g;replace d:=Q01 d;have v:=Q01 B_w11;clear B_w11;replace u:=Q01 u;go_wp2_with fail;replace g:=g.out;replace d:=d.out;have B_w11:=v.out;clear v;replace u:=u.out;refine (Q2D _).mono ?_;rintro e cz ⟨rfl,ae⟩;replace u:=u.trans (ae.mono u.size);replace g:=(ae.block _ (by omega)).trans g;replace d:=(ae.block _ (by omega)).trans d;have B_w12:Below w.heap.size w cz:=B_w11.trans (ae.mono B_w11.size);have cB:aP.heap.size≤cz.heap.size:=ae.size;clear ae B_w11;replace g:=Q01 g;replace d:=Q01 d
          have v:=Q01 B_w12;clear B_w12;replace u:=Q01 u;go_wp2;go_ret;exact ⟨rfl,v.out⟩
theorem fnRoutes_lifted (os:Os) (started:os.Started) (H:Type) (enc:TypeId × Value→H):
  ReturnsInHanded {} Tryz.checked os 3 .any (Rows.fnRoutesSpec.pre6 enc Tryz.prog Tryz.f3 Rows.fnRoutesRow.domain false) (Rows.fnRoutesSpec.post enc Tryz.prog Tryz.f3 false true false false):=by
 refine returnsInHanded_of_change (C:=Tryz.checked) own started (by kernel_rfl) Tryz.func3
  (ChangeSpec.witness6 (enc:=enc) (C:=Tryz.checked) false ⟨#[],#[.slice none 0 0],[]⟩ 8 (by kernel_rfl) (by kernel_rfl) (by kernel_rfl) (by kernel_rfl)) ?_
 intro W base args ds gs before hval0 hW hcnd _
 have hval:∀(j:Nat) t v,Tryz.f3.params[j]? =some t→args[j]? =some v→Value.okWide Tryz.prog W .any base t v:=hval0
 have hW':=hW;obtain ⟨p,q,hA0,hV,rfl,hfz,hnd⟩:=hW;have hA:DataW.TrodAll enc Tryz.prog W 0 (fun _=> true) true Tryz.f3.params.toList args.toList ds p:=hA0;rw [Tryz.params3] at hA hval;obtain ⟨v0,vs0,d0,ds0,p0,q0,hargs,rfl,rfl,h0,r0⟩:=trodAll_cons hA;obtain ⟨rfl,rfl,rfl⟩:=trodAll_nil r0
 obtain rfl:args=#[v0]:=by cases args;simp_all
 obtain ⟨rfl,rfl⟩:=trodVars_none hV;have k0:=h0
 have lt0:∀x∈p0,x.block < W.heap.size:=by obtain ⟨m,hm⟩:=k0;exact DataW.trod_lt m _ _ _ hm
 obtain ⟨o0,cap0,l0,rfl,hm0,hR0,hB80⟩:=Qdi (hval 0 22 v0 rfl rfl) h0;clear hA0 hval0
 refine (QdK o0 cap0 l0 W hm0 hR0 hB80).mono fun e W' ⟨he,bel⟩=> ?_
 subst he;exact ⟨_,rfl,_,_,_,[],_,[],hW',trodAll_mk1 (shut_bool Tryz.underlying4 _),(trodAll_cons_mk (Below.trod QgN (by kernel_rfl) (of_decide_eq_true (by kernel_rfl)) k0 bel lt0) trodAll_mk0),rfl,bel.frame _,fun h=> by cases h⟩
theorem fnRoutes_over:Rows.fnRoutesRow.holds Tryz.pinned (OpenSpec.ofChange Rows.fnRoutesSpec):=
 OpenClaim.holds_of_wide 3 Tryz.f3 rfl rfl rfl rfl rfl rfl rfl ⟨rfl,rfl,rfl,rfl,rfl⟩ rfl rfl rfl rfl rfl (by kernel_rfl) Tryz.func3 (by kernel_rfl)
  (of_decide_eq_true (by kernel_rfl)) (by unfold Func.isWrapper;first|(rw [if_pos (by decide+kernel)];kernel_rfl)|(rw [if_neg (by decide+kernel)];exact ⟨rfl,rfl⟩))
  (fun os started H enc _=> fnRoutes_lifted os started H enc)
theorem fnRoutes_holds:Rows.FnRoutesSaid:=fnRoutes_over
end Go.Proofs.YtpneolgdghbinaaGreat
