/- Several texts in one: RouteMath, SRouteS, SRouteI, BalMath, SRouteOf. -/
import Derived.Test.YteffhdcankkfkaaGreatQListed44
import Derived.Test.YteffhdcankkfkaaGreatQListed41
namespace Go.Proofs.YteffhdcankkfkaaGreat
open Go.ChangeShapes Go.WideShapes Go.ChangeAt Go.RowKit Go.Joins
set_option linter.unusedVariables false
set_option linter.unusedSimpArgs false
set_option maxRecDepth 100000
set_option maxHeartbeats 40000000
def Q0M (ok:Bool) (h:Int) (c:List Int) (i:Nat):List (Int × Int):=(if ok=true then[(h,0)]else[])++((c.take i).filter (fun x=> !ok||x !=h)).map (fun x=>(x,0))
theorem Q30 (ok:Bool) (h:Int) (c:List Int):Q0M ok h c 0=if ok=true then[(h,0)]else[]:=by simp[Q0M]
theorem Q3W {ok:Bool} {h:Int} {c:List Int} {i:Nat} (hi:i < c.length) (a:(!ok||c.getD i 0 !=h)=true):Q0M ok h c (i+1)=Q0M ok h c i++[(c.getD i 0,0)]:=by
 unfold Q0M
 have e:c.getD i 0=c[i]:=by simp[hi]
 rw[e]at a ⊢;rw[List.take_succ_eq_append_getElem hi,List.filter_append,List.map_append,List.append_assoc];simp only[List.filter_cons,a,if_true,List.filter_nil,List.map_cons,List.map_nil]
theorem Q4E {ok:Bool} {h:Int} {c:List Int} {i:Nat} (hi:i < c.length) (a:(!ok||c.getD i 0 !=h)=false):Q0M ok h c (i+1)=Q0M ok h c i:=by
 unfold Q0M
 have e:c.getD i 0=c[i]:=by simp[hi]
 rw[e]at a;rw[List.take_succ_eq_append_getElem hi,List.filter_append,List.map_append];simp[a]
theorem Q1o (ok:Bool) (h:Int) (c:List Int) (i:Nat):(Q0M ok h c i).length<=i+1:=by
 unfold Q0M;rw[List.length_append,List.length_map];have a:=List.length_filter_le (fun x=> !ok||x !=h) (c.take i)
 have h2:(c.take i).length<=i:=by rw[List.length_take];omega
 have b:(if ok=true then[(h,(0:Int))]else[]).length<=1:=by cases ok <;> simp
 omega
def Q25 (l:List (Int × Int)) (r:List Int) (i:Nat):List (Int × Int):=l++(r.take i).map (fun x=>(x,1))
theorem Q34 (l:List (Int × Int)) (r:List Int):Q25 l r 0=l:=by simp[Q25]
theorem Q39 {l:List (Int × Int)} {r:List Int} {i:Nat} (hi:i < r.length):Q25 l r (i+1)=Q25 l r i++[(r.getD i 0,1)]:=by
 unfold Q25
 have e:r.getD i 0=r[i]:=by simp[hi]
 rw[e,List.take_succ_eq_append_getElem hi,List.map_append,List.append_assoc]
 rfl
theorem Q2S (l:List (Int × Int)) (r:List Int) (i:Nat):(Q25 l r i).length<=l.length+i:=by
 unfold Q25;rw[List.length_append,List.length_map,List.length_take];omega
def Q3f (ok:Bool) (h:Int) (c:List Int) (op:Bool) (r:List Int):List (Int × Int):=if op=true then Q25 (Q0M ok h c c.length) r r.length else Q0M ok h c c.length
theorem Q4e {k a p:Int} (h:Q1S k=true) (c:Q0g a p=true):∃q:Nat,Q22 k a p=(q:Int)/\q < 8:=by
 have b:0<=Q22 k a p:=by unfold Q22;omega
 have h2:Q22 k a p < 8:=by unfold Q22;omega
 exact⟨(Q22 k a p).toNat,by omega,by omega⟩
structure Ring (lr:List (List (List Int))):Prop where
 pos:1<=lr.length
 le:lr.length<=3
 ok:∀i,i < lr.length->Q1e (lr.getD i [])=true
theorem Ring.len {lr:List (List (List Int))} (h:Ring lr) (i:Nat) (hi:i < lr.length):(lr.getD i []).length=8:=(Q64 (h.ok i hi)).1
theorem Ring.two {lr:List (List (List Int))} (h:Ring lr) (i:Nat) (hi:i < lr.length) (b:Nat) (hb:b < 8):((lr.getD i []).getD b []).length<=2:=Qcr ((Q64 (h.ok i hi)).2 b hb)
theorem Ring.ids {c:List (List (List Int))} (h:Ring c) {b:Nat} (f:b < 8):∀x∈Q1P c b,0<=x/\x < 6:=fun x a=>by
 unfold Q1P at a;rw[Qam]at a
 rcases a with a|⟨t,g,a⟩
 ·cases a
 ·obtain⟨i,hi,rfl⟩:=List.getElem_of_mem g
  have e:c.getD i []=c[i]:=by simp[hi]
  have d:=(Q64 (h.ok i hi)).2 b f;rw[e]at d;exact Qg3 d x a
theorem Ring.six {lr:List (List (List Int))} (h:Ring lr) {b:Nat} (hb:b < 8):(Q1P lr b).length<=6:=
 Q8S 6 _ (Q7q b lr List.nodup_nil) (h.ids hb)
theorem Q4W {w:World} {x y:Int} {T:TypeId}:RdL Q1R (w.alloc (.cells #[.int .i64 x,.int .i64 y] T)).heap.size (w.alloc (.cells #[.int .i64 x,.int .i64 y] T)) (some ⟨w.heap.size,0,none⟩) [(x,y)]:=
 .inr ⟨w.heap.size,0,rfl,by simp,fun i hi j c=>by
  have a:i=0:=by simpa using hi
  subst a
  have b:j=0\/j=1:=by have:j < 2:=c;omega
  rcases b with rfl|rfl
  ·simp[go_sem,Q1R]
  ·simp[go_sem,Q1R]⟩
def Q3x (kp:Int) (lr:List (List (List Int))) (lt:List Sl) (a b f:Int):List (Int × Int):=Q3f (Q2x lt a b).2 (Q9n lt a b).v (Q1P lr (Q22 kp a b).toNat) (Q1H f) ((lr.getD 0 []).getD (Q22 kp a b).toNat [])
theorem QgT {k:Int} (h:Q1S k=true):0<=k/\k < 1000000:=by unfold Q1S at h;simpa using h
theorem Qb3 (kj:Int) (o:Option Addr) (nj c:Nat) (sj kp:Int) (ob:Option Addr) (np cb:Nat) (oR:Option Addr) (nr cR bt ft nt ct:Nat) (lr:List (List (List Int))) (lt:List Sl) (a b f s:Int) (po:Option Addr) (pn pc:Nat) (w:World)
  (bz:nr=lr.length) (bA:nt=lt.length) (hn:0 < lt.length) (hl:lt.length<=1048576) (hk:Q1S kp=true) (aX:Q0g a b=true) (hG:RiR 0 w.heap.size w (.slice oR nr cR) lr) (hr:Ring lr) (br:bt < w.heap.size) (aP:∀i,i < lt.length->∀j,j < Q0u.k->w.cell? ⟨bt,ft+i * Q0u.k+j,none⟩=(Q0u.cs (lt.getD i Q0u.d))[j]?):
  Calls Tryz.prog 65 #[Q5i kj (.slice o nj c) sj kp (.slice ob np cb) (.slice oR nr cR) (.slice (some ⟨bt,ft,none⟩) nt ct),pkt a b f s (.slice po pn pc)] w fun e w'=> ∃v,e=.returned v/\ownL Q1R 136 w' w.heap.size v (Q3x kp lr lt a b f)/\Below w.heap.size w w':=by
 obtain⟨bu,bv⟩:=QgT hk;obtain⟨bl,bm,bn,bo⟩:=Q2t.1 aX;have a2:=Q00 (fun W=>Qa7 kp a b W bu bv bl bm bn bo);obtain⟨qn,hq,aT⟩:=Q4e hk aX;have aC:=Q00 (show Q3x kp lr lt a b f=Q3f (Q2x lt a b).2 (Q9n lt a b).v (Q1P lr qn) (Q1H f) ((lr.getD 0 []).getD qn [])by unfold Q3x;rw[hq];rfl);rw[hq]at a2;have aU:=Q00 (fun W (F:Below w.heap.size w W)=>Qek bt ft ct lt a b W hn hl aX (Kbq br F.size) (fun i hi j hj=>(F.cell (p:=⟨bt,ft+i * Q0u.k+j,none⟩) br).trans (aP i hi j hj)));rw[<-bA]at aU
 have aE:=Q00 (fun W (F:Below w.heap.size w W)=>Q6q kp ob np cb oR cR lr nr bz qn aT W (RiR.mon.go (RiR.stp.go hG (Stp.of (lo:=0) (hi:=0) F) (.inl (Kcq _))) (Kaq _) F.size) (by have:=hr.le;omega) hr.len (fun i hi=>hr.two i hi qn aT));have aH:=Q00 (fun W=>Q7a a b f s po pn pc W);obtain⟨b1,f1,u1,e1,bp,a9,bd⟩:=RiRows.at hG (Kaq _) 0 hr.pos;subst e1;obtain⟨o3,c3,e3,_⟩:=RiT.rd bd;subst e3;obtain⟨b2,f2,u2,e2,bq,aW,bD⟩:=RiRows.at bd (Kaq _) qn (by rw[hr.len 0 hr.pos];exact aT);subst e2;obtain⟨o9,c9,e9,be⟩:=RiV.open bD;subst e9;rw[hr.len 0 hr.pos,Nat.add_zero]at a9
 have h2:=hr.two 0 hr.pos qn aT;have h6:=hr.six aT
 have bJ:0 < nr:=by have:=hr.pos;omega
 have bK:(qn:Int) < 8:=by omega
 clear bd bD hG aP hr hq hk aX bu bv bl bm bn bo;obtain⟨row,a0⟩:∃r,(lr.getD 0 []).getD qn []=r:=⟨_,rfl⟩;rw[a0]at aW be h2 aC;have bk:=Q00 be;obtain⟨m,hm⟩:∃r,row.length=r:=⟨_,rfl⟩;rw[hm]at aW h2;have aV:=Q00 hm;obtain⟨M,bh⟩:∃q,Q9n lt a b=q:=⟨_,rfl⟩;obtain⟨ok,bb⟩:∃q,(Q2x lt a b).2=q:=⟨_,rfl⟩;obtain⟨cs,ba⟩:∃q,Q1P lr qn=q:=⟨_,rfl⟩;obtain⟨op,bc⟩:∃q,Q1H f=q:=⟨_,rfl⟩;rw[bh,bb]at aU;rw[ba]at aE h6;rw[bc]at aH;rw[bh,bb,ba,bc]at aC;have aY:=Q00 a9;have aZ:=Q00 aW;clear a0 hm bh bb ba bc be bA bz hn hl a9 aW
 obtain⟨W0,aJ⟩:∃W,((w.alloc (.cells #[.int .i64 kj,.slice o nj c,.int .i64 sj,.int .i64 kp,.slice ob np cb,.slice (some ⟨b1,f1,none⟩) nr cR,.slice (some ⟨bt,ft,none⟩) nt ct] 34)).alloc (.cells #[.int .i64 a,.int .i64 b,.int .i64 f,.int .i64 s,.slice po pn pc] 108))=W:=⟨_,rfl⟩;have aL:=alb0v0v2 aJ;have HB:=Q00 aL;clear aL;have B:=alz0v0v2 aJ;obtain⟨z0,z1,z2,z3,z4,z5,z6⟩:=alc7v0v2 aJ;have D:=alz0v1v2 aJ;obtain⟨p0,p1,p2,p3,p4⟩:=alc5v1v2 aJ;go_enter Tryz.func65,Tryz.ntmps65;go_wp2_with fail;refine(a2.out W0).mono ?_;rintro e v1 ⟨rfl,F⟩;replace z0:=bC F z0 B
 replace z1:=bC F z1 B;replace z2:=bC F z2 B;replace z3:=bC F z3 B;replace z4:=bC F z4 B;replace z5:=bC F z5 B;replace z6:=bC F z6 B;replace B:=Kbq B F.size;replace p0:=bC F p0 D;replace p1:=bC F p1 D;replace p2:=bC F p2 D;replace p3:=bC F p3 D;replace p4:=bC F p4 D;replace D:=Kbq D F.size;replace HB:=Q00 (HB.out.trans (F.mono HB.out.size));clear F;go_wp2_with fail;refine(aU.out v1 HB.out).mono ?_;rintro e v2 ⟨rfl,F⟩;replace z0:=bC F z0 B;replace z1:=bC F z1 B;replace z2:=bC F z2 B;replace z3:=bC F z3 B;replace z4:=bC F z4 B;replace z5:=bC F z5 B
 replace z6:=bC F z6 B;replace B:=Kbq B F.size;replace p0:=bC F p0 D;replace p1:=bC F p1 D;replace p2:=bC F p2 D;replace p3:=bC F p3 D;replace p4:=bC F p4 D;replace D:=Kbq D F.size;replace HB:=Q00 (HB.out.trans (F.mono HB.out.size));clear F;clear a2 aU;obtain⟨I,a7⟩:∃W,(v2.alloc (.cells #[.bool M.u,.int .i64 M.a,.int .i64 M.p,.int .i64 M.v,.int .i64 M.t] 201))=W:=⟨_,rfl⟩;have C:=alb0v0v1 a7;replace z0:=bC C z0 B;replace z1:=bC C z1 B;replace z2:=bC C z2 B;replace z3:=bC C z3 B;replace z4:=bC C z4 B;replace z5:=bC C z5 B
 replace z6:=bC C z6 B;replace B:=Kbq B C.size;replace p0:=bC C p0 D;replace p1:=bC C p1 D;replace p2:=bC C p2 D;replace p3:=bC C p3 D;replace p4:=bC C p4 D;replace D:=Kbq D C.size;replace HB:=Q00 (HB.out.trans (C.mono HB.out.size));clear C;have H:=alz0v0v1 a7;obtain⟨q0,q1,q2,q3,q4⟩:=alc5v0v1 a7;have E:=HB;clear HB
 cases ok with
 |false=>
  have aI:=Q00 (Q30 false M.v cs);go_wp2_with fail;refine(aE.out I E.out).mono ?_;rintro e w6 ⟨cv,rfl,aq,F⟩;have aG:=Q00 (KLq w6 I.heap.size 136 2);have A:=Q00 F;have an:Hid (ownL Q0T 3 w6 0 cv cs):=Q06 aq (Kcq _);clear F aq aE;obtain⟨co,cc,e5,_⟩:=ownL.open (L:=Q0T) an.out;subst e5;obtain⟨n,aA⟩:∃n,cs.length=n:=⟨_,rfl⟩;rw[aA]at an h6 ⊢;have aF:=Q00 aA;clear aA;have ab:=bC A.out z0 B;have ac:=bC A.out z1 B;have ad:=bC A.out z2 B;have ae:=bC A.out z3 B;have af:=bC A.out z4 B;have ag:=bC A.out z5 B;have ah:=bC A.out z6 B
  have O:=bC A.out p0 D;have P:=bC A.out p1 D;have R:=bC A.out p2 D;have T:=bC A.out p3 D;have U:=bC A.out p4 D;have V:=bC A.out q0 H;have X:=bC A.out q1 H;have Y:=bC A.out q2 H;have Z:=bC A.out q3 H;have aa:=bC A.out q4 H;go_wp2
  go_loopw [5,10] (fun ov iv wr=> ∃i:Nat,i<=n/\iv=.int .i64 (i:Int)/\Hid (ownL Q1R 136 wr I.heap.size ov (Q0M false M.v cs i))/\Hid (ownL Q0T 3 wr 0 (.slice co n cc) cs)/\Hid (Below I.heap.size I wr))
   (fun _ iv _=>n - (intOf iv).toNat)
  case atStart=>exact⟨0,Kcq _,rfl,by rw[aI.out];exact aG.out,an.out,A.out⟩
  case round=>
   clear ab ac ad ae af ag ah O P R T U V X Y Z aa;clear aG an A aI
   rename World=>wr
   obtain⟨i,bH,rfl,HO,HC,z⟩:=hrel;have ab:=bC z.out z0 B;have ac:=bC z.out z1 B;have ad:=bC z.out z2 B;have ae:=bC z.out z3 B;have af:=bC z.out z4 B;have ag:=bC z.out z5 B;have ah:=bC z.out z6 B;have O:=bC z.out p0 D;have P:=bC z.out p1 D;have R:=bC z.out p2 D;have T:=bC z.out p3 D;have U:=bC z.out p4 D;have V:=bC z.out q0 H;have X:=bC z.out q1 H;have Y:=bC z.out q2 H;have Z:=bC z.out q3 H;have aa:=bC z.out q4 H;have aB:=z.out.size
   by_cases hlt:i < n
   ·have bx:(i:Int) < (n:Int):=by omega
    have am:i < cs.length:=by rw[aF.out];exact hlt
    obtain⟨bG,bE,e5,bf⟩:=ownL.open (L:=Q0T) HC.out;injection e5 with e51 e52 e53;subst e51;clear e52 e53
    rcases bf with hh|⟨b3,f3,rfl,ao,ak⟩
    ·rw[hh]at am;exact absurd am (KMq _)
    have aj:=RdL.int ak i am;clear ak;have az:=Q1o false M.v cs i;have aw:=Q00 (fun h=>Q3W (ok:=false) (h:=M.v) (c:=cs) am h);have aD:=Q00 (fun h=>Q4E (ok:=false) (h:=M.v) (c:=cs) am h);obtain⟨ai,al⟩:∃q,Q0M false M.v cs i=q:=⟨_,rfl⟩;rw[al]at HO az aw aD;clear al;obtain⟨oo,oc,e6,_⟩:=ownL.open (L:=Q1R) HO.out;subst e6;obtain⟨y,hy⟩:∃y,cs.getD i 0=y:=⟨_,rfl⟩;rw[hy]at aj aw aD;clear hy;go_wp2
    go_region
    have HS:=Q00 (aw.out (by simp));have a6:Hid (ownL Q1R 136 wr.drew I.heap.size (.slice oo ai.length oc) ai):=HO.out;have HA:=Q00 (World.ownsRow.alloc a6.out (.cells #[.int .i64 y,.int .i64 0] 136));have a4:Hid (ownL Q0T 3 wr.drew 0 (.slice (some ⟨b3,f3,none⟩) n cc) cs):=HC.out;have HCA':=Q00 (World.ownsRow.alloc a4.out (.cells #[.int .i64 y,.int .i64 0] 136));have aO:(wr.drew.alloc (.cells #[.int .i64 y,.int .i64 0] 136)).cell? ⟨b3,f3+i,none⟩=some (.int .i64 y):=bC (show Below wr.drew.heap.size wr.drew _ from KBq.alloc (Kaq _) _) aj ao
    go_wp2_with (first|(at_builtin;refine Q08 QhL rfl (.tmp 55) (.tmp 61) rfl I.heap.size _ ai rfl HA.out (some ⟨wr.drew.heap.size,0,none⟩) 1 _ [(y,0)] 1 rfl rfl (by simp) Q4W (by simp;omega) (by simp;omega) ?_));intro v7 w7 aR ay _;have g:Hid (Below I.heap.size I w7):=((KHq z.out).alloc (show I.heap.size<=wr.drew.heap.size from aB) _).grown ay (by simp;omega) (fun k h=>(HA.out.lt k h).1);have a3:=Q00 (World.ownsRow.kept HCA'.out ay (Q1A HCA'.out HA.out (by decide)));have N:=Q00 aR;clear ay aR HA HCA' aO;go_wp2;go_roundw
    case rel=>exact⟨i+1,by omega,by go_num,by rw[HS.out];exact N.out,a3.out,g.out⟩
    case measure=>simp[intOf];omega
   ·have e:i=n:=by omega
    subst e
    have av:Hid (Q0M false M.v cs cs.length=Q0M false M.v cs i):=by unfold Hid;rw[aF.out]
    go_wp2_with fail;refine(aH.out wr).mono ?_;rintro e w7 ⟨rfl,ax⟩;have N:=Q00 (Q0a HO.out ax);have g:=Q00 (z.out.trans (ax.mono aB));have bg:=g.out.size;clear ab ac ad ae af ag ah O P R T U V X Y Z aa;clear ax HO HC z aB aH;obtain⟨base,J⟩:∃x,Q0M false M.v cs i=x:=⟨_,rfl⟩;rw[J]at N av;have a8:=Q1o false M.v cs i;rw[J]at a8;clear J
    cases op with
    |false=>
     go_wp2;go_ret;exact⟨_,rfl,by rw[aC.out];unfold Q3f;rw[if_neg (by decide),av.out];exact Q06 N.out E.out.size,E.out.trans (g.out.mono E.out.size)⟩
    |true=>
     have ab:=bC g.out z0 B;have ac:=bC g.out z1 B;have ad:=bC g.out z2 B;have ae:=bC g.out z3 B;have af:=bC g.out z4 B;have ag:=bC g.out z5 B;have ah:=bC g.out z6 B;have O:=bC g.out p0 D;have P:=bC g.out p1 D;have R:=bC g.out p2 D;have T:=bC g.out p3 D;have U:=bC g.out p4 D;have V:=bC g.out q0 H;have X:=bC g.out q1 H;have Y:=bC g.out q2 H;have Z:=bC g.out q3 H;have aa:=bC g.out q4 H;have aM:=bC (E.out.trans (g.out.mono E.out.size)) aY.out bp
     have aN:=bC (E.out.trans (g.out.mono E.out.size)) aZ.out bq;go_wp2
     go_loopw [5,12] (fun ov kv wq=> ∃k:Nat,k<=m/\kv=.int .i64 (k:Int)/\Hid (ownL Q1R 136 wq I.heap.size ov (Q25 base row k))/\Hid (Below I.heap.size I wq))
      (fun _ kv _=>m - (intOf kv).toNat)
     case atStart=>exact⟨0,Kcq _,rfl,by rw[Q34];exact N.out,g.out⟩
     case round=>
      clear ab ac ad ae af ag ah O P R T U V X Y Z aa;clear aM aN N g bg
      rename World=>wq
      obtain⟨k,bI,rfl,HO,au⟩:=hrel;have bi:=au.out.size;have ar:=Q00 (E.out.trans (au.out.mono E.out.size))
      by_cases hlk:k < m
      ·have bw:(k:Int) < (m:Int):=by omega
       have ap:k < row.length:=by rw[aV.out];exact hlk
       rcases bk.out with hh|⟨b3,f3,rfl,ao,ak⟩
       ·rw[hh]at ap;exact absurd ap (KMq _)
       have aj:=bC ar.out (RdL.int ak k ap) ao;clear ak;have aK:b3 < wq.heap.size:=Kbq ao ar.out.size;have az:=Q2S base row k;have HS:=Q00 (Q39 (l:=base) ap);obtain⟨ai,al⟩:∃q,Q25 base row k=q:=⟨_,rfl⟩;rw[al]at HO az HS;clear al;obtain⟨oo,oc,e6,_⟩:=ownL.open (L:=Q1R) HO.out;subst e6;obtain⟨y,hy⟩:∃y,row.getD k 0=y:=⟨_,rfl⟩;rw[hy]at aj HS;clear hy;have HA:=Q00 (World.ownsRow.alloc HO.out (.cells #[.int .i64 y,.int .i64 1] 136))
       have aO:(wq.alloc (.cells #[.int .i64 y,.int .i64 1] 136)).cell? ⟨b3,f3+k,none⟩=some (.int .i64 y):=bC (KBq.alloc (Kaq _) _) aj aK;go_wp2_with (first|(at_builtin;refine Q08 QhL rfl (.tmp 79) (.tmp 85) rfl I.heap.size _ ai rfl HA.out (some ⟨wq.heap.size,0,none⟩) 1 _ [(y,1)] 1 rfl rfl (by simp) Q4W (by simp;omega) (by simp;omega) ?_));intro v8 w8 aS aQ _;have a1:=Q00 ((au.out.alloc bi _).grown aQ (by simp;omega) (fun k h=>(HA.out.lt k h).1));have a5:=Q00 aS;clear aQ aS HA;go_wp2;go_roundw
       case rel=>exact⟨k+1,by omega,by go_num,by rw[HS.out];exact a5.out,a1.out⟩
       case measure=>simp[intOf];omega
      ·have e:k=m:=by omega
       subst e;go_wp2;go_ret;exact⟨_,rfl,by rw[aC.out];unfold Q3f;rw[if_pos rfl,av.out,aV.out];exact Q06 HO.out E.out.size,ar.out⟩
 |true=>
  have aI:=Q00 (Q30 true M.v cs);have HA:=Q00 (KLq (I.alloc (.cells #[.int .i64 M.v,.int .i64 0] 136)) I.heap.size 136 2);go_wp2_with (first|(at_builtin;refine Q08 QhL rfl (.tmp 28) (.tmp 32) rfl I.heap.size _ [] rfl HA.out (some ⟨I.heap.size,0,none⟩) 1 _ [(M.v,0)] 1 rfl rfl (by simp) Q4W (by simp) (by simp) ?_));intro v5 w5 bB bs _;have G:=Q00 ((((Below.refl I.heap.size I).alloc (Kaq _) _).grown bs (by simp) (fun k h=>by cases h)));have bj:=Q00 bB;clear bs bB HA;have ab:=bC G.out z0 B;have ac:=bC G.out z1 B;have ad:=bC G.out z2 B
  have ae:=bC G.out z3 B;have af:=bC G.out z4 B;have ag:=bC G.out z5 B;have ah:=bC G.out z6 B;have O:=bC G.out p0 D;have P:=bC G.out p1 D;have R:=bC G.out p2 D;have T:=bC G.out p3 D;have U:=bC G.out p4 D;have V:=bC G.out q0 H;have X:=bC G.out q1 H;have Y:=bC G.out q2 H;have Z:=bC G.out q3 H;have aa:=bC G.out q4 H;go_wp2_with fail;refine(aE.out w5 (E.out.trans (G.out.mono E.out.size))).mono ?_;rintro e w6 ⟨cv,rfl,aq,F⟩;clear ab ac ad ae af ag ah O P R T U V X Y Z aa
  have aG:=Q00 (Q0a bj.out F);have A:=Q00 (G.out.trans (F.mono G.out.size));have an:Hid (ownL Q0T 3 w6 0 cv cs):=Q06 aq (Kcq _);clear F aq aE;obtain⟨co,cc,e5,_⟩:=ownL.open (L:=Q0T) an.out;subst e5;obtain⟨n,aA⟩:∃n,cs.length=n:=⟨_,rfl⟩;rw[aA]at an h6 ⊢;have aF:=Q00 aA;clear aA;have ab:=bC A.out z0 B;have ac:=bC A.out z1 B;have ad:=bC A.out z2 B;have ae:=bC A.out z3 B;have af:=bC A.out z4 B;have ag:=bC A.out z5 B;have ah:=bC A.out z6 B;have O:=bC A.out p0 D;have P:=bC A.out p1 D;have R:=bC A.out p2 D;have T:=bC A.out p3 D
  have U:=bC A.out p4 D;have V:=bC A.out q0 H;have X:=bC A.out q1 H;have Y:=bC A.out q2 H;have Z:=bC A.out q3 H;have aa:=bC A.out q4 H;go_wp2
  go_loopw [5,10] (fun ov iv wr=> ∃i:Nat,i<=n/\iv=.int .i64 (i:Int)/\Hid (ownL Q1R 136 wr I.heap.size ov (Q0M true M.v cs i))/\Hid (ownL Q0T 3 wr 0 (.slice co n cc) cs)/\Hid (Below I.heap.size I wr))
   (fun _ iv _=>n - (intOf iv).toNat)
  case atStart=>exact⟨0,Kcq _,rfl,by rw[aI.out];exact aG.out,an.out,A.out⟩
  case round=>
   clear ab ac ad ae af ag ah O P R T U V X Y Z aa;clear aG an A aI bj G
   rename World=>wr
   obtain⟨i,bH,rfl,HO,HC,z⟩:=hrel;have ab:=bC z.out z0 B;have ac:=bC z.out z1 B;have ad:=bC z.out z2 B;have ae:=bC z.out z3 B;have af:=bC z.out z4 B;have ag:=bC z.out z5 B;have ah:=bC z.out z6 B;have O:=bC z.out p0 D;have P:=bC z.out p1 D;have R:=bC z.out p2 D;have T:=bC z.out p3 D;have U:=bC z.out p4 D;have V:=bC z.out q0 H;have X:=bC z.out q1 H;have Y:=bC z.out q2 H;have Z:=bC z.out q3 H;have aa:=bC z.out q4 H;have aB:=z.out.size
   by_cases hlt:i < n
   ·have bx:(i:Int) < (n:Int):=by omega
    have am:i < cs.length:=by rw[aF.out];exact hlt
    obtain⟨bG,bE,e5,bf⟩:=ownL.open (L:=Q0T) HC.out;injection e5 with e51 e52 e53;subst e51;clear e52 e53
    rcases bf with hh|⟨b3,f3,rfl,ao,ak⟩
    ·rw[hh]at am;exact absurd am (KMq _)
    have aj:=RdL.int ak i am;clear ak;have az:=Q1o true M.v cs i;have aw:=Q00 (fun h=>Q3W (ok:=true) (h:=M.v) (c:=cs) am h);have aD:=Q00 (fun h=>Q4E (ok:=true) (h:=M.v) (c:=cs) am h);obtain⟨ai,al⟩:∃q,Q0M true M.v cs i=q:=⟨_,rfl⟩;rw[al]at HO az aw aD;clear al;obtain⟨oo,oc,e6,_⟩:=ownL.open (L:=Q1R) HO.out;subst e6;obtain⟨y,hy⟩:∃y,cs.getD i 0=y:=⟨_,rfl⟩;rw[hy]at aj aw aD;clear hy
    by_cases hx:y=M.v
    ·have HS:=Q00 (aD.out (by rw[hx];simp))
     subst hx;go_wp2
     go_region
     all_goals (try go_wp2)
     go_roundw
     case rel=>exact⟨i+1,by omega,by go_num,by rw[HS.out];exact HO.out,HC.out,KHq z.out⟩
     case measure=>simp[intOf];omega
    ·have bL:¬M.v=y:=fun e=>hx e.symm
     go_wp2
     go_region
     have HS:=Q00 (aw.out (by simp[hx]));have a6:Hid (ownL Q1R 136 wr.drew I.heap.size (.slice oo ai.length oc) ai):=HO.out;have HA:=Q00 (World.ownsRow.alloc a6.out (.cells #[.int .i64 y,.int .i64 0] 136));have a4:Hid (ownL Q0T 3 wr.drew 0 (.slice (some ⟨b3,f3,none⟩) n cc) cs):=HC.out;have HCA':=Q00 (World.ownsRow.alloc a4.out (.cells #[.int .i64 y,.int .i64 0] 136));have aO:(wr.drew.alloc (.cells #[.int .i64 y,.int .i64 0] 136)).cell? ⟨b3,f3+i,none⟩=some (.int .i64 y):=bC (show Below wr.drew.heap.size wr.drew _ from KBq.alloc (Kaq _) _) aj ao
     go_wp2_with (first|(at_builtin;refine Q08 QhL rfl (.tmp 55) (.tmp 61) rfl I.heap.size _ ai rfl HA.out (some ⟨wr.drew.heap.size,0,none⟩) 1 _ [(y,0)] 1 rfl rfl (by simp) Q4W (by simp;omega) (by simp;omega) ?_));intro v7 w7 aR ay _;have g:Hid (Below I.heap.size I w7):=((KHq z.out).alloc (show I.heap.size<=wr.drew.heap.size from aB) _).grown ay (by simp;omega) (fun k h=>(HA.out.lt k h).1);have a3:=Q00 (World.ownsRow.kept HCA'.out ay (Q1A HCA'.out HA.out (by decide)));have N:=Q00 aR;clear ay aR HA HCA' aO;go_wp2;go_roundw
     case rel=>exact⟨i+1,by omega,by go_num,by rw[HS.out];exact N.out,a3.out,g.out⟩
     case measure=>simp[intOf];omega
   ·have e:i=n:=by omega
    subst e
    have av:Hid (Q0M true M.v cs cs.length=Q0M true M.v cs i):=by unfold Hid;rw[aF.out]
    go_wp2_with fail;refine(aH.out wr).mono ?_;rintro e w7 ⟨rfl,ax⟩;have N:=Q00 (Q0a HO.out ax);have g:=Q00 (z.out.trans (ax.mono aB));have bg:=g.out.size;clear ab ac ad ae af ag ah O P R T U V X Y Z aa;clear ax HO HC z aB aH;obtain⟨base,J⟩:∃x,Q0M true M.v cs i=x:=⟨_,rfl⟩;rw[J]at N av;have a8:=Q1o true M.v cs i;rw[J]at a8;clear J
    cases op with
    |false=>
     go_wp2;go_ret;exact⟨_,rfl,by rw[aC.out];unfold Q3f;rw[if_neg (by decide),av.out];exact Q06 N.out E.out.size,E.out.trans (g.out.mono E.out.size)⟩
    |true=>
     have ab:=bC g.out z0 B;have ac:=bC g.out z1 B;have ad:=bC g.out z2 B;have ae:=bC g.out z3 B;have af:=bC g.out z4 B;have ag:=bC g.out z5 B;have ah:=bC g.out z6 B;have O:=bC g.out p0 D;have P:=bC g.out p1 D;have R:=bC g.out p2 D;have T:=bC g.out p3 D;have U:=bC g.out p4 D;have V:=bC g.out q0 H;have X:=bC g.out q1 H;have Y:=bC g.out q2 H;have Z:=bC g.out q3 H;have aa:=bC g.out q4 H;have aM:=bC (E.out.trans (g.out.mono E.out.size)) aY.out bp
     have aN:=bC (E.out.trans (g.out.mono E.out.size)) aZ.out bq;go_wp2
     go_loopw [5,12] (fun ov kv wq=> ∃k:Nat,k<=m/\kv=.int .i64 (k:Int)/\Hid (ownL Q1R 136 wq I.heap.size ov (Q25 base row k))/\Hid (Below I.heap.size I wq))
      (fun _ kv _=>m - (intOf kv).toNat)
     case atStart=>exact⟨0,Kcq _,rfl,by rw[Q34];exact N.out,g.out⟩
     case round=>
      clear ab ac ad ae af ag ah O P R T U V X Y Z aa;clear aM aN N g bg
      rename World=>wq
      obtain⟨k,bI,rfl,HO,au⟩:=hrel;have bi:=au.out.size;have ar:=Q00 (E.out.trans (au.out.mono E.out.size))
      by_cases hlk:k < m
      ·have bw:(k:Int) < (m:Int):=by omega
       have ap:k < row.length:=by rw[aV.out];exact hlk
       rcases bk.out with hh|⟨b3,f3,rfl,ao,ak⟩
       ·rw[hh]at ap;exact absurd ap (KMq _)
       have aj:=bC ar.out (RdL.int ak k ap) ao;clear ak;have aK:b3 < wq.heap.size:=Kbq ao ar.out.size;have az:=Q2S base row k;have HS:=Q00 (Q39 (l:=base) ap);obtain⟨ai,al⟩:∃q,Q25 base row k=q:=⟨_,rfl⟩;rw[al]at HO az HS;clear al;obtain⟨oo,oc,e6,_⟩:=ownL.open (L:=Q1R) HO.out;subst e6;obtain⟨y,hy⟩:∃y,row.getD k 0=y:=⟨_,rfl⟩;rw[hy]at aj HS;clear hy;have HA:=Q00 (World.ownsRow.alloc HO.out (.cells #[.int .i64 y,.int .i64 1] 136))
       have aO:(wq.alloc (.cells #[.int .i64 y,.int .i64 1] 136)).cell? ⟨b3,f3+k,none⟩=some (.int .i64 y):=bC (KBq.alloc (Kaq _) _) aj aK;go_wp2_with (first|(at_builtin;refine Q08 QhL rfl (.tmp 79) (.tmp 85) rfl I.heap.size _ ai rfl HA.out (some ⟨wq.heap.size,0,none⟩) 1 _ [(y,1)] 1 rfl rfl (by simp) Q4W (by simp;omega) (by simp;omega) ?_));intro v8 w8 aS aQ _;have a1:=Q00 ((au.out.alloc bi _).grown aQ (by simp;omega) (fun k h=>(HA.out.lt k h).1));have a5:=Q00 aS;clear aQ aS HA;go_wp2;go_roundw
       case rel=>exact⟨k+1,by omega,by go_num,by rw[HS.out];exact a5.out,a1.out⟩
       case measure=>simp[intOf];omega
      ·have e:k=m:=by omega
       subst e;go_wp2;go_ret;exact⟨_,rfl,by rw[aC.out];unfold Q3f;rw[if_pos rfl,av.out,aV.out];exact Q06 HO.out E.out.size,ar.out⟩
theorem Q6V (S base:Nat) (m id:Int) (v:Value) (l:List (Int × Int)) (w:World) (z:w.heap[S]? =some (.cells #[v] 109 (0,0))) (D:ownL Q1R 136 w base v l) (T:l.length<=1000) (R:base<=w.heap.size):
  Calls Tryz.prog 170 #[.int .i64 m,.int .i64 id,.pointer (some ⟨S,0,none⟩)] w fun e A=>e=.returned (.tuple #[])/\∃H,A.heap[S]? =some (.cells #[H] 109 (0,0))/\ownL Q1R 136 A base H (l++[(id,m)])/\(∀B,B<=S->B<=base->Below B w A)/\(∀(l2:List Int) (r:Value),ownL Q0T 3 w 0 r l2->ownL Q0T 3 A 0 r l2):=by
 obtain⟨F,E,J,_⟩:=ownL.open (L:=Q1R) D;subst J;have t:S < w.heap.size:=(KEq z);have I:w.cell? ⟨S,0,none⟩=some (.slice F l.length E):=Q02 z 0 _ rfl;have s:=Q00 (World.ownsRow.alloc D (.cells #[.int .i64 id,.int .i64 m] 136));have c:Below w.heap.size w (w.alloc (.cells #[.int .i64 id,.int .i64 m] 136)):=KBq.alloc (Kaq _) _;have N:=bC c I t;have n:=Q00 ((c.block S t).trans z);have C:=Q00 c;clear c z D;go_enter Tryz.func170,Tryz.ntmps170
 go_wp2_with (first|(at_builtin;refine Q08 QhL rfl (.tmp 5) (.tmp 9) rfl base _ l rfl s.out (some ⟨w.heap.size,0,none⟩) 1 _ [(id,m)] 1 rfl rfl (by simp) Q4W (by simp;omega) (by simp;omega) ?_));intro U j d a _;obtain⟨i,f,G,_⟩:=ownL.open (L:=Q1R) d;obtain⟨g,u⟩:∃x,(l++[(id,m)]).length=x:=⟨_,rfl⟩;rw[u]at G;subst G;clear u
 have M:w.heap.size < j.heap.size:=by have:=a.size;simp at this;omega
 have q:j.heap[S]? =some (.cells #[.slice F l.length E] 109 (0,0)):=by
  refine(a.block S (by simp;omega) ?_).trans n.out;intro e
  rcases Q5c s.out n.out (by decide)with h|h
  ·rw[h]at e;cases e
  ·exact h e.symm
 have b:Hid ((j.setCell ⟨S,0,none⟩ (.slice i g f)).heap[S]? =some (.cells #[.slice i g f] 109 (0,0))/\ownL Q1R 136 (j.setCell ⟨S,0,none⟩ (.slice i g f)) base (.slice i g f) (l++[(id,m)])/\(∀B,B<=S->B<=base->Below B w (j.setCell ⟨S,0,none⟩ (.slice i g f)))/\(∀(l2:List Int) (r:Value),ownL Q0T 3 w 0 r l2->ownL Q0T 3 (j.setCell ⟨S,0,none⟩ (.slice i g f)) 0 r l2)):=by
  refine⟨Q0p q 0 _,World.ownsRow.kept d (Q18 j S 0 (.slice i g f)) (Q5c d q (by decide)),fun B y h2=>?_,fun l2 r h=>?_⟩
  ·exact((((Below.refl B w).alloc (by omega) _).grown a (by simp;omega) (fun k h=>Kdq h2 (s.out.lt k h).1)).setCell (p:=⟨S,0,none⟩) y _)
  ·have y:=World.ownsRow.alloc h (.cells #[.int .i64 id,.int .i64 m] 136)
   have h2:=World.ownsRow.kept y a (Q1A y s.out (by decide));exact World.ownsRow.kept h2 (Q18 j S 0 (.slice i g f)) (Q5c h2 q (by decide))
 have O:j.cell? ⟨S,0,none⟩=some (.slice F l.length E):=Q02 q 0 _ rfl;have P:=Q04 q 0;clear q a d s n C;go_wp2
 go_end0
 exact⟨rfl,.slice i g f,b.out.1,b.out.2.1,b.out.2.2.1,b.out.2.2.2⟩
theorem Qe3 {m:Pm} {q:Nat} (h:Q2U m=true) (h8:q < 8):Qex m (q:Int)=Q1P m.ring q:=by
 unfold Qex;rw[h,decide_eq_true (show(0:Int)<=q by omega),decide_eq_true (show(q:Int) < 8 by omega)];simp
theorem Ring.of {m:Pm} (h:Q2U m=true):Ring m.ring:=by
 obtain⟨_,_,h3,h4,h5⟩:=Q2W h;exact⟨h3,h4,h5⟩
theorem Q9I {k a p:Int} (h:Q1S k=true) (hf:Q0g a p=true):Q1M k a p=Q22 k a p:=by
 unfold Q1M;have h1:=QgT h;rw[if_pos ⟨h1.1,h1.2,hf⟩]
theorem QeT {a b f s:Int} {n:Nat} (h:Q0l a b f s n=true):Q26 a b f s n=Q1H f:=by
 unfold Q26;rw[h];rfl
theorem Qe1 (g nt xc base:Nat) (kq:Int) (yo:Option Addr) (yn yc:Nat) (sq kp:Int) (uo:Option Addr) (un uc:Nat) (vo:Option Addr) (vn vc:Nat) (lb:List Bk) (lr:List (List (List Int))) (lt:List Sl) (a b f s:Int) (po:Option Addr) (pn pc:Nat) (w:World)
  (bh:nt=lt.length) (hn:0 < lt.length) (hl:lt.length<=1048576) (bx:pn<=maxLen) (bw:Q0l a b f s pn=true) (a1:Q0g a b=true) (hv:(Q2x lt a b).2=true->0<=(Q9n lt a b).v) (hp:Q8f w.heap.size w (plv kp (.slice uo un uc) (.slice vo vn vc)) ⟨kp,lb,lr⟩) (a2:Q2U ⟨kp,lb,lr⟩=true) (a6:Q3a ⟨kp,lb,lr⟩) (ho:w.ownsRow base Q3m 5 (.slice (some ⟨g,0,none⟩) nt xc) nt (lt.flatMap Q0u.cs)):
  Calls Tryz.prog 123 #[QaN (.slice (some ⟨g,0,none⟩) nt xc) kq (.slice yo yn yc) sq kp (.slice uo un uc) (.slice vo vn vc),pkt a b f s (.slice po pn pc)] w fun e w'=> ∃v,e=.returned v/\ownL Q1R 136 w' w.heap.size v (Q3x kp lr lt a b f)/\Below w.heap.size w w':=by
 have hk:Q1S kp=true:=(Q2W a2).1;have hr:Ring lr:=Ring.of a2;have ay:=Q00 (fun W=>Q5U kp a b W);rw[Q9I hk a1]at ay;obtain⟨qn,hq,aT⟩:=Q4e hk a1;have aB:=Q00 (show Q3x kp lr lt a b f=Q3f (Q2x lt a b).2 (Q9n lt a b).v (Q1P lr qn) (Q1H f) ((lr.getD 0 []).getD qn [])by unfold Q3x;rw[hq];rfl);rw[hq]at ay;have am:=Q00 (fun W (T:Below w.heap.size w W)=>QdF g 0 xc lt a b W hn hl a1 (Kbq (ho.lt g rfl).2 T.size) (Q6f (Q0a ho T) bh));rw[<-bh]at am
 have ap:=Q00 (fun W (T:Below w.heap.size w W)=>Q5a (plv kp (.slice uo un uc) (.slice vo vn vc)) ⟨kp,lb,lr⟩ (qn:Int) W ((hp.kept T (Kaq _)).le T.size) a6);rw[Qe3 a2 aT]at ap;have aA:=Q00 (fun W=>Q4u a b f s po pn pc W bx);rw[QeT bw]at aA;obtain⟨bS,bT,e9,_,hG⟩:=hp;simp only[Value.agg.injEq,Array.mk.injEq,List.cons.injEq,and_true,true_and]at e9;obtain⟨bE,bG⟩:=e9;subst bE bG;dsimp only at hG ap;obtain⟨oz,cz,ez⟩:=RiR.len hG;injection ez with ez1 ez2 ez3;obtain⟨b1,f1,u1,e1,bs,be,bk⟩:=RiRows.at hG (Kaq _) 0 hr.pos;subst e1;obtain⟨o3,c3,e3,_⟩:=RiT.rd bk;subst e3
 obtain⟨b2,f2,u2,e2,aL,a0,bz⟩:=RiRows.at bk (Kaq _) qn (by rw[hr.len 0 hr.pos];exact aT);subst e2;obtain⟨o9,c9,e9,bl⟩:=RiV.open bz;subst e9;rw[hr.len 0 hr.pos,Nat.add_zero]at be;have h2:=hr.two 0 hr.pos qn aT;have h6:=hr.six aT;have ba:=Q00 (hr.ids aT)
 have bL:0 < vn:=by have:=hr.pos;omega
 have bM:(qn:Int) < 8:=by omega
 clear bk bz hG hr hq hk a1 ho a2 a6 bw bx ez1 ez2 ez3;obtain⟨row,a7⟩:∃r,(lr.getD 0 []).getD qn []=r:=⟨_,rfl⟩;rw[a7]at a0 bl h2 aB;have bq:=Q00 bl;obtain⟨m,hm⟩:∃r,row.length=r:=⟨_,rfl⟩;rw[hm]at a0 h2;have aZ:=Q00 hm;have az:=Q00 (show Qgx lt a b=if(Q2x lt a b).2=true then(Q9n lt a b).v else -1 from rfl);obtain⟨h,hh⟩:∃q,(Q9n lt a b).v=q:=⟨_,rfl⟩;obtain⟨ok,bi⟩:∃q,(Q2x lt a b).2=q:=⟨_,rfl⟩;obtain⟨cs,bf⟩:∃q,Q1P lr qn=q:=⟨_,rfl⟩;obtain⟨op,bj⟩:∃q,Q1H f=q:=⟨_,rfl⟩;obtain⟨hi,an⟩:∃q,Qgx lt a b=q:=⟨_,rfl⟩;rw[an]at am az;rw[hh,bi]at az hv
 rw[bf]at ap h6 ba;rw[bj]at aA;rw[hh,bi,bf,bj]at aB;have a4:=Q00 be;have a5:=Q00 a0;clear a7 hm hh bi bf bj an bl bh hn hl be a0
 have bN:∀(fn:Fn) (first cap:Array Value) (w:World),(Instr.makeFunc fn first cap).run Tryz.prog w=.ok (.func fn first cap) w:=fun _ _ _ _=>rfl
 obtain⟨W0,ak⟩:∃W,(((w.alloc (.cells #[.slice (some ⟨g,0,none⟩) nt xc,.int .i64 kq,.slice yo yn yc,.int .i64 sq,.int .i64 kp,.slice uo un uc,.slice (some ⟨b1,f1,none⟩) vn vc] 123)).alloc (.cells #[.int .i64 a,.int .i64 b,.int .i64 f,.int .i64 s,.slice po pn pc] 108)).alloc (.cells #[.slice none 0 0] 109))=W:=⟨_,rfl⟩;have aO:=alb0v0v3 ak;have HB:=Q00 aO;clear aO;have zx:=alz0v0v3 ak;obtain⟨x0,x1,x2,x3,x4,x5,x6⟩:=alc7v0v3 ak;have zp:=alz0v1v3 ak;obtain⟨p0,p1,p2,p3,p4⟩:=alc5v1v3 ak;have bU:=alz0v2v3 ak
 have bR:W0.cell? ⟨w.heap.size+1+1,0,none⟩=some (.slice none 0 0):=by rw[<-ak];simp[go_sem]
 have br:Hid _:=alx0v2v3 ak
 have bK:w.heap.size+1+1+1=W0.heap.size:=by rw[<-ak];simp
 have d:w.heap.size < w.heap.size+1+1:=by omega
 have j:w.heap.size+1 < w.heap.size+1+1:=by omega
 have af:=HB;clear HB
 cases ok with
 |false=>
  have an:hi=(-1):=by rw[az.out];rfl
  rw[an]at am;clear az an;have aI:=Q00 (Q30 false h cs);clear hv;go_enter Tryz.func123,Tryz.ntmps123;go_wp2_with fail;refine(am.out W0 af.out).mono ?_;rintro e v1 ⟨rfl,T⟩;have aJ:Hid (v1.heap[w.heap.size+1+1]? =some (.cells #[.slice none 0 0] 109 (0,0))):=(T.block _ (by omega)).trans br.out;have A:Hid (Below (w.heap.size+1+1) W0 v1):=T.mono (by omega);have a3:=T.size;clear T am;have H:=bC A.out x0 d;have I:=bC A.out x1 d;have J:=bC A.out x2 d;have M:=bC A.out x3 d;have N:=bC A.out x4 d;have O:=bC A.out x5 d;have P:=bC A.out x6 d
  have C:=bC A.out p0 j;have D:=bC A.out p1 j;have E:=bC A.out p2 j;have F:=bC A.out p3 j;have G:=bC A.out p4 j;have aE:=Q00 (KLq v1 W0.heap.size 136 2);obtain⟨v2,bJ⟩:∃W,v1=W:=⟨_,rfl⟩;subst bJ;have ah:=aJ;have aF:=aE;have R:=A;clear aJ aE A a3;go_wp2_with fail;refine(ay.out v1).mono ?_;rintro e v3 ⟨rfl,T⟩;clear H I J M N O P C D E F G;have ai:=Q00 ((T.block _ (KEq ah.out)).trans ah.out);have aG:=Q00 (Q0a aF.out T)
  have u:=Q00 (R.out.trans (T.mono (by have:=(KEq ah.out);omega)));clear T ah aF R ay;have H:=bC u.out x0 d;have I:=bC u.out x1 d;have J:=bC u.out x2 d;have M:=bC u.out x3 d;have N:=bC u.out x4 d;have O:=bC u.out x5 d;have P:=bC u.out x6 d;have C:=bC u.out p0 j;have D:=bC u.out p1 j;have E:=bC u.out p2 j;have F:=bC u.out p3 j;have G:=bC u.out p4 j;go_wp2_with fail;refine(ap.out v3 (af.out.trans (u.out.mono (by omega)))).mono ?_;rintro e v4 ⟨cv,rfl,ao,T⟩
  clear H I J M N O P C D E F G;have aK:=Q00 ((T.block _ (KEq ai.out)).trans ai.out);have aH:=Q00 (Q0a aG.out T);have B:=Q00 (u.out.trans (T.mono (by have:=(KEq ai.out);omega)));have ag:Hid (ownL Q0T 3 v4 0 cv cs):=Q06 ao (Kcq _);clear T ao ai aG u ap;obtain⟨co,cc,e5,_⟩:=ownL.open (L:=Q0T) ag.out;subst e5;obtain⟨n,ax⟩:∃n,cs.length=n:=⟨_,rfl⟩;rw[ax]at ag h6 ⊢;have aD:=Q00 ax;clear ax;have H:=bC B.out x0 d;have I:=bC B.out x1 d;have J:=bC B.out x2 d
  have M:=bC B.out x3 d;have N:=bC B.out x4 d;have O:=bC B.out x5 d;have P:=bC B.out x6 d;have C:=bC B.out p0 j;have D:=bC B.out p1 j;have E:=bC B.out p2 j;have F:=bC B.out p3 j;have G:=bC B.out p4 j;go_wp2
  go_loopw [35] (fun iv wr=> ∃i:Nat,i<=n/\iv=.int .i64 (i:Int)/\∃sv,Hid (wr.heap[w.heap.size+1+1]? =some (.cells #[sv] 109 (0,0)))/\Hid (ownL Q1R 136 wr W0.heap.size sv (Q0M false h cs i))/\Hid (ownL Q0T 3 wr 0 (.slice co n cc) cs)/\Hid (Below (w.heap.size+1+1) W0 wr))
   (fun iv _=>n - (intOf iv).toNat)
  case atStart=>exact⟨0,Kcq _,rfl,_,aK.out,by rw[aI.out];exact aH.out,ag.out,B.out⟩
  case round=>
   clear H I J M N O P C D E F G;clear aK aH ag B aI
   rename World=>wr
   obtain⟨i,bH,rfl,sv,HS,HO,HC,t⟩:=hrel;have H:=bC t.out x0 d;have I:=bC t.out x1 d;have J:=bC t.out x2 d;have M:=bC t.out x3 d;have N:=bC t.out x4 d;have O:=bC t.out x5 d;have P:=bC t.out x6 d;have C:=bC t.out p0 j;have D:=bC t.out p1 j;have E:=bC t.out p2 j;have F:=bC t.out p3 j;have G:=bC t.out p4 j;have aX:=t.out.size
   by_cases hlt:i < n
   ·have bu:(i:Int) < (n:Int):=by omega
    have ab:i < cs.length:=by rw[aD.out];exact hlt
    obtain⟨bD,bB,e5,bm⟩:=ownL.open (L:=Q0T) HC.out;injection e5 with e51 e52 e53;subst e51;clear e52 e53
    rcases bm with hh|⟨b3,f3,rfl,aM,ad⟩
    ·rw[hh]at ab;exact absurd ab (KMq _)
    have av:=RdL.int ad i ab;clear ad;have aw:=Q1o false h cs i;have ar:=Q00 (fun h9=>Q3W (ok:=false) (h:=h) (c:=cs) ab h9);have aC:=Q00 (fun h9=>Q4E (ok:=false) (h:=h) (c:=cs) ab h9);obtain⟨au,ae⟩:∃q,Q0M false h cs i=q:=⟨_,rfl⟩;rw[ae]at HO aw ar aC;clear ae;have bg:=ba.out (cs.getD i 0) (by simp[ab]);obtain⟨y,hy⟩:∃y,cs.getD i 0=y:=⟨_,rfl⟩;rw[hy]at av ar aC bg;clear hy
    have hx:¬y= -1:=by omega
    have aa:=Q00 (ar.out (by simp));have Y:=Q00 (Q6V (w.heap.size+1+1) W0.heap.size 0 y sv au wr HS.out HO.out (by omega) aX);go_wp2_with fail;refine(Y.out).mono ?_;rintro e w7 ⟨rfl,bo,aV,aR,V,aU⟩;clear Y;have ac:=Q00 aV;have U:=Q00 aR;have p:=Q00 (t.out.trans (V (w.heap.size+1+1) (Kaq _) (by omega)));have a9:=Q00 (aU _ _ HC.out);clear aV aR V aU;go_wp2;go_roundw
    case rel=>exact⟨i+1,by omega,by go_num,bo,ac.out,by rw[aa.out];exact U.out,a9.out,p.out⟩
    case measure=>simp[intOf];omega
   ·have e:i=n:=by omega
    subst e
    have aq:Hid (Q0M false h cs cs.length=Q0M false h cs i):=by unfold Hid;rw[aD.out]
    go_wp2_with fail;refine(aA.out wr).mono ?_;rintro e w7 ⟨rfl,V⟩;have ac:=Q00 ((V.block _ (KEq HS.out)).trans HS.out);have U:=Q00 (Q0a HO.out V);have p:=Q00 (t.out.trans (V.mono (by omega)));clear H I J M N O P C D E F G;clear V HO HC t aX aA HS;obtain⟨aj,X⟩:∃x,Q0M false h cs i=x:=⟨_,rfl⟩;rw[X]at U aq;have bd:=Q1o false h cs i;rw[X]at bd;clear X
    cases op with
    |false=>
     have s7:w7.cell? ⟨w.heap.size+1+1,0,none⟩=some sv:=Q02 ac.out 0 _ rfl;obtain⟨oo,oc,e6,_⟩:=ownL.open (L:=Q1R) U.out;subst e6;go_wp2;go_ret;exact⟨_,rfl,by rw[aB.out];unfold Q3f;rw[if_neg (by decide),aq.out];exact Q06 U.out (by omega),af.out.trans (p.out.mono (by omega))⟩
    |true=>
     have H:=bC p.out x0 d;have I:=bC p.out x1 d;have J:=bC p.out x2 d;have M:=bC p.out x3 d;have N:=bC p.out x4 d;have O:=bC p.out x5 d;have P:=bC p.out x6 d;have C:=bC p.out p0 j;have D:=bC p.out p1 j;have E:=bC p.out p2 j;have F:=bC p.out p3 j;have G:=bC p.out p4 j;have Z:=Q00 (af.out.trans (p.out.mono (show w.heap.size<=w.heap.size+1+1 by omega)));have aP:=bC Z.out a4.out bs;have aQ:=bC Z.out a5.out aL;go_wp2
     go_loopw [57] (fun kv wq=> ∃k:Nat,k<=m/\kv=.int .i64 (k:Int)/\∃sv,Hid (wq.heap[w.heap.size+1+1]? =some (.cells #[sv] 109 (0,0)))/\Hid (ownL Q1R 136 wq W0.heap.size sv (Q25 aj row k))/\Hid (Below (w.heap.size+1+1) W0 wq))
      (fun kv _=>m - (intOf kv).toNat)
     case atStart=>exact⟨0,Kcq _,rfl,_,ac.out,by rw[Q34];exact U.out,p.out⟩
     case round=>
      clear H I J M N O P C D E F G;clear aP aQ U p ac Z
      rename World=>wq
      obtain⟨k,bI,rfl,aY,HS,HO,z⟩:=hrel;have bn:=z.out.size;have Z:=Q00 (af.out.trans (z.out.mono (show w.heap.size<=w.heap.size+1+1 by omega)));have H:=bC z.out x0 d;have I:=bC z.out x1 d;have J:=bC z.out x2 d;have M:=bC z.out x3 d;have N:=bC z.out x4 d;have O:=bC z.out x5 d;have P:=bC z.out x6 d;have C:=bC z.out p0 j;have D:=bC z.out p1 j;have E:=bC z.out p2 j;have F:=bC z.out p3 j;have G:=bC z.out p4 j
      by_cases hlk:k < m
      ·have bt:(k:Int) < (m:Int):=by omega
       have al:k < row.length:=by rw[aZ.out];exact hlk
       rcases bq.out with hh|⟨b3,f3,rfl,aM,ad⟩
       ·rw[hh]at al;exact absurd al (KMq _)
       have av:=bC Z.out (RdL.int ad k al) aM;clear ad;have aw:=Q2S aj row k;have aa:=Q00 (Q39 (l:=aj) al);obtain⟨au,ae⟩:∃q,Q25 aj row k=q:=⟨_,rfl⟩;rw[ae]at HO aw aa;clear ae;obtain⟨y,hy⟩:∃y,row.getD k 0=y:=⟨_,rfl⟩;rw[hy]at av aa;clear hy;have Y:=Q00 (Q6V (w.heap.size+1+1) W0.heap.size 1 y aY au wq HS.out HO.out (by omega) bn);go_wp2_with fail;refine(Y.out).mono ?_;rintro e w8 ⟨rfl,bp,aW,aS,aN,_⟩;clear Y;have bc:=Q00 aW;have bb:=Q00 aS;have a8:=Q00 (z.out.trans (aN (w.heap.size+1+1) (Kaq _) (by omega)));clear aW aS aN;go_wp2;go_roundw
       case rel=>exact⟨k+1,by omega,by go_num,bp,bc.out,by rw[aa.out];exact bb.out,a8.out⟩
       case measure=>simp[intOf];omega
      ·have e:k=m:=by omega
       subst e;have s7:wq.cell? ⟨w.heap.size+1+1,0,none⟩=some aY:=Q02 HS.out 0 _ rfl;obtain⟨oo,oc,e6,_⟩:=ownL.open (L:=Q1R) HO.out;subst e6;go_wp2;go_ret;exact⟨_,rfl,by rw[aB.out];unfold Q3f;rw[if_pos rfl,aq.out,aZ.out];exact Q06 HO.out (by omega),Z.out⟩
 |true=>
  have an:hi=h:=by rw[az.out];rfl
  rw[an]at am;clear az an;have aI:=Q00 (Q30 true h cs);have bO:0<=h:=hv (by first|rfl|trivial)
  have bP:¬(h= -1):=by omega
  clear hv;go_enter Tryz.func123,Tryz.ntmps123;go_wp2_with fail;refine(am.out W0 af.out).mono ?_;rintro e v1 ⟨rfl,T⟩;have aJ:Hid (v1.heap[w.heap.size+1+1]? =some (.cells #[.slice none 0 0] 109 (0,0))):=(T.block _ (by omega)).trans br.out;have A:Hid (Below (w.heap.size+1+1) W0 v1):=T.mono (by omega);have a3:=T.size;clear T am;have H:=bC A.out x0 d;have I:=bC A.out x1 d;have J:=bC A.out x2 d;have M:=bC A.out x3 d;have N:=bC A.out x4 d;have O:=bC A.out x5 d;have P:=bC A.out x6 d;have C:=bC A.out p0 j;have D:=bC A.out p1 j
  have E:=bC A.out p2 j;have F:=bC A.out p3 j;have G:=bC A.out p4 j;have aE:=Q00 (KLq v1 W0.heap.size 136 2);have Y:=Q00 (Q6V (w.heap.size+1+1) W0.heap.size 0 h _ [] v1 aJ.out aE.out (by simp) a3);go_wp2_with fail;refine(Y.out).mono ?_;rintro e v2 ⟨rfl,sv,bA,bv,aL,_⟩;clear H I J M N O P C D E F G;clear Y;have ah:=Q00 bA;have aF:=Q00 bv;have R:=Q00 (A.out.trans (aL (w.heap.size+1+1) (Kaq _) (by omega)));clear bA bv aL aJ aE A a3;have H:=bC R.out x0 d;have I:=bC R.out x1 d
  have J:=bC R.out x2 d;have M:=bC R.out x3 d;have N:=bC R.out x4 d;have O:=bC R.out x5 d;have P:=bC R.out x6 d;have C:=bC R.out p0 j;have D:=bC R.out p1 j;have E:=bC R.out p2 j;have F:=bC R.out p3 j;have G:=bC R.out p4 j;go_wp2_with fail;refine(ay.out v2).mono ?_;rintro e v3 ⟨rfl,T⟩;clear H I J M N O P C D E F G;have ai:=Q00 ((T.block _ (KEq ah.out)).trans ah.out);have aG:=Q00 (Q0a aF.out T)
  have u:=Q00 (R.out.trans (T.mono (by have:=(KEq ah.out);omega)));clear T ah aF R ay;have H:=bC u.out x0 d;have I:=bC u.out x1 d;have J:=bC u.out x2 d;have M:=bC u.out x3 d;have N:=bC u.out x4 d;have O:=bC u.out x5 d;have P:=bC u.out x6 d;have C:=bC u.out p0 j;have D:=bC u.out p1 j;have E:=bC u.out p2 j;have F:=bC u.out p3 j;have G:=bC u.out p4 j;go_wp2_with fail;refine(ap.out v3 (af.out.trans (u.out.mono (by omega)))).mono ?_;rintro e v4 ⟨cv,rfl,ao,T⟩
  clear H I J M N O P C D E F G;have aK:=Q00 ((T.block _ (KEq ai.out)).trans ai.out);have aH:=Q00 (Q0a aG.out T);have B:=Q00 (u.out.trans (T.mono (by have:=(KEq ai.out);omega)));have ag:Hid (ownL Q0T 3 v4 0 cv cs):=Q06 ao (Kcq _);clear T ao ai aG u ap;obtain⟨co,cc,e5,_⟩:=ownL.open (L:=Q0T) ag.out;subst e5;obtain⟨n,ax⟩:∃n,cs.length=n:=⟨_,rfl⟩;rw[ax]at ag h6 ⊢;have aD:=Q00 ax;clear ax;have H:=bC B.out x0 d;have I:=bC B.out x1 d;have J:=bC B.out x2 d
  have M:=bC B.out x3 d;have N:=bC B.out x4 d;have O:=bC B.out x5 d;have P:=bC B.out x6 d;have C:=bC B.out p0 j;have D:=bC B.out p1 j;have E:=bC B.out p2 j;have F:=bC B.out p3 j;have G:=bC B.out p4 j;go_wp2
  go_loopw [35] (fun iv wr=> ∃i:Nat,i<=n/\iv=.int .i64 (i:Int)/\∃sv,Hid (wr.heap[w.heap.size+1+1]? =some (.cells #[sv] 109 (0,0)))/\Hid (ownL Q1R 136 wr W0.heap.size sv (Q0M true h cs i))/\Hid (ownL Q0T 3 wr 0 (.slice co n cc) cs)/\Hid (Below (w.heap.size+1+1) W0 wr))
   (fun iv _=>n - (intOf iv).toNat)
  case atStart=>exact⟨0,Kcq _,rfl,_,aK.out,by rw[aI.out];exact aH.out,ag.out,B.out⟩
  case round=>
   clear H I J M N O P C D E F G;clear aK aH ag B aI
   rename World=>wr
   obtain⟨i,bH,rfl,sv,HS,HO,HC,t⟩:=hrel;have H:=bC t.out x0 d;have I:=bC t.out x1 d;have J:=bC t.out x2 d;have M:=bC t.out x3 d;have N:=bC t.out x4 d;have O:=bC t.out x5 d;have P:=bC t.out x6 d;have C:=bC t.out p0 j;have D:=bC t.out p1 j;have E:=bC t.out p2 j;have F:=bC t.out p3 j;have G:=bC t.out p4 j;have aX:=t.out.size
   by_cases hlt:i < n
   ·have bu:(i:Int) < (n:Int):=by omega
    have ab:i < cs.length:=by rw[aD.out];exact hlt
    obtain⟨bD,bB,e5,bm⟩:=ownL.open (L:=Q0T) HC.out;injection e5 with e51 e52 e53;subst e51;clear e52 e53
    rcases bm with hh|⟨b3,f3,rfl,aM,ad⟩
    ·rw[hh]at ab;exact absurd ab (KMq _)
    have av:=RdL.int ad i ab;clear ad;have aw:=Q1o true h cs i;have ar:=Q00 (fun h9=>Q3W (ok:=true) (h:=h) (c:=cs) ab h9);have aC:=Q00 (fun h9=>Q4E (ok:=true) (h:=h) (c:=cs) ab h9);obtain⟨au,ae⟩:∃q,Q0M true h cs i=q:=⟨_,rfl⟩;rw[ae]at HO aw ar aC;clear ae;have bg:=ba.out (cs.getD i 0) (by simp[ab]);obtain⟨y,hy⟩:∃y,cs.getD i 0=y:=⟨_,rfl⟩;rw[hy]at av ar aC bg;clear hy
    by_cases hx:y=h
    ·have aa:=Q00 (aC.out (by rw[hx];simp))
     subst hx;go_wp2;go_roundw
     case rel=>exact⟨i+1,by omega,by go_num,sv,HS.out,by rw[aa.out];exact HO.out,HC.out,t.out⟩
     case measure=>simp[intOf];omega
    ·have bQ:¬h=y:=fun e=>hx e.symm
     have aa:=Q00 (ar.out (by simp[hx]));have Y:=Q00 (Q6V (w.heap.size+1+1) W0.heap.size 0 y sv au wr HS.out HO.out (by omega) aX);go_wp2_with fail;refine(Y.out).mono ?_;rintro e w7 ⟨rfl,bo,aV,aR,V,aU⟩;clear Y;have ac:=Q00 aV;have U:=Q00 aR;have p:=Q00 (t.out.trans (V (w.heap.size+1+1) (Kaq _) (by omega)));have a9:=Q00 (aU _ _ HC.out);clear aV aR V aU;go_wp2;go_roundw
     case rel=>exact⟨i+1,by omega,by go_num,bo,ac.out,by rw[aa.out];exact U.out,a9.out,p.out⟩
     case measure=>simp[intOf];omega
   ·have e:i=n:=by omega
    subst e
    have aq:Hid (Q0M true h cs cs.length=Q0M true h cs i):=by unfold Hid;rw[aD.out]
    go_wp2_with fail;refine(aA.out wr).mono ?_;rintro e w7 ⟨rfl,V⟩;have ac:=Q00 ((V.block _ (KEq HS.out)).trans HS.out);have U:=Q00 (Q0a HO.out V);have p:=Q00 (t.out.trans (V.mono (by omega)));clear H I J M N O P C D E F G;clear V HO HC t aX aA HS;obtain⟨aj,X⟩:∃x,Q0M true h cs i=x:=⟨_,rfl⟩;rw[X]at U aq;have bd:=Q1o true h cs i;rw[X]at bd;clear X
    cases op with
    |false=>
     have s7:w7.cell? ⟨w.heap.size+1+1,0,none⟩=some sv:=Q02 ac.out 0 _ rfl;obtain⟨oo,oc,e6,_⟩:=ownL.open (L:=Q1R) U.out;subst e6;go_wp2;go_ret;exact⟨_,rfl,by rw[aB.out];unfold Q3f;rw[if_neg (by decide),aq.out];exact Q06 U.out (by omega),af.out.trans (p.out.mono (by omega))⟩
    |true=>
     have H:=bC p.out x0 d;have I:=bC p.out x1 d;have J:=bC p.out x2 d;have M:=bC p.out x3 d;have N:=bC p.out x4 d;have O:=bC p.out x5 d;have P:=bC p.out x6 d;have C:=bC p.out p0 j;have D:=bC p.out p1 j;have E:=bC p.out p2 j;have F:=bC p.out p3 j;have G:=bC p.out p4 j;have Z:=Q00 (af.out.trans (p.out.mono (show w.heap.size<=w.heap.size+1+1 by omega)));have aP:=bC Z.out a4.out bs;have aQ:=bC Z.out a5.out aL;go_wp2
     go_loopw [57] (fun kv wq=> ∃k:Nat,k<=m/\kv=.int .i64 (k:Int)/\∃sv,Hid (wq.heap[w.heap.size+1+1]? =some (.cells #[sv] 109 (0,0)))/\Hid (ownL Q1R 136 wq W0.heap.size sv (Q25 aj row k))/\Hid (Below (w.heap.size+1+1) W0 wq))
      (fun kv _=>m - (intOf kv).toNat)
     case atStart=>exact⟨0,Kcq _,rfl,_,ac.out,by rw[Q34];exact U.out,p.out⟩
     case round=>
      clear H I J M N O P C D E F G;clear aP aQ U p ac Z
      rename World=>wq
      obtain⟨k,bI,rfl,aY,HS,HO,z⟩:=hrel;have bn:=z.out.size;have Z:=Q00 (af.out.trans (z.out.mono (show w.heap.size<=w.heap.size+1+1 by omega)));have H:=bC z.out x0 d;have I:=bC z.out x1 d;have J:=bC z.out x2 d;have M:=bC z.out x3 d;have N:=bC z.out x4 d;have O:=bC z.out x5 d;have P:=bC z.out x6 d;have C:=bC z.out p0 j;have D:=bC z.out p1 j;have E:=bC z.out p2 j;have F:=bC z.out p3 j;have G:=bC z.out p4 j
      by_cases hlk:k < m
      ·have bt:(k:Int) < (m:Int):=by omega
       have al:k < row.length:=by rw[aZ.out];exact hlk
       rcases bq.out with hh|⟨b3,f3,rfl,aM,ad⟩
       ·rw[hh]at al;exact absurd al (KMq _)
       have av:=bC Z.out (RdL.int ad k al) aM;clear ad;have aw:=Q2S aj row k;have aa:=Q00 (Q39 (l:=aj) al);obtain⟨au,ae⟩:∃q,Q25 aj row k=q:=⟨_,rfl⟩;rw[ae]at HO aw aa;clear ae;obtain⟨y,hy⟩:∃y,row.getD k 0=y:=⟨_,rfl⟩;rw[hy]at av aa;clear hy;have Y:=Q00 (Q6V (w.heap.size+1+1) W0.heap.size 1 y aY au wq HS.out HO.out (by omega) bn);go_wp2_with fail;refine(Y.out).mono ?_;rintro e w8 ⟨rfl,bp,aW,aS,aN,_⟩;clear Y;have bc:=Q00 aW;have bb:=Q00 aS;have a8:=Q00 (z.out.trans (aN (w.heap.size+1+1) (Kaq _) (by omega)));clear aW aS aN;go_wp2;go_roundw
       case rel=>exact⟨k+1,by omega,by go_num,bp,bc.out,by rw[aa.out];exact bb.out,a8.out⟩
       case measure=>simp[intOf];omega
      ·have e:k=m:=by omega
       subst e;have s7:wq.cell? ⟨w.heap.size+1+1,0,none⟩=some aY:=Q02 HS.out 0 _ rfl;obtain⟨oo,oc,e6,_⟩:=ownL.open (L:=Q1R) HO.out;subst e6;go_wp2;go_ret;exact⟨_,rfl,by rw[aB.out];unfold Q3f;rw[if_pos rfl,aq.out,aZ.out];exact Q06 HO.out (by omega),Z.out⟩
theorem Q79 (aa bb:List (List Int)):∀k,0<=Q0H aa bb k
 |0=>Int.le_refl _
 |k+1=>by
  have h:=Q79 aa bb k;unfold Q0H
  split <;> omega
theorem Q5A {aa bb:List (List Int)}:∀k,Q0H aa bb k=0->∀i,i < k->aa.getD i []=bb.getD i []
 |0,_,i,hi=>absurd hi (KMq _)
 |k+1,h,i,hi=>by
  have a:=Q79 aa bb k;unfold Q0H at h
  split at h
  ·next e=>
   by_cases hk:i=k
   ·rw[hk];exact e
   ·exact Q5A k (by omega) i (by omega)
  ·omega
theorem Qds {aa bb:List (List Int)} (h:Q0Y aa bb=0):aa=bb:=by
 unfold Q0Y at h
 split at h
 ·next e=>
  refine List.ext_getElem (by omega) (fun i a h2=>?_);have b:=Q5A 8 h i (by omega)
  simpa[a,h2]using b
 ·omega
theorem Qfv {c d:Pm} (h:Q1B c d=true):c=d:=by
 unfold Q1B Q0V at h;simp only[Bool.and_eq_true,decide_eq_true_eq,List.all_eq_true,List.mem_range,beq_iff_eq]at h;obtain⟨⟨f,h2⟩,g,j⟩:=h;obtain⟨n,q,l⟩:=c;obtain⟨p,l2,m⟩:=d;dsimp only at f h2 g j;subst f h2
 have e:l=m:=List.ext_getElem g (fun i a b=>by
  have k:=Qds (j i a)
  simpa[a,b]using k)
 rw[e]
theorem QfD {m:Bm} (h:Q4O m=true):Q0n m.j.key m.j.l m.j.safe=true:=by
 unfold Q4O at h;rw[Bool.and_eq_true]at h;exact h.1
theorem Q6S {m:Bm} (h:Q4O m=true):m.p=Q0Q m.j:=by
 unfold Q4O at h;simp only[Bool.and_eq_true]at h;exact(Qfv h.2.2).symm
theorem Q6g {m:Bm} (h:Q4O m=true):Q2U m.p=true:=by
 rw[Q6S h];exact Qbl (QfD h)
theorem Qgt {m:Bm} (h:Q4O m=true):Q3a m.p:=by
 rw[Q6S h];exact Q3O _
theorem QfF {m:Bm} (h:Q4O m=true) (a b:Int):(Q2x m.t a b).2=true->0<=(Q9n m.t a b).v:=fun c=>by
 have i:=Q9e h;have f:=(Q10.1 i).2.2
 rcases Q3R m.t (Q8V h) a b with e|⟨k,g,⟨e,_⟩|⟨e,_⟩⟩
 ·rw[e]at c;cases c
 ·rw[e]at c;cases c
 ·rw[Q8P e]
  have d:=f k g;unfold Q3g at d;rw[Bool.and_eq_true]at d;exact QeY d.1
def QeX (m:Bm) (a b f s:Int) (n:Nat):List (Int × Int):=if(Q4O m && Q0l a b f s n)=true then Q3x m.p.key m.p.ring m.t a b f else[]
theorem Q6Z {a b f s:Int} {n:Nat} (h:Q0l a b f s n=true):Q0g a b=true:=by
 unfold Q0l at h;simp only[Bool.and_eq_true]at h
 simp_all
end Go.Proofs.YteffhdcankkfkaaGreat
