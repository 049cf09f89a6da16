/- Several texts in one: SBFrom2, SBOk, STabI3, SSoon. -/
import Derived.Test.YtpneolgdghbinaaGreatQLearnsL11
import Derived.Test.YtpneolgdghbinaaGreatQLearnsL28
namespace Go.Proofs.YtpneolgdghbinaaGreat
open Go.ChangeShapes Go.WideShapes Go.ChangeAt Go.RowKit Go.Joins
set_option linter.unusedVariables false
set_option linter.unusedSimpArgs false
set_option maxRecDepth 100000
set_option maxHeartbeats 40000000
theorem Q1h {W:World} {R b j:Nat} {u:Value} (h:W.cell? ⟨b,j,none⟩=some u) (l:b≠R) (a g i k c f d:Value):(Q21 W R a g i k c f d).cell? ⟨b,j,none⟩=some u:=(Q1b W R a g i k c f d).cellP h (Nat.lt_or_gt_of_ne l)
def Q2h (m:Bm):Bool:=Q0s m.j.key m.j.l m.j.safe && (Q6Q m.t && Q3y (Q0Q m.j) m.p)
abbrev Qce (vt:Value) (kj:Int) (vl:Value) (sj kp:Int) (vb vr:Value):Value:=.agg #[vt,.int .i64 kj,vl,.int .i64 sj,.int .i64 kp,vb,vr]
def QiY (lo hi:Nat) (w:World) (v:Value) (j:Jm) (p:Pm) (t:List Sl):Prop:=∃vt vl vb vr a b,v=Qce vt j.key vl j.safe p.key vb vr∧lo≤a∧a≤b∧b≤hi∧InPm lo a w (plv p.key vb vr) p∧InL Q0g Q1H a b w vt t∧InJm b hi w (jrn j.key vl j.safe) j
theorem Q2P (q:Int) (o:Option Addr) (Y c:Nat) (u V:Int) (ob:Option Addr) (np cb:Nat) (oR:Option Addr) (nr cR:Nat) (ot:Option Addr) (nt ct:Nat) (D:List Cd) (lb:List Bk) (lr:List (List (List Int))) (lt:List Sl) (w:World)
  (ac:Y=D.length) (aj:nt=lt.length) (h1:RdC w.heap.size w o D) (aw:o=none→c=0) (h2:Q86 w.heap.size w (plv V (.slice ob np cb) (.slice oR nr cR)) ⟨V,lb,lr⟩) (h4:RdS w.heap.size w ot lt) (hf:Q6L ⟨⟨q,D,u⟩,⟨V,lb,lr⟩,lt⟩):
  Calls Tryz.prog 37 #[Q13 q (.slice o Y c) u V (.slice ob np cb) (.slice oR nr cR) (.slice ot nt ct)] w fun e w'=> ∃(xo:Option Addr) (xn xc:Nat) (kq:Int) (yo:Option Addr) (yn yc:Nat) (sq kr:Int) (uo:Option Addr) (un uc:Nat) (vo:Option Addr) (vn vc:Nat),e=.returned (.tuple #[Qce (.slice xo xn xc) kq (.slice yo yn yc) sq kr (.slice uo un uc) (.slice vo vn vc),.bool (Q2h ⟨⟨q,D,u⟩,⟨V,lb,lr⟩,lt⟩)])∧(Q2h ⟨⟨q,D,u⟩,⟨V,lb,lr⟩,lt⟩=true→QiY w.heap.size w'.heap.size w' (Qce (.slice xo xn xc) kq (.slice yo yn yc) sq kr (.slice uo un uc) (.slice vo vn vc)) ⟨q,D,u⟩ (Q0Q ⟨q,D,u⟩) lt)∧Below w.heap.size w w':=by
 obtain ⟨f1,f2,f7⟩:=hf;dsimp only at f1 f2 f7
 have aC:D.length≤1048576:=by omega
 have aG:=Q01 (fun W (d:Below w.heap.size w W)=> Q9m (jrn q (.slice o Y c) u) ⟨q,D,u⟩ W ⟨_,rfl,o,c,(by rw [ac]),(h1.kept d (Kaq _)).le d.size⟩ ⟨_,_,_,rfl,fun n9 c9 e9=> by injection e9 with e1 e2 e3;rw [←e3];exact aw e1⟩ aC);have aK:=Q01 (fun W (d:Below w.heap.size w W)=> Q9M ot nt ct lt W aj ((h4.kept d (Kaq _)).le d.size) f7);have aN:=Q01 (fun W (d:Below w.heap.size w W)=> Q4f q u o c D W ((h1.kept d (Kaq _)).le d.size) aw aC);rw [←ac] at aN
 have ar:=Q01 (fun W (d:Below w.heap.size w W) v (h:Q86 W.heap.size W v (Q0Q ⟨q,D,u⟩))=> Q6G v (plv V (.slice ob np cb) (.slice oR nr cR)) (Q0Q ⟨q,D,u⟩) ⟨V,lb,lr⟩ W h ((h2.kept d (Kaq _)).le d.size) (Q6b _) f2);have C:=Q01 (show Q2h ⟨⟨q,D,u⟩,⟨V,lb,lr⟩,lt⟩=(Q0s q D u && (Q6Q lt && Q3y (Q0Q ⟨q,D,u⟩) ⟨V,lb,lr⟩)) from rfl);have ad:=Q01 (show Q6Q lt=true→Q0c lt=true from fun h=> by unfold Q6Q at h;cases ht:Q0c lt <;> simp_all);have a1:=Q01 ac;have bd:=Q01 aj;clear h1 h2 h4 f2 ac aj
 obtain ⟨W0,T⟩:∃W,((w.alloc (.cells #[.int .i64 q,.slice o Y c,.int .i64 u,.int .i64 V,.slice ob np cb,.slice oR nr cR,.slice ot nt ct] 34)).alloc (.cells #[.slice none 0 0,.int .i64 0,.slice none 0 0,.int .i64 0,.int .i64 0,.slice none 0 0,.slice none 0 0] 93))=W:=⟨_,rfl⟩;have X:=alb0v0v2 T;have m:=Q01 X;clear X;have j:=alz0v0v2 T;obtain ⟨O,P,R,z3,z4,z5,z6⟩:=alc7v0v2 T;have i:=alz0v1v2 T;obtain ⟨I,N,H,L,M,G,J⟩:=alc7v1v2 T;obtain ⟨A,t,B,z,r,y,s⟩:=alf7v1v2 T;have bh:=i;have bg:w.heap.size≤W0.heap.size:=m.out.size
 go_enter Tryz.func37,Tryz.ntmps37;go_wp2_with fail;refine (aG.out W0 m.out).mono ?_;rintro e v1 ⟨vp,rfl,aH,d⟩;have k:=Q01 aH;clear aH;replace O:=bC d O j;replace P:=bC d P j;replace R:=bC d R j;replace z3:=bC d z3 j;replace z4:=bC d z4 j;replace z5:=bC d z5 j;replace z6:=bC d z6 j;replace j:=Kbq j d.size;replace I:=bC d I i;replace N:=bC d N i;replace H:=bC d H i;replace L:=bC d L i;replace M:=bC d M i;replace G:=bC d G i;replace J:=bC d J i;replace A:=bF d A i;replace t:=bF d t i;replace B:=bF d B i
 replace z:=bF d z i;replace r:=bF d r i;replace y:=bF d y i;replace s:=bF d s i;replace i:=Kbq i d.size;replace m:=Q01 (m.out.trans (d.mono m.out.size));clear d;dsimp only at k ⊢;obtain ⟨pm,al⟩:∃p,Q0Q ⟨q,D,u⟩=p:=⟨_,rfl⟩;rw [al] at k ar C;have a4:=Q01 al;clear al aG;obtain ⟨po,pc,qo,qc,aD⟩:=k.out.opn;obtain ⟨pk,ah⟩:∃x,pm.key=x:=⟨_,rfl⟩;obtain ⟨pn,aM⟩:∃x,pm.l.length=x:=⟨_,rfl⟩;obtain ⟨qn,aB⟩:∃x,pm.ring.length=x:=⟨_,rfl⟩;rw [ah,aM,aB] at aD;subst aD;have aY:=Q01 ah;clear ah aM aB
 have a6:W0.heap.size≤v1.heap.size:=by have:=k.out;obtain ⟨_,_,bf,_,k1,k2,_⟩:=this;omega
 obtain ⟨W2,Z⟩:∃W,(v1.alloc (.cells #[.int .i64 pk,.slice po pn pc,.slice qo qn qc] 29))=W:=⟨_,rfl⟩;have f:=alb0v0v1 Z;replace O:=bC f O j;replace P:=bC f P j;replace R:=bC f R j;replace z3:=bC f z3 j;replace z4:=bC f z4 j;replace z5:=bC f z5 j;replace z6:=bC f z6 j;replace j:=Kbq j f.size;replace I:=bC f I i;replace N:=bC f N i;replace H:=bC f H i;replace L:=bC f L i;replace M:=bC f M i;replace G:=bC f G i;replace J:=bC f J i;replace A:=bF f A i;replace t:=bF f t i
 replace B:=bF f B i;replace z:=bF f z i;replace r:=bF f r i;replace y:=bF f y i;replace s:=bF f s i;replace i:=Kbq i f.size;replace m:=Q01 (m.out.trans (f.mono m.out.size));clear f;have E:=alz0v0v1 Z;obtain ⟨p0,p1,p2⟩:=alc3v0v1 Z;replace k:=Q01 (k.out.step (Stp.of (lo:=0) (hi:=0) (show Below v1.heap.size v1 W2 by rw [←Z];exact (Below.refl _ _).alloc (Kaq _) _)) (.inl (Kcq _)))
 have a9:v1.heap.size≤W2.heap.size:=by rw [←Z];simp
 go_wp2_with fail;refine (aK.out W2 m.out).mono ?_;rintro e F ⟨ho,hn,hc,rfl,ae,d⟩;have aU:=Q01 ae;clear ae aK;replace k:=Q01 (k.out.step (Stp.of (lo:=0) (hi:=0) d) (.inl (Kcq _)));have a7:W2.heap.size≤F.heap.size:=d.size;replace O:=bC d O j;replace P:=bC d P j;replace R:=bC d R j;replace z3:=bC d z3 j;replace z4:=bC d z4 j;replace z5:=bC d z5 j;replace z6:=bC d z6 j;replace j:=Kbq j d.size;replace I:=bC d I i;replace N:=bC d N i;replace H:=bC d H i;replace L:=bC d L i;replace M:=bC d M i;replace G:=bC d G i
 replace J:=bC d J i;replace A:=bF d A i;replace t:=bF d t i;replace B:=bF d B i;replace z:=bF d z i;replace r:=bF d r i;replace y:=bF d y i;replace s:=bF d s i;replace i:=Kbq i d.size;replace p0:=bC d p0 E;replace p1:=bC d p1 E;replace p2:=bC d p2 E;replace E:=Kbq E d.size;replace m:=Q01 (m.out.trans (d.mono m.out.size));clear d;obtain ⟨kb,an⟩:∃b,Q0s q D u=b:=⟨_,rfl⟩;obtain ⟨tb,ai⟩:∃b,Q6Q lt=b:=⟨_,rfl⟩;rw [an,ai] at C;rw [ai] at ad ⊢;rw [an];clear an ai
 obtain ⟨W4,U⟩:∃W,(F.alloc (.cells #[.slice ho hn hc] 91))=W:=⟨_,rfl⟩;have a:=alb0v0v1 U;replace O:=bC a O j;replace P:=bC a P j;replace R:=bC a R j;replace z3:=bC a z3 j;replace z4:=bC a z4 j;replace z5:=bC a z5 j;replace z6:=bC a z6 j;replace j:=Kbq j a.size;replace I:=bC a I i;replace N:=bC a N i;replace H:=bC a H i;replace L:=bC a L i;replace M:=bC a M i;replace G:=bC a G i;replace J:=bC a J i;replace A:=bF a A i;replace t:=bF a t i;replace B:=bF a B i
 replace z:=bF a z i;replace r:=bF a r i;replace y:=bF a y i;replace s:=bF a s i;replace i:=Kbq i a.size;replace p0:=bC a p0 E;replace p1:=bC a p1 E;replace p2:=bC a p2 E;replace E:=Kbq E a.size;replace m:=Q01 (m.out.trans (a.mono m.out.size));clear a;have zt:=alz0v0v1 U
 have t0:W4.cell? ⟨F.heap.size,0,none⟩=some (.slice ho hn hc):=by rw [←U];simp [go_sem]
 replace k:=Q01 (k.out.step (Stp.of (lo:=0) (hi:=0) (show Below F.heap.size F W4 by rw [←U];exact (Below.refl _ _).alloc (Kaq _) _)) (.inl (Kcq _)))
 have aL:F.heap.size≤W4.heap.size:=by rw [←U];simp
 have aF:Below F.heap.size F W4:=(show Below F.heap.size F W4 by rw [←U];exact (Below.refl _ _).alloc (Kaq _) _)
 cases kb with
 |false=>
  go_wp2;refine bodyPost_ret (v:=.tuple #[Qce (.slice none 0 0) 0 (.slice none 0 0) 0 0 (.slice none 0 0) (.slice none 0 0),.bool false]) (by simp [results,Tryz.results37,go_sem,I,N,H,L,M,G,J]) rfl ⟨none,0,0,0,none,0,0,0,0,none,0,0,none,0,0,by rw [C.out];rfl,fun h9=> (by rw [C.out] at h9;cases h9),Q0v m.out (Nat.le_succ _) _ _ _ _ _ _ _⟩
 |true=>
  cases tb with
  |false=>
   go_wp2;refine bodyPost_ret (v:=.tuple #[Qce (.slice none 0 0) 0 (.slice none 0 0) 0 0 (.slice none 0 0) (.slice none 0 0),.bool false]) (by simp [results,Tryz.results37,go_sem,I,N,H,L,M,G,J]) rfl ⟨none,0,0,0,none,0,0,0,0,none,0,0,none,0,0,by rw [C.out];rfl,fun h9=> (by rw [C.out] at h9;cases h9),Q0v m.out (Nat.le_succ _) _ _ _ _ _ _ _⟩
  |true=>
   have aI:=Q01 (ar.out W4 m.out _ (k.out.rd.le (by omega)));clear ar;obtain ⟨sb,aA⟩:∃b,Q3y pm ⟨V,lb,lr⟩=b:=⟨_,rfl⟩;rw [aA] at aI C;clear aA;go_wp2_with fail;refine (aI.out).mono ?_;rintro e v3 ⟨rfl,d⟩;replace k:=Q01 (k.out.step (Stp.of (lo:=0) (hi:=0) d) (.inl (Kcq _)));have aO:W4.heap.size≤v3.heap.size:=d.size;have af:Below F.heap.size F v3:=aF.trans (d.mono aL);replace O:=bC d O j;replace P:=bC d P j;replace R:=bC d R j;replace z3:=bC d z3 j;replace z4:=bC d z4 j;replace z5:=bC d z5 j;replace z6:=bC d z6 j;replace j:=Kbq j d.size
   replace I:=bC d I i;replace N:=bC d N i;replace H:=bC d H i;replace L:=bC d L i;replace M:=bC d M i;replace G:=bC d G i;replace J:=bC d J i;replace A:=bF d A i;replace t:=bF d t i;replace B:=bF d B i;replace z:=bF d z i;replace r:=bF d r i;replace y:=bF d y i;replace s:=bF d s i;replace i:=Kbq i d.size;replace p0:=bC d p0 E;replace p1:=bC d p1 E;replace p2:=bC d p2 E;replace E:=Kbq E d.size;replace t0:=bC d t0 zt;replace zt:=Kbq zt d.size;replace m:=Q01 (m.out.trans (d.mono m.out.size));clear d
   cases sb with
   |false=>
    go_wp2;refine bodyPost_ret (v:=.tuple #[Qce (.slice none 0 0) 0 (.slice none 0 0) 0 0 (.slice none 0 0) (.slice none 0 0),.bool false]) (by simp [results,Tryz.results37,go_sem,I,N,H,L,M,G,J]) rfl ⟨none,0,0,0,none,0,0,0,0,none,0,0,none,0,0,by rw [C.out];rfl,fun h9=> (by rw [C.out] at h9;cases h9),Q0v m.out (Nat.le_succ _) _ _ _ _ _ _ _⟩
   |true=>
    have ab:w.heap.size≠w.heap.size+1:=by omega
    have aa:v1.heap.size≠w.heap.size+1:=by omega
    have ax:F.heap.size≠w.heap.size+1:=by omega
    go_wp2
    go_region_held3 (fun w'=> w'.cell? ⟨F.heap.size,0,none⟩=some (.slice ho hn hc)∧w'.cell? ⟨w.heap.size,0,none⟩=some (.int .i64 q)∧w'.cell? ⟨w.heap.size,1,none⟩=some (.slice o Y c)∧w'.cell? ⟨w.heap.size,2,none⟩=some (.int .i64 u)∧w'.cell? ⟨v1.heap.size,0,none⟩=some (.int .i64 pk)∧w'.cell? ⟨v1.heap.size,1,none⟩=some (.slice po pn pc)∧w'.cell? ⟨v1.heap.size,2,none⟩=some (.slice qo qn qc)) (first|with_reducible exact ⟨t0,O,P,R,p0,p1,p2⟩|with_reducible exact ⟨aq,am,ao,au,ak,av,ap⟩|with_reducible exact aE _ _ _ _ _ _ _|go_keep) (first|(go_at_call 87;(with_reducible refine (aN.out v3.drew (Below.drew m.out)).mono ?_);rintro e v4 ⟨o2,c2,rfl,aJ,az⟩;have n:Below v3.heap.size v3 v4:=(Below.drew (Below.refl _ _)).trans az;have aq:=bC n t0 zt;have am:=bC n O j;have ao:=bC n P j;have au:=bC n R j;have ak:=bC n p0 E;have av:=bC n p1 E;have ap:=bC n p2 E;have aZ:=bC n I i;have bc:=bF n A i;have aV:=bC n N i;have bk:=bF n t i;have a0:=bC n H i;have a8:=bF n B i;have aS:=bC n L i;have a5:=bF n z i;have aQ:=bC n M i;have bi:=bF n r i;have aW:=bC n G i;have bj:=bF n y i;have aP:=bC n J i;have bb:=bF n s i;have aE:=(fun x0 x1 x2 x3 x4 x5 x6=> And.intro (Q1h aq ax x0 x1 x2 x3 x4 x5 x6) (And.intro (Q1h am ab x0 x1 x2 x3 x4 x5 x6) (And.intro (Q1h ao ab x0 x1 x2 x3 x4 x5 x6) (And.intro (Q1h au ab x0 x1 x2 x3 x4 x5 x6) (And.intro (Q1h ak aa x0 x1 x2 x3 x4 x5 x6) (And.intro (Q1h av aa x0 x1 x2 x3 x4 x5 x6) (Q1h ap aa x0 x1 x2 x3 x4 x5 x6)))))));have ay:=m.out.trans (n.mono m.out.size)))
    have be:v3.heap.size≤v4.heap.size:=n.size;have ag:Below F.heap.size F v4:=af.trans (n.mono (Kdq aL aO));replace k:=Q01 (k.out.step (Stp.of (lo:=0) (hi:=0) n) (.inl (Kcq _)));replace m:=Q01 ay;have a2:=Q01 aJ;have ba:v3.drew.heap.size=v3.heap.size:=rfl
    have aT:Hid (QiY w.heap.size (Q21 v4 (w.heap.size+1) (.slice ho hn hc) (.int .i64 q) (.slice o2 Y c2) (.int .i64 u) (.int .i64 pk) (.slice po pn pc) (.slice qo qn qc)).heap.size (Q21 v4 (w.heap.size+1) (.slice ho hn hc) (.int .i64 q) (.slice o2 Y c2) (.int .i64 u) (.int .i64 pk) (.slice po pn pc) (.slice qo qn qc)) (Qce (.slice ho hn hc) q (.slice o2 Y c2) u pk (.slice po pn pc) (.slice qo qn qc)) ⟨q,D,u⟩ pm lt):=by
     have s9:=Q1b v4 (w.heap.size+1) (.slice ho hn hc) (.int .i64 q) (.slice o2 Y c2) (.int .i64 u) (.int .i64 pk) (.slice po pn pc) (.slice qo qn qc);have e9:pm.key=pk:=aY.out;obtain ⟨g,hg,aR,a3,aX⟩:=aU.out (by first|exact ad.out rfl|exact ad.out trivial|simpa using ad.out);subst hg aR a3;refine ⟨_,_,_,_,W2.heap.size,F.heap.size,by rw [e9],by omega,by omega,by rw [Q0C];omega, ?_, ?_, ?_⟩
     ·rw [e9]
      exact QaL (k.out.step s9 (.inl (by omega))) (by omega) (by omega)
     ·exact InRow.step ((InRow.of aX).step (Stp.of (lo:=0) (hi:=0) ag) (.inl (Kcq _))) s9 (.inl (by omega))
     ·refine ⟨_,rfl, ?_⟩
      have j9:=InRow.step (InRow.of a2.out) s9 (.inl (by omega));rw [a1.out] at j9 ⊢;exact InRow.mono j9 (by omega) (by rw [Q0C];exact Kaq _)
    clear aE n az ay aJ af ag t0 aq O am P ao R au p0 ak p1 av p2 ap I A N t H B L z M r G y J s;go_wp2;refine bodyPost_ret (v:=.tuple #[Qce (.slice ho hn hc) q (.slice o2 Y c2) u pk (.slice po pn pc) (.slice qo qn qc),.bool true]) (by simp [results,Tryz.results37,go_sem,aZ,aV,a0,aS,aQ,aW,aP]) rfl ⟨ho,hn,hc,q,o2,Y,c2,u,pk,po,pn,pc,qo,qn,qc,by rw [C.out];rfl,fun _=> (by rw [a4.out];exact aT.out),Q0v m.out (Nat.le_succ _) _ _ _ _ _ _ _⟩
theorem Q6s (aa bb:List (List Int)):∀k,Q0V aa bb k=Q0V bb aa k
 |0=> rfl
 |k+1=> by
  unfold Q0V;rw [Q6s aa bb k]
  by_cases h:aa.getD k []=bb.getD k []
  ·rw [if_pos h,if_pos h.symm]
  ·rw [if_neg h,if_neg (fun e=> h e.symm)]
theorem Qbm (aa bb:List (List Int)):Q1i aa bb=Q1i bb aa:=by
 unfold Q1i
 by_cases h:aa.length=8∧bb.length=8
 ·rw [if_pos h,if_pos h.symm,Q6s]
 ·rw [if_neg h,if_neg (fun e=> h e.symm)]
theorem Q9r (R1 R2:List (List (List Int))):Q1z R1 R2=Q1z R2 R1:=by
 unfold Q1z
 by_cases h:R1.length=R2.length
 ·rw [h]
  congr 1
  congr 1
  funext i
  rw [Qbm]
 ·rw [decide_eq_false h,decide_eq_false (fun e=> h e.symm)];rfl
theorem Qbr (b a:Pm):Q3y b a=Q3y a b:=by
 unfold Q3y;rw [Q9r,show decide (b.key=a.key)=decide (a.key=b.key) from decide_eq_decide.2 ⟨Eq.symm,Eq.symm⟩,show decide (b.l=a.l)=decide (a.l=b.l) from decide_eq_decide.2 ⟨Eq.symm,Eq.symm⟩]
def isL (s:Sl):Bool:=decide (s.v < 6)
theorem Qeh {s:Sl} (h:Q2g s=true):0≤s.v:=by
 unfold Q2g at h
 split at h
 ·simp only [Bool.and_eq_true,decide_eq_true_eq] at h;exact h.1.1.1.2
 ·simp only [Bool.and_eq_true,decide_eq_true_eq] at h;omega
theorem QhB {l:List Sl} (h:Q0c l=true):l.all isV=l.all isL:=by
 have c:=(Q07.1 h).2.2
 have hs:∀s∈l,isV s=isL s:=fun s hs=> by
  obtain ⟨i,hi,rfl⟩:=List.getElem_of_mem hs;have a:=c i hi;unfold Q3s at a;rw [Bool.and_eq_true] at a;have b:=Qeh a.1
  have e:l.getD i sl0=l[i]:=by simp [hi]
  rw [e] at b;unfold isV isL;rw [decide_eq_true b];rfl
 rw [Bool.eq_iff_iff,List.all_eq_true,List.all_eq_true];exact ⟨fun q s m=> (hs s m) ▸ q s m,fun q s m=> (hs s m).symm ▸ q s m⟩
theorem Qfp (m:Bm):Q2h m=(Q0s m.j.key m.j.l m.j.safe && (Q0c m.t && (Q3y m.p (Q0Q m.j) && m.t.all isL))):=by
 unfold Q2h Q6Q;rw [Qbr]
 cases ht:Q0c m.t with
 |false=> simp
 |true=> rw [QhB ht];cases m.t.all isL <;> simp
theorem Q9c (l:Int) (o:Option Addr) (A c:Nat) (k h:Int) (t:Option Addr) (H v:Nat) (G:Option Addr) (D x:Nat) (u:Option Addr) (z M:Nat) (m:List Cd) (lb:List Bk) (n:List (List (List Int))) (lt:List Sl) (w:World)
  (p:A=m.length) (q:z=lt.length) (O:RdC w.heap.size w o m) (I:o=none→c=0) (h2:Q86 w.heap.size w (plv h (.slice t H v) (.slice G D x)) ⟨h,lb,n⟩) (N:RdS w.heap.size w u lt) (Y:Q6L ⟨⟨l,m,k⟩,⟨h,lb,n⟩,lt⟩):
  Calls Tryz.prog 24 #[Q13 l (.slice o A c) k h (.slice t H v) (.slice G D x) (.slice u z M)] w fun e w'=> e=.returned (.bool (Q2h ⟨⟨l,m,k⟩,⟨h,lb,n⟩,lt⟩))∧Below w.heap.size w w':=by
 have J:=Q01 (fun W (d:Below w.heap.size w W)=> Q2P l o A c k h t H v G D x u z M m lb n lt W p q ((O.kept d (Kaq _)).le d.size) I ((h2.kept d (Kaq _)).le d.size) ((N.kept d (Kaq _)).le d.size) Y);clear O h2 N p q;generalize Q2h ⟨⟨l,m,k⟩,⟨h,lb,n⟩,lt⟩=bb at *;obtain ⟨W0,i⟩:∃W,(w.alloc (.cells #[.int .i64 l,.slice o A c,.int .i64 k,.int .i64 h,.slice t H v,.slice G D x,.slice u z M] 34))=W:=⟨_,rfl⟩;have f:=alb0v0v1 i;have g:=Q01 f;clear f;have b:=alz0v0v1 i;obtain ⟨r,B,s,C,F,y,E⟩:=alc7v0v1 i
 go_enter Tryz.func24,Tryz.ntmps24;go_wp2_with fail;refine (J.out W0 g.out).mono ?_;rintro e v1 ⟨xo,xn,xc,kq,R,yn,T,sq,U,P,Z,X,V,vn,vc,rfl,L,d⟩;clear L;replace r:=bC d r b;replace B:=bC d B b;replace s:=bC d s b;replace C:=bC d C b;replace F:=bC d F b;replace y:=bC d y b;replace E:=bC d E b;replace b:=Kbq b d.size;replace g:=Q01 (g.out.trans (d.mono g.out.size));clear d;obtain ⟨W2,j⟩:∃W,(v1.alloc (.cells #[.slice xo xn xc,.int .i64 kq,.slice R yn T,.int .i64 sq,.int .i64 U,.slice P Z X,.slice V vn vc] 93))=W:=⟨_,rfl⟩
 have a:=alb0v0v1 j;replace r:=bC a r b;replace B:=bC a B b;replace s:=bC a s b;replace C:=bC a C b;replace F:=bC a F b;replace y:=bC a y b;replace E:=bC a E b;replace b:=Kbq b a.size;replace g:=Q01 (g.out.trans (a.mono g.out.size));clear a;have zx:=alz0v0v1 j;obtain ⟨x0,x1,x2,x3,x4,x5,x6⟩:=alc7v0v1 j;go_wp2;go_ret;exact ⟨rfl,g.out⟩
def Q1D (l:List Sl) (k:Nat):List (Int × Int):=((l.take k).filter (fun s=> s.u)).map (fun s=> (s.a,s.p))
theorem Q7T (l:List Sl) (k:Nat):(Q1D l k).length=QbM l k:=by unfold Q1D QbM;rw [List.length_map]
theorem Qat {l:List Sl} {k:Nat} (h:k < l.length) (a:(l.getD k sl0).u=false):Q1D l (k+1)=Q1D l k:=by
 unfold Q1D;rw [Q18 Q0g l k h,List.filter_append,show List.filter (fun s:Sl=> s.u) [l.getD k Q0g.d]=[] from List.filter_cons_of_neg (by rw [show l.getD k Q0g.d=l.getD k sl0 from rfl,a];decide),List.append_nil]
theorem Qaw {l:List Sl} {k:Nat} (h:k < l.length) (b:(l.getD k sl0).u=true):Q1D l (k+1)=Q1D l k++[((l.getD k sl0).a,(l.getD k sl0).p)]:=by
 unfold Q1D;rw [Q18 Q0g l k h,List.filter_append,show List.filter (fun s:Sl=> s.u) [l.getD k Q0g.d]=[l.getD k sl0] from List.filter_cons_of_pos b,List.map_append];rfl
def Q2r (q s:Sl):Sl:=if s.u=true∧(q.u=false∨s.t < q.t) then s else q
def Q4g (l:List Sl) (k:Nat):Sl:=(l.take k).foldl Q2r sl0
theorem Q59 {l:List Sl} {k:Nat} (h:k < l.length):Q4g l (k+1)=Q2r (Q4g l k) (l.getD k sl0):=by
 unfold Q4g;rw [Q18 Q0g l k h,List.foldl_append];rfl
theorem Q3W {q s:Sl} (h:s.u=false):Q2r q s=q:=by unfold Q2r;rw [if_neg (by rw [h];simp)]
theorem Q3n {q s:Sl} (h:s.u=true) (hq:q.u=false):Q2r q s=s:=by unfold Q2r;rw [if_pos ⟨h,.inl hq⟩]
theorem Q3S {q s:Sl} (h:s.u=true) (hq:s.t < q.t):Q2r q s=s:=by unfold Q2r;rw [if_pos ⟨h,.inr hq⟩]
theorem Q3Y {q s:Sl} (hq:q.u=true) (h:¬s.t < q.t):Q2r q s=q:=by
 unfold Q2r;rw [if_neg];rintro ⟨_,h1|h1⟩
 ·rw [hq] at h1;cases h1
 ·exact h h1
def Q2d (l:List Sl):Sl:=Q4g l l.length
theorem Q4U (w:World) (k j:Nat) (cs:Array Value) (t:TypeId) (v:Value) (h:w.heap[k]? =some (.cells cs t (0,0))):(w.setCell ⟨k,j,none⟩ v).heap[k]? =some (.cells (cs.setIfInBounds j v) t (0,0)):=by
 simp [World.setCell,Array.getElem?_modify,h]
theorem Q24 {W:World} {B:Nat} {c:Array Value} {t:TypeId} (h:W.heap[B]? =some (.cells c t (0,0))) (j:Nat):W.frozen? ⟨B,j,none⟩=false:=by simp [World.frozen?,h]
abbrev Q4u (s:Sl):Array Value:=#[.bool s.u,.int .i64 s.a,.int .i64 s.p,.int .i64 s.v,.int .i64 s.t]
def Qjm (w:World) (B:Nat) (s:Sl):World:=((((w.setCell ⟨B,0,none⟩ (.bool s.u)).setCell ⟨B,1,none⟩ (.int .i64 s.a)).setCell ⟨B,2,none⟩ (.int .i64 s.p)).setCell ⟨B,3,none⟩ (.int .i64 s.v)).setCell ⟨B,4,none⟩ (.int .i64 s.t)
theorem Qck {w:World} {B:Nat} {s q:Sl} {T:TypeId} (h:w.heap[B]? =some (.cells (Q4u q) T (0,0))):(Qjm w B s).heap[B]? =some (.cells (Q4u s) T (0,0)):=by
 have b:=Q4U w B 0 _ _ (.bool s.u) h;have f:=Q4U _ B 1 _ _ (.int .i64 s.a) b;have h2:=Q4U _ B 2 _ _ (.int .i64 s.p) f;have c:=Q4U _ B 3 _ _ (.int .i64 s.v) h2;have d:=Q4U _ B 4 _ _ (.int .i64 s.t) c;exact d
theorem Q2E {w W:World} {n B:Nat} (h:Below n w W) (a:n≤B) (s:Sl):Below n w (Qjm W B s):=
 ((((h.setCell (p:=⟨B,0,none⟩) a _).setCell (p:=⟨B,1,none⟩) a _).setCell (p:=⟨B,2,none⟩) a _).setCell (p:=⟨B,3,none⟩) a _).setCell (p:=⟨B,4,none⟩) a _
theorem Q8T (b off c:Nat) (l:List Sl) (w:World) (H:b < w.heap.size) (hc:∀i,i < l.length→∀j,j < Q0g.k→w.cell? ⟨b,off+i * Q0g.k+j,none⟩=(Q0g.cs (l.getD i Q0g.d))[j]?) (hl:l.length≤1048576):
  Calls Tryz.prog 167 #[tab (.slice (some ⟨b,off,none⟩) l.length c)] w fun e w'=> e=.returned (.tuple #[slot (Q2d l),.bool (Q2d l).u])∧Below w.heap.size w w':=by
 have HC:=Q01 hc;clear hc;obtain ⟨n,M⟩:∃W,((w.alloc (.cells #[.slice (some ⟨b,off,none⟩) l.length c] 32)).alloc (.cells #[.bool false,.int .i64 0,.int .i64 0,.int .i64 0,.int .i64 0] 101))=W:=⟨_,rfl⟩;have T:=alb0v0v2 M;have HB:=Q01 T;clear T;have I:=alz0v0v2 M
 have R:n.cell? ⟨w.heap.size,0,none⟩=some (.slice (some ⟨b,off,none⟩) l.length c):=by rw [←M];simp [go_sem]
 have h:=alz0v1v2 M;obtain ⟨L,O,N,G,J⟩:=alc5v1v2 M;obtain ⟨A,t,y,z,x⟩:=alf5v1v2 M;obtain ⟨X,Y⟩:∃W,n.alloc (.cells #[.bool false,.int .i64 0,.int .i64 0,.int .i64 0,.int .i64 0] 101)=W:=⟨_,rfl⟩;have ac:=I;have g:=h
 have b4:Hid (X.heap[n.heap.size]? =some (.cells (Q4u sl0) 101 (0,0))):=by rw [←Y];exact World.alloc_heap_new n _
 have a:=alb0v0v1 Y;replace R:=bKq0v0v0 a R I;replace I:w.heap.size < X.heap.size:=Kbq I a.size;replace L:=bKq0v0v0 a L h;replace O:=bKq0v0v0 a O h;replace N:=bKq0v0v0 a N h;replace G:=bKq0v0v0 a G h;replace J:=bKq0v0v0 a J h;replace A:X.frozen? ⟨w.heap.size+1,0,none⟩=false:=(a.frozen (p:=⟨w.heap.size+1,0,none⟩) h).trans A;replace t:X.frozen? ⟨w.heap.size+1,1,none⟩=false:=(a.frozen (p:=⟨w.heap.size+1,1,none⟩) h).trans t
 replace y:X.frozen? ⟨w.heap.size+1,2,none⟩=false:=(a.frozen (p:=⟨w.heap.size+1,2,none⟩) h).trans y;replace z:X.frozen? ⟨w.heap.size+1,3,none⟩=false:=(a.frozen (p:=⟨w.heap.size+1,3,none⟩) h).trans z;replace x:X.frozen? ⟨w.heap.size+1,4,none⟩=false:=(a.frozen (p:=⟨w.heap.size+1,4,none⟩) h).trans x;replace h:w.heap.size+1 < X.heap.size:=Kbq h a.size;replace HB:=Q01 (HB.out.trans (a.mono HB.out.size));clear a;have al:=alz0v0v1 Y;have ai:=HB;go_enter Tryz.func167,Tryz.ntmps167;go_wp2
 go_loopw [5] (fun i wr=> ∃k:Nat,k≤l.length∧i=.int .i64 k∧Hid (wr.heap[n.heap.size]? =some (.cells (Q4u (Q4g l k)) 101 (0,0)))∧Hid (Below (n.heap.size) X wr))
  (fun i _=> l.length - (intOf i).toNat)
 case atStart=> exact ⟨0,Kcq _,rfl,b4,Below.refl _ _⟩
 case round=>
 obtain ⟨k,hk,rfl,hq,f⟩:=hrel;have aj:X.heap.size≤wr.heap.size:=f.out.size;obtain ⟨q,U⟩:∃q,Q4g l k=q:=⟨_,rfl⟩;rw [U] at hq;replace R:=bKq0v0v0 f.out R ac
 replace I:w.heap.size < wr.heap.size:=by omega
 replace L:=bKq0v0v0 f.out L g;replace O:=bKq0v0v0 f.out O g;replace N:=bKq0v0v0 f.out N g;replace G:=bKq0v0v0 f.out G g;replace J:=bKq0v0v0 f.out J g;replace A:wr.frozen? ⟨w.heap.size+1,0,none⟩=false:=(f.out.frozen (p:=⟨w.heap.size+1,0,none⟩) g).trans A;replace t:wr.frozen? ⟨w.heap.size+1,1,none⟩=false:=(f.out.frozen (p:=⟨w.heap.size+1,1,none⟩) g).trans t;replace y:wr.frozen? ⟨w.heap.size+1,2,none⟩=false:=(f.out.frozen (p:=⟨w.heap.size+1,2,none⟩) g).trans y
 replace z:wr.frozen? ⟨w.heap.size+1,3,none⟩=false:=(f.out.frozen (p:=⟨w.heap.size+1,3,none⟩) g).trans z;replace x:wr.frozen? ⟨w.heap.size+1,4,none⟩=false:=(f.out.frozen (p:=⟨w.heap.size+1,4,none⟩) g).trans x
 replace h:w.heap.size+1 < wr.heap.size:=by omega
 have r:n.heap.size < wr.heap.size:=by omega
 have ah:w.heap.size≤n.heap.size:=by omega
 have D:=Q01 (ai.out.trans (f.out.mono ah));obtain ⟨q0,q1,q2,q3,q4⟩:=cxb5v0v0 hq.out;obtain ⟨ae,ag,ad,aa,ab⟩:=fxb5v0v0 hq.out
 by_cases hlt:k < l.length
 ·skip
  have F:=RdL.slot (C:=w.heap.size) HC.out k hlt;have m:=Q01 (Q59 hlt);rw [U] at m;obtain ⟨s,af⟩:∃s,l.getD k sl0=s:=⟨_,rfl⟩;rw [af] at F m;have e0:=(D.out.cell (p:=⟨b,off+k * 5,none⟩) H).trans F.1;have e1:=(D.out.cell (p:=⟨b,off+k * 5+1,none⟩) H).trans F.2.1;have e2:=(D.out.cell (p:=⟨b,off+k * 5+2,none⟩) H).trans F.2.2.1;have e3:=(D.out.cell (p:=⟨b,off+k * 5+3,none⟩) H).trans F.2.2.2.1;have e4:=(D.out.cell (p:=⟨b,off+k * 5+4,none⟩) H).trans F.2.2.2.2;have zb:b < wr.heap.size:=Kbq H D.out.size
  have am:(k:Int) < (l.length:Int):=by omega
  clear F af U;have G0:=Grown.cell R I;have Ge0:=Grown.cell (b:=b) (off:=off+k * 5) e0 zb;have Gq0:=Grown.cell q0 r
  have Gf0:∀p:Grown wr,p.v.frozen? ⟨n.heap.size,0,none⟩=false:=fun p=> (p.b.frozen (p:=⟨n.heap.size,0,none⟩) r).trans ae
  have Ge1:=Grown.cell (b:=b) (off:=off+k * 5+1) e1 zb;have Gq1:=Grown.cell q1 r
  have Gf1:∀p:Grown wr,p.v.frozen? ⟨n.heap.size,1,none⟩=false:=fun p=> (p.b.frozen (p:=⟨n.heap.size,1,none⟩) r).trans ag
  have Ge2:=Grown.cell (b:=b) (off:=off+k * 5+2) e2 zb;have Gq2:=Grown.cell q2 r
  have Gf2:∀p:Grown wr,p.v.frozen? ⟨n.heap.size,2,none⟩=false:=fun p=> (p.b.frozen (p:=⟨n.heap.size,2,none⟩) r).trans ad
  have Ge3:=Grown.cell (b:=b) (off:=off+k * 5+3) e3 zb;have Gq3:=Grown.cell q3 r
  have Gf3:∀p:Grown wr,p.v.frozen? ⟨n.heap.size,3,none⟩=false:=fun p=> (p.b.frozen (p:=⟨n.heap.size,3,none⟩) r).trans aa
  have Ge4:=Grown.cell (b:=b) (off:=off+k * 5+4) e4 zb;have Gq4:=Grown.cell q4 r
  have Gf4:∀p:Grown wr,p.v.frozen? ⟨n.heap.size,4,none⟩=false:=fun p=> (p.b.frozen (p:=⟨n.heap.size,4,none⟩) r).trans ab
  have HQ:=hq;clear hq ae q0 e0 ag q1 e1 ad q2 e2 aa q3 e3 ab q4 e4 L A O t N y G z J x;obtain ⟨su,sa,sp,sv,st⟩:=s;obtain ⟨qu,qa,qp,qv,qt⟩:=q;simp only at Ge0 Ge1 Ge2 Ge3 Ge4 Gq0 Gq1 Gq2 Gq3 Gq4
  cases su with
  |false=>
   have Z:=Q01 (m.out.trans (Q3W rfl));clear m;go_wp2
   (refine Q0b (by kernel_rfl) (by kernel_rfl) ?_;intro V;(repeat (go_big_quiet_step ((fail))));(with_reducible refine wpQuiet_nil ?_);intro _ B;obtain ⟨P,E⟩:=B;subst E)
   go_wp2;go_roundw
   case rel=> exact ⟨k+1,hlt,by go_num,(by unfold Hid;rw [Z.out];exact (P.b.block _ r).trans HQ.out),(f.out.trans (P.b.mono (Nat.le_of_lt r)))⟩
   case measure=> simp [intOf];omega
  |true=>
   cases qu with
   |false=>
    have Z:=Q01 (m.out.trans (Q3n rfl rfl));clear m;go_wp2
    (refine Q0b (by kernel_rfl) (by kernel_rfl) ?_;intro V;(repeat (go_big_quiet_step ((fail))));(with_reducible refine wpQuiet_nil ?_);intro _ B;obtain ⟨P,E⟩:=B;subst E)
    go_wp2;go_roundw
    case rel=> exact ⟨k+1,hlt,by go_num,(by unfold Hid;rw [Z.out];exact Qck (s:=⟨true,sa,sp,sv,st⟩) ((P.b.block _ r).trans HQ.out)),Q2E (s:=⟨true,sa,sp,sv,st⟩) (f.out.trans (P.b.mono (Nat.le_of_lt r))) (Kaq _)⟩
    case measure=> simp [intOf];omega
   |true=>
    by_cases hlq:st < qt
    ·have Z:=Q01 (m.out.trans (Q3S rfl hlq))
     clear m;go_wp2
     (refine Q0b (by kernel_rfl) (by kernel_rfl) ?_;intro V;(repeat (go_big_quiet_step ((fail))));(with_reducible refine wpQuiet_nil ?_);intro _ B;obtain ⟨P,E⟩:=B;subst E)
     go_wp2;go_roundw
     case rel=> exact ⟨k+1,hlt,by go_num,(by unfold Hid;rw [Z.out];exact Qck (s:=⟨true,sa,sp,sv,st⟩) ((P.b.block _ r).trans HQ.out)),Q2E (s:=⟨true,sa,sp,sv,st⟩) (f.out.trans (P.b.mono (Nat.le_of_lt r))) (Kaq _)⟩
     case measure=> simp [intOf];omega
    ·have ak:decide (st < qt)=false:=decide_eq_false hlq
     have Z:=Q01 (m.out.trans (Q3Y rfl hlq));clear m;go_wp2
     (refine Q0b (by kernel_rfl) (by kernel_rfl) ?_;intro V;(repeat (go_big_quiet_step ((fail))));(with_reducible refine wpQuiet_nil ?_);intro _ B;obtain ⟨P,E⟩:=B;subst E)
     go_wp2;go_roundw
     case rel=> exact ⟨k+1,hlt,by go_num,(by unfold Hid;rw [Z.out];exact (P.b.block _ r).trans HQ.out),(f.out.trans (P.b.mono (Nat.le_of_lt r)))⟩
     case measure=> simp [intOf];omega
 ·skip
  have e:k=l.length:=by omega
  subst e;have HE:=Q01 (show Q2d l=q from U);have HQ:=hq;clear hq U;go_wp2
  go_region
  go_wp2;refine bodyPost_ret (v:=.tuple #[slot q,.bool q.u]) (by simp [results,Tryz.results167,go_sem,L,O,N,G,J]) rfl ⟨by rw [HE.out], ?_⟩;exact Q2E (s:=q) (Below.drew D.out) (show w.heap.size≤w.heap.size+1 by omega)
end Go.Proofs.YtpneolgdghbinaaGreat
