/- Several texts in one: SBFrom2, SBOk, STabI3, SSoon. -/
import Derived.Test.YtpneolgdghbinaaGreatQLearnsL11
import Derived.Test.YtpneolgdghbinaaGreatQLearnsL28
namespace Go.Proofs.YtpneolgdghbinaaGreat
open Go.ChangeShapes Go.WideShapes Go.ChangeAt Go.RowKit Go.Joins
set_option linter.unusedVariables false
set_option linter.unusedSimpArgs false
set_option maxRecDepth 100000
set_option maxHeartbeats 40000000
theorem Q1i {W:World} {R b j:Nat} {u:Value} (h:W.cell? ⟨b,j,none⟩=some u) (l:b≠R) (a c d f g i k:Value):(Q20 W R a c d f g i k).cell? ⟨b,j,none⟩=some u:=(Q1b W R a c d f g i k).cellP h (Nat.lt_or_gt_of_ne l)
def Q2g (m:Bm):Bool:=Q0s m.j.key m.j.l m.j.safe && (Q6M m.t && Q3M (Q0Q m.j) m.p)
abbrev QcH (vt:Value) (kj:Int) (vl:Value) (sj kp:Int) (vb vr:Value):Value:=.agg #[vt,.int .i64 kj,vl,.int .i64 sj,.int .i64 kp,vb,vr]
def QiV (lo hi:Nat) (w:World) (v:Value) (j:Jm) (p:Pm) (t:List Sl):Prop:=∃vt vl vb vr a b,v=QcH vt j.key vl j.safe p.key vb vr∧lo≤a∧a≤b∧b≤hi∧InPm lo a w (plv p.key vb vr) p∧InL Q0g Q1F a b w vt t∧InJm b hi w (jrn j.key vl j.safe) j
theorem Q2V (A:Int) (o:Option Addr) (nj c:Nat) (B V:Int) (ob:Option Addr) (np cb:Nat) (oR:Option Addr) (nr cR:Nat) (ot:Option Addr) (nt ct:Nat) (D:List Cd) (lb:List Bk) (lr:List (List (List Int))) (lt:List Sl) (w:World)
  (ac:nj=D.length) (ai:nt=lt.length) (h1:RdC w.heap.size w o D) (aA:o=none→c=0) (h2:Q86 w.heap.size w (plv V (.slice ob np cb) (.slice oR nr cR)) ⟨V,lb,lr⟩) (h4:RdS w.heap.size w ot lt) (hf:Q6L ⟨⟨A,D,B⟩,⟨V,lb,lr⟩,lt⟩):
  Calls Tryz.prog 37 #[Q13 A (.slice o nj c) B V (.slice ob np cb) (.slice oR nr cR) (.slice ot nt ct)] w fun e w'=> ∃(xo:Option Addr) (xn xc:Nat) (kq:Int) (yo:Option Addr) (yn yc:Nat) (sq kr:Int) (uo:Option Addr) (un uc:Nat) (vo:Option Addr) (vn vc:Nat),e=.returned (.tuple #[QcH (.slice xo xn xc) kq (.slice yo yn yc) sq kr (.slice uo un uc) (.slice vo vn vc),.bool (Q2g ⟨⟨A,D,B⟩,⟨V,lb,lr⟩,lt⟩)])∧(Q2g ⟨⟨A,D,B⟩,⟨V,lb,lr⟩,lt⟩=true→QiV w.heap.size w'.heap.size w' (QcH (.slice xo xn xc) kq (.slice yo yn yc) sq kr (.slice uo un uc) (.slice vo vn vc)) ⟨A,D,B⟩ (Q0Q ⟨A,D,B⟩) lt)∧Below w.heap.size w w':=by
 obtain ⟨f1,f2,f7⟩:=hf;dsimp only at f1 f2 f7
 have aC:D.length≤1048576:=by omega
 have ay:=Q01 (fun W (d:Below w.heap.size w W)=> Q9B (jrn A (.slice o nj c) B) ⟨A,D,B⟩ W ⟨_,rfl,o,c,(by rw [ac]),(h1.kept d (Kaq _)).le d.size⟩ ⟨_,_,_,rfl,fun n9 c9 e9=> by injection e9 with e1 e2 e3;rw [←e3];exact aA e1⟩ aC);have ax:=Q01 (fun W (d:Below w.heap.size w W)=> Q8X ot nt ct lt W ai ((h4.kept d (Kaq _)).le d.size) f7);have aw:=Q01 (fun W (d:Below w.heap.size w W)=> Q4b A B o c D W ((h1.kept d (Kaq _)).le d.size) aA aC);rw [←ac] at aw
 have ag:=Q01 (fun W (d:Below w.heap.size w W) v (h:Q86 W.heap.size W v (Q0Q ⟨A,D,B⟩))=> Q6K v (plv V (.slice ob np cb) (.slice oR nr cR)) (Q0Q ⟨A,D,B⟩) ⟨V,lb,lr⟩ W h ((h2.kept d (Kaq _)).le d.size) (Q5Z _) f2);have C:=Q01 (show Q2g ⟨⟨A,D,B⟩,⟨V,lb,lr⟩,lt⟩=(Q0s A D B && (Q6M lt && Q3M (Q0Q ⟨A,D,B⟩) ⟨V,lb,lr⟩)) from rfl);have ab:=Q01 (show Q6M lt=true→Q0c lt=true from fun h=> by unfold Q6M at h;cases ht:Q0c lt <;> simp_all);have aO:=Q01 ac;have a4:=Q01 ai;clear h1 h2 h4 f2 ac ai
 obtain ⟨W0,O⟩:∃W,((w.alloc (.cells #[.int .i64 A,.slice o nj c,.int .i64 B,.int .i64 V,.slice ob np cb,.slice oR nr cR,.slice ot nt ct] 34)).alloc (.cells #[.slice none 0 0,.int .i64 0,.slice none 0 0,.int .i64 0,.int .i64 0,.slice none 0 0,.slice none 0 0] 93))=W:=⟨_,rfl⟩;have Y:=alb0v0v2 O;have m:=Q01 Y;clear Y;have j:=alz0v0v2 O;obtain ⟨R,T,U,z3,z4,z5,z6⟩:=alc7v0v2 O;have i:=alz0v1v2 O;obtain ⟨G,H,I,J,L,M,N⟩:=alc7v1v2 O;obtain ⟨q,r,s,t,u,y,z⟩:=alf7v1v2 O;have bb:=i;have ba:w.heap.size≤W0.heap.size:=m.out.size
 go_enter Tryz.func37,Tryz.ntmps37;go_wp2_with fail;refine (ay.out W0 m.out).mono ?_;rintro e v1 ⟨vp,rfl,aL,d⟩;have k:=Q01 aL;clear aL;replace R:=bC d R j;replace T:=bC d T j;replace U:=bC d U j;replace z3:=bC d z3 j;replace z4:=bC d z4 j;replace z5:=bC d z5 j;replace z6:=bC d z6 j;replace j:=Kbq j d.size;replace G:=bC d G i;replace H:=bC d H i;replace I:=bC d I i;replace J:=bC d J i;replace L:=bC d L i;replace M:=bC d M i;replace N:=bC d N i;replace q:=bF d q i;replace r:=bF d r i;replace s:=bF d s i
 replace t:=bF d t i;replace u:=bF d u i;replace y:=bF d y i;replace z:=bF d z i;replace i:=Kbq i d.size;replace m:=Q01 (m.out.trans (d.mono m.out.size));clear d;dsimp only at k ⊢;obtain ⟨pm,ak⟩:∃p,Q0Q ⟨A,D,B⟩=p:=⟨_,rfl⟩;rw [ak] at k ag C;have aS:=Q01 ak;clear ak ay;obtain ⟨po,pc,qo,qc,aK⟩:=k.out.opn;obtain ⟨pk,aj⟩:∃x,pm.key=x:=⟨_,rfl⟩;obtain ⟨pn,aF⟩:∃x,pm.l.length=x:=⟨_,rfl⟩;obtain ⟨qn,aH⟩:∃x,pm.ring.length=x:=⟨_,rfl⟩;rw [aj,aF,aH] at aK;subst aK;have aR:=Q01 aj;clear aj aF aH
 have a6:W0.heap.size≤v1.heap.size:=by have:=k.out;obtain ⟨_,_,bc,_,k1,k2,_⟩:=this;omega
 obtain ⟨W2,X⟩:∃W,(v1.alloc (.cells #[.int .i64 pk,.slice po pn pc,.slice qo qn qc] 29))=W:=⟨_,rfl⟩;have f:=alb0v0v1 X;replace R:=bC f R j;replace T:=bC f T j;replace U:=bC f U j;replace z3:=bC f z3 j;replace z4:=bC f z4 j;replace z5:=bC f z5 j;replace z6:=bC f z6 j;replace j:=Kbq j f.size;replace G:=bC f G i;replace H:=bC f H i;replace I:=bC f I i;replace J:=bC f J i;replace L:=bC f L i;replace M:=bC f M i;replace N:=bC f N i;replace q:=bF f q i;replace r:=bF f r i
 replace s:=bF f s i;replace t:=bF f t i;replace u:=bF f u i;replace y:=bF f y i;replace z:=bF f z i;replace i:=Kbq i f.size;replace m:=Q01 (m.out.trans (f.mono m.out.size));clear f;have E:=alz0v0v1 X;obtain ⟨p0,p1,p2⟩:=alc3v0v1 X;replace k:=Q01 (k.out.step (Stp.of (lo:=0) (hi:=0) (show Below v1.heap.size v1 W2 by rw [←X];exact (Below.refl _ _).alloc (Kaq _) _)) (.inl (Kcq _)))
 have a7:v1.heap.size≤W2.heap.size:=by rw [←X];simp
 go_wp2_with fail;refine (ax.out W2 m.out).mono ?_;rintro e F ⟨ho,hn,hc,rfl,af,d⟩;have aP:=Q01 af;clear af ax;replace k:=Q01 (k.out.step (Stp.of (lo:=0) (hi:=0) d) (.inl (Kcq _)));have a8:W2.heap.size≤F.heap.size:=d.size;replace R:=bC d R j;replace T:=bC d T j;replace U:=bC d U j;replace z3:=bC d z3 j;replace z4:=bC d z4 j;replace z5:=bC d z5 j;replace z6:=bC d z6 j;replace j:=Kbq j d.size;replace G:=bC d G i;replace H:=bC d H i;replace I:=bC d I i;replace J:=bC d J i;replace L:=bC d L i;replace M:=bC d M i
 replace N:=bC d N i;replace q:=bF d q i;replace r:=bF d r i;replace s:=bF d s i;replace t:=bF d t i;replace u:=bF d u i;replace y:=bF d y i;replace z:=bF d z i;replace i:=Kbq i d.size;replace p0:=bC d p0 E;replace p1:=bC d p1 E;replace p2:=bC d p2 E;replace E:=Kbq E d.size;replace m:=Q01 (m.out.trans (d.mono m.out.size));clear d;obtain ⟨kb,ah⟩:∃b,Q0s A D B=b:=⟨_,rfl⟩;obtain ⟨tb,al⟩:∃b,Q6M lt=b:=⟨_,rfl⟩;rw [ah,al] at C;rw [al] at ab ⊢;rw [ah];clear ah al
 obtain ⟨W4,P⟩:∃W,(F.alloc (.cells #[.slice ho hn hc] 91))=W:=⟨_,rfl⟩;have a:=alb0v0v1 P;replace R:=bC a R j;replace T:=bC a T j;replace U:=bC a U j;replace z3:=bC a z3 j;replace z4:=bC a z4 j;replace z5:=bC a z5 j;replace z6:=bC a z6 j;replace j:=Kbq j a.size;replace G:=bC a G i;replace H:=bC a H i;replace I:=bC a I i;replace J:=bC a J i;replace L:=bC a L i;replace M:=bC a M i;replace N:=bC a N i;replace q:=bF a q i;replace r:=bF a r i;replace s:=bF a s i
 replace t:=bF a t i;replace u:=bF a u i;replace y:=bF a y i;replace z:=bF a z i;replace i:=Kbq i a.size;replace p0:=bC a p0 E;replace p1:=bC a p1 E;replace p2:=bC a p2 E;replace E:=Kbq E a.size;replace m:=Q01 (m.out.trans (a.mono m.out.size));clear a;have zt:=alz0v0v1 P
 have t0:W4.cell? ⟨F.heap.size,0,none⟩=some (.slice ho hn hc):=by rw [←P];simp [go_sem]
 replace k:=Q01 (k.out.step (Stp.of (lo:=0) (hi:=0) (show Below F.heap.size F W4 by rw [←P];exact (Below.refl _ _).alloc (Kaq _) _)) (.inl (Kcq _)))
 have aI:F.heap.size≤W4.heap.size:=by rw [←P];simp
 have aB:Below F.heap.size F W4:=(show Below F.heap.size F W4 by rw [←P];exact (Below.refl _ _).alloc (Kaq _) _)
 cases kb with
 |false=>
  go_wp2;refine bodyPost_ret (v:=.tuple #[QcH (.slice none 0 0) 0 (.slice none 0 0) 0 0 (.slice none 0 0) (.slice none 0 0),.bool false]) (by simp [results,Tryz.results37,go_sem,G,H,I,J,L,M,N]) rfl ⟨none,0,0,0,none,0,0,0,0,none,0,0,none,0,0,by rw [C.out];rfl,fun h9=> (by rw [C.out] at h9;cases h9),Q0v m.out (Nat.le_succ _) _ _ _ _ _ _ _⟩
 |true=>
  cases tb with
  |false=>
   go_wp2;refine bodyPost_ret (v:=.tuple #[QcH (.slice none 0 0) 0 (.slice none 0 0) 0 0 (.slice none 0 0) (.slice none 0 0),.bool false]) (by simp [results,Tryz.results37,go_sem,G,H,I,J,L,M,N]) rfl ⟨none,0,0,0,none,0,0,0,0,none,0,0,none,0,0,by rw [C.out];rfl,fun h9=> (by rw [C.out] at h9;cases h9),Q0v m.out (Nat.le_succ _) _ _ _ _ _ _ _⟩
  |true=>
   have az:=Q01 (ag.out W4 m.out _ (k.out.rd.le (by omega)));clear ag;obtain ⟨sb,aJ⟩:∃b,Q3M pm ⟨V,lb,lr⟩=b:=⟨_,rfl⟩;rw [aJ] at az C;clear aJ;go_wp2_with fail;refine (az.out).mono ?_;rintro e v3 ⟨rfl,d⟩;replace k:=Q01 (k.out.step (Stp.of (lo:=0) (hi:=0) d) (.inl (Kcq _)));have aV:W4.heap.size≤v3.heap.size:=d.size;have ad:Below F.heap.size F v3:=aB.trans (d.mono aI);replace R:=bC d R j;replace T:=bC d T j;replace U:=bC d U j;replace z3:=bC d z3 j;replace z4:=bC d z4 j;replace z5:=bC d z5 j;replace z6:=bC d z6 j;replace j:=Kbq j d.size
   replace G:=bC d G i;replace H:=bC d H i;replace I:=bC d I i;replace J:=bC d J i;replace L:=bC d L i;replace M:=bC d M i;replace N:=bC d N i;replace q:=bF d q i;replace r:=bF d r i;replace s:=bF d s i;replace t:=bF d t i;replace u:=bF d u i;replace y:=bF d y i;replace z:=bF d z i;replace i:=Kbq i d.size;replace p0:=bC d p0 E;replace p1:=bC d p1 E;replace p2:=bC d p2 E;replace E:=Kbq E d.size;replace t0:=bC d t0 zt;replace zt:=Kbq zt d.size;replace m:=Q01 (m.out.trans (d.mono m.out.size));clear d
   cases sb with
   |false=>
    go_wp2;refine bodyPost_ret (v:=.tuple #[QcH (.slice none 0 0) 0 (.slice none 0 0) 0 0 (.slice none 0 0) (.slice none 0 0),.bool false]) (by simp [results,Tryz.results37,go_sem,G,H,I,J,L,M,N]) rfl ⟨none,0,0,0,none,0,0,0,0,none,0,0,none,0,0,by rw [C.out];rfl,fun h9=> (by rw [C.out] at h9;cases h9),Q0v m.out (Nat.le_succ _) _ _ _ _ _ _ _⟩
   |true=>
    have Z:w.heap.size≠w.heap.size+1:=by omega
    have aa:v1.heap.size≠w.heap.size+1:=by omega
    have aE:F.heap.size≠w.heap.size+1:=by omega
    go_wp2
    go_region_held3 (fun w'=> w'.cell? ⟨F.heap.size,0,none⟩=some (.slice ho hn hc)∧w'.cell? ⟨w.heap.size,0,none⟩=some (.int .i64 A)∧w'.cell? ⟨w.heap.size,1,none⟩=some (.slice o nj c)∧w'.cell? ⟨w.heap.size,2,none⟩=some (.int .i64 B)∧w'.cell? ⟨v1.heap.size,0,none⟩=some (.int .i64 pk)∧w'.cell? ⟨v1.heap.size,1,none⟩=some (.slice po pn pc)∧w'.cell? ⟨v1.heap.size,2,none⟩=some (.slice qo qn qc)) (first|with_reducible exact ⟨t0,R,T,U,p0,p1,p2⟩|with_reducible exact ⟨ap,aq,ar,au,am,an,ao⟩|with_reducible exact aD _ _ _ _ _ _ _|go_keep) (first|(go_at_call 87;(with_reducible refine (aw.out v3.drew (Below.drew m.out)).mono ?_);rintro e v4 ⟨o2,c2,rfl,aM,aG⟩;have n:Below v3.heap.size v3 v4:=(Below.drew (Below.refl _ _)).trans aG;have ap:=bC n t0 zt;have aq:=bC n R j;have ar:=bC n T j;have au:=bC n U j;have am:=bC n p0 E;have an:=bC n p1 E;have ao:=bC n p2 E;have aX:=bC n G i;have bd:=bF n q i;have aY:=bC n H i;have be:=bF n r i;have aZ:=bC n I i;have bf:=bF n s i;have a0:=bC n J i;have bg:=bF n t i;have a1:=bC n L i;have bh:=bF n u i;have a2:=bC n M i;have bi:=bF n y i;have a3:=bC n N i;have bj:=bF n z i;have aD:=(fun x0 x1 x2 x3 x4 x5 x6=> And.intro (Q1i ap aE x0 x1 x2 x3 x4 x5 x6) (And.intro (Q1i aq Z x0 x1 x2 x3 x4 x5 x6) (And.intro (Q1i ar Z x0 x1 x2 x3 x4 x5 x6) (And.intro (Q1i au Z x0 x1 x2 x3 x4 x5 x6) (And.intro (Q1i am aa x0 x1 x2 x3 x4 x5 x6) (And.intro (Q1i an aa x0 x1 x2 x3 x4 x5 x6) (Q1i ao aa x0 x1 x2 x3 x4 x5 x6)))))));have av:=m.out.trans (n.mono m.out.size)))
    have a9:v3.heap.size≤v4.heap.size:=n.size;have ae:Below F.heap.size F v4:=ad.trans (n.mono (Kdq aI aV));replace k:=Q01 (k.out.step (Stp.of (lo:=0) (hi:=0) n) (.inl (Kcq _)));replace m:=Q01 av;have aQ:=Q01 aM;have a5:v3.drew.heap.size=v3.heap.size:=rfl
    have aN:Hid (QiV w.heap.size (Q20 v4 (w.heap.size+1) (.slice ho hn hc) (.int .i64 A) (.slice o2 nj c2) (.int .i64 B) (.int .i64 pk) (.slice po pn pc) (.slice qo qn qc)).heap.size (Q20 v4 (w.heap.size+1) (.slice ho hn hc) (.int .i64 A) (.slice o2 nj c2) (.int .i64 B) (.int .i64 pk) (.slice po pn pc) (.slice qo qn qc)) (QcH (.slice ho hn hc) A (.slice o2 nj c2) B pk (.slice po pn pc) (.slice qo qn qc)) ⟨A,D,B⟩ pm lt):=by
     have s9:=Q1b v4 (w.heap.size+1) (.slice ho hn hc) (.int .i64 A) (.slice o2 nj c2) (.int .i64 B) (.int .i64 pk) (.slice po pn pc) (.slice qo qn qc);have e9:pm.key=pk:=aR.out;obtain ⟨g,hg,aU,aT,aW⟩:=aP.out (by first|exact ab.out rfl|exact ab.out trivial|simpa using ab.out);subst hg aU aT;refine ⟨_,_,_,_,W2.heap.size,F.heap.size,by rw [e9],by omega,by omega,by rw [Q0C];omega, ?_, ?_, ?_⟩
     ·rw [e9]
      exact Qax (k.out.step s9 (.inl (by omega))) (by omega) (by omega)
     ·exact InRow.step ((InRow.of aW).step (Stp.of (lo:=0) (hi:=0) ae) (.inl (Kcq _))) s9 (.inl (by omega))
     ·refine ⟨_,rfl, ?_⟩
      have j9:=InRow.step (InRow.of aQ.out) s9 (.inl (by omega));rw [aO.out] at j9 ⊢;exact InRow.mono j9 (by omega) (by rw [Q0C];exact Kaq _)
    clear aD n aG av aM ad ae t0 ap R aq T ar U au p0 am p1 an p2 ao G q H r I s J t L u M y N z;go_wp2;refine bodyPost_ret (v:=.tuple #[QcH (.slice ho hn hc) A (.slice o2 nj c2) B pk (.slice po pn pc) (.slice qo qn qc),.bool true]) (by simp [results,Tryz.results37,go_sem,aX,aY,aZ,a0,a1,a2,a3]) rfl ⟨ho,hn,hc,A,o2,nj,c2,B,pk,po,pn,pc,qo,qn,qc,by rw [C.out];rfl,fun _=> (by rw [aS.out];exact aN.out),Q0v m.out (Nat.le_succ _) _ _ _ _ _ _ _⟩
theorem Q6x (aa bb:List (List Int)):∀k,Q0V aa bb k=Q0V bb aa k
 |0=> rfl
 |k+1=> by
  unfold Q0V;rw [Q6x aa bb k]
  by_cases h:aa.getD k []=bb.getD k []
  ·rw [if_pos h,if_pos h.symm]
  ·rw [if_neg h,if_neg (fun e=> h e.symm)]
theorem QbC (aa bb:List (List Int)):Q1k aa bb=Q1k bb aa:=by
 unfold Q1k
 by_cases h:aa.length=8∧bb.length=8
 ·rw [if_pos h,if_pos h.symm,Q6x]
 ·rw [if_neg h,if_neg (fun e=> h e.symm)]
theorem Q9x (R1 R2:List (List (List Int))):Q1z R1 R2=Q1z R2 R1:=by
 unfold Q1z
 by_cases h:R1.length=R2.length
 ·rw [h]
  congr 1
  congr 1
  funext i
  rw [QbC]
 ·rw [decide_eq_false h,decide_eq_false (fun e=> h e.symm)];rfl
theorem Qbb (a b:Pm):Q3M a b=Q3M b a:=by
 unfold Q3M;rw [Q9x,show decide (a.key=b.key)=decide (b.key=a.key) from decide_eq_decide.2 ⟨Eq.symm,Eq.symm⟩,show decide (a.l=b.l)=decide (b.l=a.l) from decide_eq_decide.2 ⟨Eq.symm,Eq.symm⟩]
def isL (s:Sl):Bool:=decide (s.v < 6)
theorem QeL {s:Sl} (h:Q2h s=true):0≤s.v:=by
 unfold Q2h at h
 split at h
 ·simp only [Bool.and_eq_true,decide_eq_true_eq] at h;exact h.1.1.1.2
 ·simp only [Bool.and_eq_true,decide_eq_true_eq] at h;omega
theorem Qi6 {l:List Sl} (h:Q0c l=true):l.all isV=l.all isL:=by
 have c:=(Q07.1 h).2.2
 have hs:∀s∈l,isV s=isL s:=fun s hs=> by
  obtain ⟨i,hi,rfl⟩:=List.getElem_of_mem hs;have a:=c i hi;unfold Q3K at a;rw [Bool.and_eq_true] at a;have b:=QeL a.1
  have e:l.getD i sl0=l[i]:=by simp [hi]
  rw [e] at b;unfold isV isL;rw [decide_eq_true b];rfl
 rw [Bool.eq_iff_iff,List.all_eq_true,List.all_eq_true];exact ⟨fun q s m=> (hs s m) ▸ q s m,fun q s m=> (hs s m).symm ▸ q s m⟩
theorem Qf6 (m:Bm):Q2g m=(Q0s m.j.key m.j.l m.j.safe && (Q0c m.t && (Q3M m.p (Q0Q m.j) && m.t.all isL))):=by
 unfold Q2g Q6M;rw [Qbb]
 cases ht:Q0c m.t with
 |false=> simp
 |true=> rw [Qi6 ht];cases m.t.all isL <;> simp
theorem Q9F (k:Int) (o:Option Addr) (t c:Nat) (m h:Int) (z:Option Addr) (u s:Nat) (y:Option Addr) (v r:Nat) (A:Option Addr) (x J:Nat) (l:List Cd) (lb:List Bk) (q:List (List (List Int))) (lt:List Sl) (w:World)
  (n:t=l.length) (p:x=lt.length) (N:RdC w.heap.size w o l) (L:o=none→c=0) (h2:Q86 w.heap.size w (plv h (.slice z u s) (.slice y v r)) ⟨h,lb,q⟩) (O:RdS w.heap.size w A lt) (R:Q6L ⟨⟨k,l,m⟩,⟨h,lb,q⟩,lt⟩):
  Calls Tryz.prog 24 #[Q13 k (.slice o t c) m h (.slice z u s) (.slice y v r) (.slice A x J)] w fun e w'=> e=.returned (.bool (Q2g ⟨⟨k,l,m⟩,⟨h,lb,q⟩,lt⟩))∧Below w.heap.size w w':=by
 have I:=Q01 (fun W (d:Below w.heap.size w W)=> Q2V k o t c m h z u s y v r A x J l lb q lt W n p ((N.kept d (Kaq _)).le d.size) L ((h2.kept d (Kaq _)).le d.size) ((O.kept d (Kaq _)).le d.size) R);clear N h2 O n p;generalize Q2g ⟨⟨k,l,m⟩,⟨h,lb,q⟩,lt⟩=bb at *;obtain ⟨P,i⟩:∃W,(w.alloc (.cells #[.int .i64 k,.slice o t c,.int .i64 m,.int .i64 h,.slice z u s,.slice y v r,.slice A x J] 34))=W:=⟨_,rfl⟩;have f:=alb0v0v1 i;have g:=Q01 f;clear f;have b:=alz0v0v1 i;obtain ⟨B,C,D,E,F,G,H⟩:=alc7v0v1 i
 go_enter Tryz.func24,Tryz.ntmps24;go_wp2_with fail;refine (I.out P g.out).mono ?_;rintro e v1 ⟨xo,xn,xc,T,yo,yn,yc,V,U,Z,Y,X,vo,vn,vc,rfl,M,d⟩;clear M;replace B:=bC d B b;replace C:=bC d C b;replace D:=bC d D b;replace E:=bC d E b;replace F:=bC d F b;replace G:=bC d G b;replace H:=bC d H b;replace b:=Kbq b d.size;replace g:=Q01 (g.out.trans (d.mono g.out.size));clear d;obtain ⟨W2,j⟩:∃W,(v1.alloc (.cells #[.slice xo xn xc,.int .i64 T,.slice yo yn yc,.int .i64 V,.int .i64 U,.slice Z Y X,.slice vo vn vc] 93))=W:=⟨_,rfl⟩
 have a:=alb0v0v1 j;replace B:=bC a B b;replace C:=bC a C b;replace D:=bC a D b;replace E:=bC a E b;replace F:=bC a F b;replace G:=bC a G b;replace H:=bC a H b;replace b:=Kbq b a.size;replace g:=Q01 (g.out.trans (a.mono g.out.size));clear a;have zx:=alz0v0v1 j;obtain ⟨x0,x1,x2,x3,x4,x5,x6⟩:=alc7v0v1 j;go_wp2;go_ret;exact ⟨rfl,g.out⟩
def Q1G (l:List Sl) (k:Nat):List (Int × Int):=((l.take k).filter (fun s=> s.u)).map (fun s=> (s.a,s.p))
theorem Q7G (l:List Sl) (k:Nat):(Q1G l k).length=Qbt l k:=by unfold Q1G Qbt;rw [List.length_map]
theorem Qa9 {l:List Sl} {k:Nat} (h:k < l.length) (a:(l.getD k sl0).u=false):Q1G l (k+1)=Q1G l k:=by
 unfold Q1G;rw [Q18 Q0g l k h,List.filter_append,show List.filter (fun s:Sl=> s.u) [l.getD k Q0g.d]=[] from List.filter_cons_of_neg (by rw [show l.getD k Q0g.d=l.getD k sl0 from rfl,a];decide),List.append_nil]
theorem Qaa {l:List Sl} {k:Nat} (h:k < l.length) (b:(l.getD k sl0).u=true):Q1G l (k+1)=Q1G l k++[((l.getD k sl0).a,(l.getD k sl0).p)]:=by
 unfold Q1G;rw [Q18 Q0g l k h,List.filter_append,show List.filter (fun s:Sl=> s.u) [l.getD k Q0g.d]=[l.getD k sl0] from List.filter_cons_of_pos b,List.map_append];rfl
def Q2u (q s:Sl):Sl:=if s.u=true∧(q.u=false∨s.t < q.t) then s else q
def Q4c (l:List Sl) (k:Nat):Sl:=(l.take k).foldl Q2u sl0
theorem Q5j {l:List Sl} {k:Nat} (h:k < l.length):Q4c l (k+1)=Q2u (Q4c l k) (l.getD k sl0):=by
 unfold Q4c;rw [Q18 Q0g l k h,List.foldl_append];rfl
theorem Q3Y {q s:Sl} (h:s.u=false):Q2u q s=q:=by unfold Q2u;rw [if_neg (by rw [h];simp)]
theorem Q3j {q s:Sl} (h:s.u=true) (hq:q.u=false):Q2u q s=s:=by unfold Q2u;rw [if_pos ⟨h,.inl hq⟩]
theorem Q41 {q s:Sl} (h:s.u=true) (hq:s.t < q.t):Q2u q s=s:=by unfold Q2u;rw [if_pos ⟨h,.inr hq⟩]
theorem Q43 {q s:Sl} (hq:q.u=true) (h:¬s.t < q.t):Q2u q s=q:=by
 unfold Q2u;rw [if_neg];rintro ⟨_,h1|h1⟩
 ·rw [hq] at h1;cases h1
 ·exact h h1
def Q26 (l:List Sl):Sl:=Q4c l l.length
theorem Q4M (w:World) (k j:Nat) (cs:Array Value) (t:TypeId) (v:Value) (h:w.heap[k]? =some (.cells cs t (0,0))):(w.setCell ⟨k,j,none⟩ v).heap[k]? =some (.cells (cs.setIfInBounds j v) t (0,0)):=by
 simp [World.setCell,Array.getElem?_modify,h]
theorem Q2f {W:World} {B:Nat} {c:Array Value} {t:TypeId} (h:W.heap[B]? =some (.cells c t (0,0))) (j:Nat):W.frozen? ⟨B,j,none⟩=false:=by simp [World.frozen?,h]
abbrev Q4D (s:Sl):Array Value:=#[.bool s.u,.int .i64 s.a,.int .i64 s.p,.int .i64 s.v,.int .i64 s.t]
def Qjh (w:World) (B:Nat) (s:Sl):World:=((((w.setCell ⟨B,0,none⟩ (.bool s.u)).setCell ⟨B,1,none⟩ (.int .i64 s.a)).setCell ⟨B,2,none⟩ (.int .i64 s.p)).setCell ⟨B,3,none⟩ (.int .i64 s.v)).setCell ⟨B,4,none⟩ (.int .i64 s.t)
theorem QcO {w:World} {B:Nat} {s q:Sl} {T:TypeId} (h:w.heap[B]? =some (.cells (Q4D q) T (0,0))):(Qjh w B s).heap[B]? =some (.cells (Q4D s) T (0,0)):=by
 have b:=Q4M w B 0 _ _ (.bool s.u) h;have c:=Q4M _ B 1 _ _ (.int .i64 s.a) b;have h2:=Q4M _ B 2 _ _ (.int .i64 s.p) c;have d:=Q4M _ B 3 _ _ (.int .i64 s.v) h2;have f:=Q4M _ B 4 _ _ (.int .i64 s.t) d;exact f
theorem Q2E {w W:World} {n B:Nat} (h:Below n w W) (a:n≤B) (s:Sl):Below n w (Qjh W B s):=
 ((((h.setCell (p:=⟨B,0,none⟩) a _).setCell (p:=⟨B,1,none⟩) a _).setCell (p:=⟨B,2,none⟩) a _).setCell (p:=⟨B,3,none⟩) a _).setCell (p:=⟨B,4,none⟩) a _
theorem Q9k (b off c:Nat) (l:List Sl) (w:World) (N:b < w.heap.size) (hc:∀i,i < l.length→∀j,j < Q0g.k→w.cell? ⟨b,off+i * Q0g.k+j,none⟩=(Q0g.cs (l.getD i Q0g.d))[j]?) (hl:l.length≤1048576):
  Calls Tryz.prog 167 #[tab (.slice (some ⟨b,off,none⟩) l.length c)] w fun e w'=> e=.returned (.tuple #[slot (Q26 l),.bool (Q26 l).u])∧Below w.heap.size w w':=by
 have HC:=Q01 hc;clear hc;obtain ⟨n,M⟩:∃W,((w.alloc (.cells #[.slice (some ⟨b,off,none⟩) l.length c] 32)).alloc (.cells #[.bool false,.int .i64 0,.int .i64 0,.int .i64 0,.int .i64 0] 101))=W:=⟨_,rfl⟩;have R:=alb0v0v2 M;have HB:=Q01 R;clear R;have O:=alz0v0v2 M
 have P:n.cell? ⟨w.heap.size,0,none⟩=some (.slice (some ⟨b,off,none⟩) l.length c):=by rw [←M];simp [go_sem]
 have h:=alz0v1v2 M;obtain ⟨G,H,I,J,L⟩:=alc5v1v2 M;obtain ⟨t,x,y,z,A⟩:=alf5v1v2 M;obtain ⟨X,Z⟩:∃W,n.alloc (.cells #[.bool false,.int .i64 0,.int .i64 0,.int .i64 0,.int .i64 0] 101)=W:=⟨_,rfl⟩;have ag:=O;have g:=h
 have b4:Hid (X.heap[n.heap.size]? =some (.cells (Q4D sl0) 101 (0,0))):=by rw [←Z];exact World.alloc_heap_new n _
 have a:=alb0v0v1 Z;replace P:=bKq0v0v0 a P O;replace O:w.heap.size < X.heap.size:=Kbq O a.size;replace G:=bKq0v0v0 a G h;replace H:=bKq0v0v0 a H h;replace I:=bKq0v0v0 a I h;replace J:=bKq0v0v0 a J h;replace L:=bKq0v0v0 a L h;replace t:X.frozen? ⟨w.heap.size+1,0,none⟩=false:=(a.frozen (p:=⟨w.heap.size+1,0,none⟩) h).trans t;replace x:X.frozen? ⟨w.heap.size+1,1,none⟩=false:=(a.frozen (p:=⟨w.heap.size+1,1,none⟩) h).trans x
 replace y:X.frozen? ⟨w.heap.size+1,2,none⟩=false:=(a.frozen (p:=⟨w.heap.size+1,2,none⟩) h).trans y;replace z:X.frozen? ⟨w.heap.size+1,3,none⟩=false:=(a.frozen (p:=⟨w.heap.size+1,3,none⟩) h).trans z;replace A:X.frozen? ⟨w.heap.size+1,4,none⟩=false:=(a.frozen (p:=⟨w.heap.size+1,4,none⟩) h).trans A;replace h:w.heap.size+1 < X.heap.size:=Kbq h a.size;replace HB:=Q01 (HB.out.trans (a.mono HB.out.size));clear a;have am:=alz0v0v1 Z;have ah:=HB;go_enter Tryz.func167,Tryz.ntmps167;go_wp2
 go_loopw [5] (fun i wr=> ∃k:Nat,k≤l.length∧i=.int .i64 k∧Hid (wr.heap[n.heap.size]? =some (.cells (Q4D (Q4c l k)) 101 (0,0)))∧Hid (Below (n.heap.size) X wr))
  (fun i _=> l.length - (intOf i).toNat)
 case atStart=> exact ⟨0,Kcq _,rfl,b4,Below.refl _ _⟩
 case round=>
 obtain ⟨k,hk,rfl,hq,f⟩:=hrel;have aj:X.heap.size≤wr.heap.size:=f.out.size;obtain ⟨q,U⟩:∃q,Q4c l k=q:=⟨_,rfl⟩;rw [U] at hq;replace P:=bKq0v0v0 f.out P ag
 replace O:w.heap.size < wr.heap.size:=by omega
 replace G:=bKq0v0v0 f.out G g;replace H:=bKq0v0v0 f.out H g;replace I:=bKq0v0v0 f.out I g;replace J:=bKq0v0v0 f.out J g;replace L:=bKq0v0v0 f.out L g;replace t:wr.frozen? ⟨w.heap.size+1,0,none⟩=false:=(f.out.frozen (p:=⟨w.heap.size+1,0,none⟩) g).trans t;replace x:wr.frozen? ⟨w.heap.size+1,1,none⟩=false:=(f.out.frozen (p:=⟨w.heap.size+1,1,none⟩) g).trans x;replace y:wr.frozen? ⟨w.heap.size+1,2,none⟩=false:=(f.out.frozen (p:=⟨w.heap.size+1,2,none⟩) g).trans y
 replace z:wr.frozen? ⟨w.heap.size+1,3,none⟩=false:=(f.out.frozen (p:=⟨w.heap.size+1,3,none⟩) g).trans z;replace A:wr.frozen? ⟨w.heap.size+1,4,none⟩=false:=(f.out.frozen (p:=⟨w.heap.size+1,4,none⟩) g).trans A
 replace h:w.heap.size+1 < wr.heap.size:=by omega
 have r:n.heap.size < wr.heap.size:=by omega
 have ai:w.heap.size≤n.heap.size:=by omega
 have B:=Q01 (ah.out.trans (f.out.mono ai));obtain ⟨q0,q1,q2,q3,q4⟩:=cxb5v0v0 hq.out;obtain ⟨aa,ab,ac,ad,ae⟩:=fxb5v0v0 hq.out
 by_cases hlt:k < l.length
 ·skip
  have D:=RdL.slot (C:=w.heap.size) HC.out k hlt;have m:=Q01 (Q5j hlt);rw [U] at m;obtain ⟨s,af⟩:∃s,l.getD k sl0=s:=⟨_,rfl⟩;rw [af] at D m;have e0:=(B.out.cell (p:=⟨b,off+k * 5,none⟩) N).trans D.1;have e1:=(B.out.cell (p:=⟨b,off+k * 5+1,none⟩) N).trans D.2.1;have e2:=(B.out.cell (p:=⟨b,off+k * 5+2,none⟩) N).trans D.2.2.1;have e3:=(B.out.cell (p:=⟨b,off+k * 5+3,none⟩) N).trans D.2.2.2.1;have e4:=(B.out.cell (p:=⟨b,off+k * 5+4,none⟩) N).trans D.2.2.2.2;have zb:b < wr.heap.size:=Kbq N B.out.size
  have al:(k:Int) < (l.length:Int):=by omega
  clear D af U;have G0:=Grown.cell P O;have Ge0:=Grown.cell (b:=b) (off:=off+k * 5) e0 zb;have Gq0:=Grown.cell q0 r
  have Gf0:∀p:Grown wr,p.v.frozen? ⟨n.heap.size,0,none⟩=false:=fun p=> (p.b.frozen (p:=⟨n.heap.size,0,none⟩) r).trans aa
  have Ge1:=Grown.cell (b:=b) (off:=off+k * 5+1) e1 zb;have Gq1:=Grown.cell q1 r
  have Gf1:∀p:Grown wr,p.v.frozen? ⟨n.heap.size,1,none⟩=false:=fun p=> (p.b.frozen (p:=⟨n.heap.size,1,none⟩) r).trans ab
  have Ge2:=Grown.cell (b:=b) (off:=off+k * 5+2) e2 zb;have Gq2:=Grown.cell q2 r
  have Gf2:∀p:Grown wr,p.v.frozen? ⟨n.heap.size,2,none⟩=false:=fun p=> (p.b.frozen (p:=⟨n.heap.size,2,none⟩) r).trans ac
  have Ge3:=Grown.cell (b:=b) (off:=off+k * 5+3) e3 zb;have Gq3:=Grown.cell q3 r
  have Gf3:∀p:Grown wr,p.v.frozen? ⟨n.heap.size,3,none⟩=false:=fun p=> (p.b.frozen (p:=⟨n.heap.size,3,none⟩) r).trans ad
  have Ge4:=Grown.cell (b:=b) (off:=off+k * 5+4) e4 zb;have Gq4:=Grown.cell q4 r
  have Gf4:∀p:Grown wr,p.v.frozen? ⟨n.heap.size,4,none⟩=false:=fun p=> (p.b.frozen (p:=⟨n.heap.size,4,none⟩) r).trans ae
  have HQ:=hq;clear hq aa q0 e0 ab q1 e1 ac q2 e2 ad q3 e3 ae q4 e4 G t H x I y J z L A;obtain ⟨su,sa,sp,sv,st⟩:=s;obtain ⟨qu,qa,qp,qv,qt⟩:=q;simp only at Ge0 Ge1 Ge2 Ge3 Ge4 Gq0 Gq1 Gq2 Gq3 Gq4
  cases su with
  |false=>
   have Y:=Q01 (m.out.trans (Q3Y rfl));clear m;go_wp2
   (refine Q0b (by kernel_rfl) (by kernel_rfl) ?_;intro T;(repeat (go_big_quiet_step ((fail))));(with_reducible refine wpQuiet_nil ?_);intro _ F;obtain ⟨V,E⟩:=F;subst E)
   go_wp2;go_roundw
   case rel=> exact ⟨k+1,hlt,by go_num,(by unfold Hid;rw [Y.out];exact (V.b.block _ r).trans HQ.out),(f.out.trans (V.b.mono (Nat.le_of_lt r)))⟩
   case measure=> simp [intOf];omega
  |true=>
   cases qu with
   |false=>
    have Y:=Q01 (m.out.trans (Q3j rfl rfl));clear m;go_wp2
    (refine Q0b (by kernel_rfl) (by kernel_rfl) ?_;intro T;(repeat (go_big_quiet_step ((fail))));(with_reducible refine wpQuiet_nil ?_);intro _ F;obtain ⟨V,E⟩:=F;subst E)
    go_wp2;go_roundw
    case rel=> exact ⟨k+1,hlt,by go_num,(by unfold Hid;rw [Y.out];exact QcO (s:=⟨true,sa,sp,sv,st⟩) ((V.b.block _ r).trans HQ.out)),Q2E (s:=⟨true,sa,sp,sv,st⟩) (f.out.trans (V.b.mono (Nat.le_of_lt r))) (Kaq _)⟩
    case measure=> simp [intOf];omega
   |true=>
    by_cases hlq:st < qt
    ·have Y:=Q01 (m.out.trans (Q41 rfl hlq))
     clear m;go_wp2
     (refine Q0b (by kernel_rfl) (by kernel_rfl) ?_;intro T;(repeat (go_big_quiet_step ((fail))));(with_reducible refine wpQuiet_nil ?_);intro _ F;obtain ⟨V,E⟩:=F;subst E)
     go_wp2;go_roundw
     case rel=> exact ⟨k+1,hlt,by go_num,(by unfold Hid;rw [Y.out];exact QcO (s:=⟨true,sa,sp,sv,st⟩) ((V.b.block _ r).trans HQ.out)),Q2E (s:=⟨true,sa,sp,sv,st⟩) (f.out.trans (V.b.mono (Nat.le_of_lt r))) (Kaq _)⟩
     case measure=> simp [intOf];omega
    ·have ak:decide (st < qt)=false:=decide_eq_false hlq
     have Y:=Q01 (m.out.trans (Q43 rfl hlq));clear m;go_wp2
     (refine Q0b (by kernel_rfl) (by kernel_rfl) ?_;intro T;(repeat (go_big_quiet_step ((fail))));(with_reducible refine wpQuiet_nil ?_);intro _ F;obtain ⟨V,E⟩:=F;subst E)
     go_wp2;go_roundw
     case rel=> exact ⟨k+1,hlt,by go_num,(by unfold Hid;rw [Y.out];exact (V.b.block _ r).trans HQ.out),(f.out.trans (V.b.mono (Nat.le_of_lt r)))⟩
     case measure=> simp [intOf];omega
 ·skip
  have e:k=l.length:=by omega
  subst e;have HE:=Q01 (show Q26 l=q from U);have HQ:=hq;clear hq U;go_wp2
  go_region
  go_wp2;refine bodyPost_ret (v:=.tuple #[slot q,.bool q.u]) (by simp [results,Tryz.results167,go_sem,G,H,I,J,L]) rfl ⟨by rw [HE.out], ?_⟩;exact Q2E (s:=q) (Below.drew B.out) (show w.heap.size≤w.heap.size+1 by omega)
end Go.Proofs.YtpneolgdghbinaaGreat
