/- Several texts in one: SBFrom2, SBOk, SBOkS, SSoon. -/
import Derived.Test.YteffhdcankkfkaaGreatQListed38
import Derived.Test.YteffhdcankkfkaaGreatQListed34
namespace Go.Proofs.YteffhdcankkfkaaGreat
open Go.ChangeShapes Go.WideShapes Go.ChangeAt Go.RowKit Go.Joins
set_option linter.unusedVariables false
set_option linter.unusedSimpArgs false
set_option maxRecDepth 100000
set_option maxHeartbeats 40000000
theorem Q2l {W:World} {R b j:Nat} {u:Value} (h:W.cell? ⟨b,j,none⟩=some u) (l:b≠R) (a c d f g i k:Value):(Qh6 W R a c d f g i k).cell? ⟨b,j,none⟩=some u:=(Q8W W R a c d f g i k).cellP h (Nat.lt_or_gt_of_ne l)
def Q4O (m:Bm):Bool:=Q0n m.j.key m.j.l m.j.safe && (Q7D m.t && Q1B (Q0Q m.j) m.p)
abbrev QaN (vt:Value) (kj:Int) (vl:Value) (sj kp:Int) (vb vr:Value):Value:=.agg #[vt,.int .i64 kj,vl,.int .i64 sj,.int .i64 kp,vb,vr]
def InBl (lo hi:Nat) (w:World) (v:Value) (j:Jm) (p:Pm) (t:List Sl):Prop:=∃vt vl vb vr a b,v=QaN vt j.key vl j.safe p.key vb vr/\lo<=a/\a<=b/\b<=hi/\InPm lo a w (plv p.key vb vr) p/\InL Q0u Q3m a b w vt t/\InJm b hi w (jrn j.key vl j.safe) j
theorem QbT (A:Int) (o:Option Addr) (nj c:Nat) (B V:Int) (ob:Option Addr) (np cb:Nat) (oR:Option Addr) (nr cR:Nat) (ot:Option Addr) (nt ct:Nat) (D:List Cd) (lb:List Bk) (lr:List (List (List Int))) (lt:List Sl) (w:World)
  (ac:nj=D.length) (ai:nt=lt.length) (h1:RdC w.heap.size w o D) (aA:o=none->c=0) (h2:Q8f w.heap.size w (plv V (.slice ob np cb) (.slice oR nr cR)) ⟨V,lb,lr⟩) (h4:RdS w.heap.size w ot lt) (hf:Q5m ⟨⟨A,D,B⟩,⟨V,lb,lr⟩,lt⟩):
  Calls Tryz.prog 110 #[Q5i A (.slice o nj c) B V (.slice ob np cb) (.slice oR nr cR) (.slice ot nt ct)] w fun e w'=> ∃(xo:Option Addr) (xn xc:Nat) (kq:Int) (yo:Option Addr) (yn yc:Nat) (sq kr:Int) (uo:Option Addr) (un uc:Nat) (vo:Option Addr) (vn vc:Nat),e=.returned (.tuple #[QaN (.slice xo xn xc) kq (.slice yo yn yc) sq kr (.slice uo un uc) (.slice vo vn vc),.bool (Q4O ⟨⟨A,D,B⟩,⟨V,lb,lr⟩,lt⟩)])/\(Q4O ⟨⟨A,D,B⟩,⟨V,lb,lr⟩,lt⟩=true->InBl w.heap.size w'.heap.size w' (QaN (.slice xo xn xc) kq (.slice yo yn yc) sq kr (.slice uo un uc) (.slice vo vn vc)) ⟨A,D,B⟩ (Q0Q ⟨A,D,B⟩) lt)/\Below w.heap.size w w':=by
 obtain⟨f1,f2,f7⟩:=hf;dsimp only at f1 f2 f7
 have aC:D.length<=1048576:=by omega
 have ay:=Q00 (fun W (d:Below w.heap.size w W)=>Q8h (jrn A (.slice o nj c) B) ⟨A,D,B⟩ W ⟨_,rfl,o,c,(by rw[ac]),(h1.kept d (Kaq _)).le d.size⟩ ⟨_,_,_,rfl,fun n9 c9 e9=>by injection e9 with e1 e2 e3;rw[<-e3];exact aA e1⟩ aC);have ax:=Q00 (fun W (d:Below w.heap.size w W)=>Q9g ot nt ct lt W ai ((h4.kept d (Kaq _)).le d.size) f7);have aw:=Q00 (fun W (d:Below w.heap.size w W)=>Q5L A B o c D W ((h1.kept d (Kaq _)).le d.size) aA aC);rw[<-ac]at aw
 have ag:=Q00 (fun W (d:Below w.heap.size w W) v (h:Q8f W.heap.size W v (Q0Q ⟨A,D,B⟩))=>Q5K v (plv V (.slice ob np cb) (.slice oR nr cR)) (Q0Q ⟨A,D,B⟩) ⟨V,lb,lr⟩ W h ((h2.kept d (Kaq _)).le d.size) (Q3O _) f2);have C:=Q00 (show Q4O ⟨⟨A,D,B⟩,⟨V,lb,lr⟩,lt⟩=(Q0n A D B && (Q7D lt && Q1B (Q0Q ⟨A,D,B⟩) ⟨V,lb,lr⟩))from rfl);have ab:=Q00 (show Q7D lt=true->Q0k lt=true from fun h=>by unfold Q7D at h;cases ht:Q0k lt <;> simp_all);have aO:=Q00 ac;have a4:=Q00 ai;clear h1 h2 h4 f2 ac ai
 obtain⟨W0,O⟩:∃W,((w.alloc (.cells #[.int .i64 A,.slice o nj c,.int .i64 B,.int .i64 V,.slice ob np cb,.slice oR nr cR,.slice ot nt ct] 34)).alloc (.cells #[.slice none 0 0,.int .i64 0,.slice none 0 0,.int .i64 0,.int .i64 0,.slice none 0 0,.slice none 0 0] 123))=W:=⟨_,rfl⟩;have Y:=alb0v0v2 O;have m:=Q00 Y;clear Y;have j:=alz0v0v2 O;obtain⟨R,T,U,z3,z4,z5,z6⟩:=alc7v0v2 O;have i:=alz0v1v2 O;obtain⟨G,H,I,J,L,M,N⟩:=alc7v1v2 O;obtain⟨q,r,s,t,u,y,z⟩:=alf7v1v2 O;have bb:=i;have ba:w.heap.size<=W0.heap.size:=m.out.size
 go_enter Tryz.func110,Tryz.ntmps110;go_wp2_with fail;refine(ay.out W0 m.out).mono ?_;rintro e v1 ⟨vp,rfl,aL,d⟩;have k:=Q00 aL;clear aL;replace R:=bC d R j;replace T:=bC d T j;replace U:=bC d U j;replace z3:=bC d z3 j;replace z4:=bC d z4 j;replace z5:=bC d z5 j;replace z6:=bC d z6 j;replace j:=Kbq j d.size;replace G:=bC d G i;replace H:=bC d H i;replace I:=bC d I i;replace J:=bC d J i;replace L:=bC d L i;replace M:=bC d M i;replace N:=bC d N i;replace q:=bF d q i;replace r:=bF d r i;replace s:=bF d s i
 replace t:=bF d t i;replace u:=bF d u i;replace y:=bF d y i;replace z:=bF d z i;replace i:=Kbq i d.size;replace m:=Q00 (m.out.trans (d.mono m.out.size));clear d;dsimp only at k ⊢;obtain⟨pm,ak⟩:∃p,Q0Q ⟨A,D,B⟩=p:=⟨_,rfl⟩;rw[ak]at k ag C;have aS:=Q00 ak;clear ak ay;obtain⟨po,pc,qo,qc,aK⟩:=k.out.opn;obtain⟨pk,aj⟩:∃x,pm.key=x:=⟨_,rfl⟩;obtain⟨pn,aF⟩:∃x,pm.l.length=x:=⟨_,rfl⟩;obtain⟨qn,aH⟩:∃x,pm.ring.length=x:=⟨_,rfl⟩;rw[aj,aF,aH]at aK;subst aK;have aR:=Q00 aj;clear aj aF aH
 have a6:W0.heap.size<=v1.heap.size:=by have:=k.out;obtain⟨_,_,bc,_,k1,k2,_⟩:=this;omega
 obtain⟨W2,X⟩:∃W,(v1.alloc (.cells #[.int .i64 pk,.slice po pn pc,.slice qo qn qc] 29))=W:=⟨_,rfl⟩;have f:=alb0v0v1 X;replace R:=bC f R j;replace T:=bC f T j;replace U:=bC f U j;replace z3:=bC f z3 j;replace z4:=bC f z4 j;replace z5:=bC f z5 j;replace z6:=bC f z6 j;replace j:=Kbq j f.size;replace G:=bC f G i;replace H:=bC f H i;replace I:=bC f I i;replace J:=bC f J i;replace L:=bC f L i;replace M:=bC f M i;replace N:=bC f N i;replace q:=bF f q i;replace r:=bF f r i
 replace s:=bF f s i;replace t:=bF f t i;replace u:=bF f u i;replace y:=bF f y i;replace z:=bF f z i;replace i:=Kbq i f.size;replace m:=Q00 (m.out.trans (f.mono m.out.size));clear f;have E:=alz0v0v1 X;obtain⟨p0,p1,p2⟩:=alc3v0v1 X;replace k:=Q00 (k.out.step (Stp.of (lo:=0) (hi:=0) (show Below v1.heap.size v1 W2 by rw[<-X];exact KBq.alloc (Kaq _) _)) (.inl (Kcq _)))
 have a7:v1.heap.size<=W2.heap.size:=by rw[<-X];simp
 go_wp2_with fail;refine(ax.out W2 m.out).mono ?_;rintro e F ⟨ho,hn,hc,rfl,af,d⟩;have aP:=Q00 af;clear af ax;replace k:=Q00 (k.out.step (Stp.of (lo:=0) (hi:=0) d) (.inl (Kcq _)));have a8:W2.heap.size<=F.heap.size:=d.size;replace R:=bC d R j;replace T:=bC d T j;replace U:=bC d U j;replace z3:=bC d z3 j;replace z4:=bC d z4 j;replace z5:=bC d z5 j;replace z6:=bC d z6 j;replace j:=Kbq j d.size;replace G:=bC d G i;replace H:=bC d H i;replace I:=bC d I i;replace J:=bC d J i;replace L:=bC d L i;replace M:=bC d M i
 replace N:=bC d N i;replace q:=bF d q i;replace r:=bF d r i;replace s:=bF d s i;replace t:=bF d t i;replace u:=bF d u i;replace y:=bF d y i;replace z:=bF d z i;replace i:=Kbq i d.size;replace p0:=bC d p0 E;replace p1:=bC d p1 E;replace p2:=bC d p2 E;replace E:=Kbq E d.size;replace m:=Q00 (m.out.trans (d.mono m.out.size));clear d;obtain⟨kb,ah⟩:∃b,Q0n A D B=b:=⟨_,rfl⟩;obtain⟨tb,al⟩:∃b,Q7D lt=b:=⟨_,rfl⟩;rw[ah,al]at C;rw[al]at ab ⊢;rw[ah];clear ah al
 obtain⟨W4,P⟩:∃W,(F.alloc (.cells #[.slice ho hn hc] 121))=W:=⟨_,rfl⟩;have a:=alb0v0v1 P;replace R:=bC a R j;replace T:=bC a T j;replace U:=bC a U j;replace z3:=bC a z3 j;replace z4:=bC a z4 j;replace z5:=bC a z5 j;replace z6:=bC a z6 j;replace j:=Kbq j a.size;replace G:=bC a G i;replace H:=bC a H i;replace I:=bC a I i;replace J:=bC a J i;replace L:=bC a L i;replace M:=bC a M i;replace N:=bC a N i;replace q:=bF a q i;replace r:=bF a r i;replace s:=bF a s i
 replace t:=bF a t i;replace u:=bF a u i;replace y:=bF a y i;replace z:=bF a z i;replace i:=Kbq i a.size;replace p0:=bC a p0 E;replace p1:=bC a p1 E;replace p2:=bC a p2 E;replace E:=Kbq E a.size;replace m:=Q00 (m.out.trans (a.mono m.out.size));clear a;have zt:=alz0v0v1 P
 have t0:W4.cell? ⟨F.heap.size,0,none⟩=some (.slice ho hn hc):=by rw[<-P];simp[go_sem]
 replace k:=Q00 (k.out.step (Stp.of (lo:=0) (hi:=0) (show Below F.heap.size F W4 by rw[<-P];exact KBq.alloc (Kaq _) _)) (.inl (Kcq _)))
 have aI:F.heap.size<=W4.heap.size:=by rw[<-P];simp
 have aB:Below F.heap.size F W4:=(show Below F.heap.size F W4 by rw[<-P];exact KBq.alloc (Kaq _) _)
 cases kb with
 |false=>
  go_wp2;refine bodyPost_ret (v:=.tuple #[QaN (.slice none 0 0) 0 (.slice none 0 0) 0 0 (.slice none 0 0) (.slice none 0 0),.bool false]) (by simp[results,Tryz.results110,go_sem,G,H,I,J,L,M,N]) rfl ⟨none,0,0,0,none,0,0,0,0,none,0,0,none,0,0,by rw[C.out];rfl,fun h9=>(by rw[C.out]at h9;cases h9),Q2K m.out (Nat.le_succ _) _ _ _ _ _ _ _⟩
 |true=>
  cases tb with
  |false=>
   go_wp2;refine bodyPost_ret (v:=.tuple #[QaN (.slice none 0 0) 0 (.slice none 0 0) 0 0 (.slice none 0 0) (.slice none 0 0),.bool false]) (by simp[results,Tryz.results110,go_sem,G,H,I,J,L,M,N]) rfl ⟨none,0,0,0,none,0,0,0,0,none,0,0,none,0,0,by rw[C.out];rfl,fun h9=>(by rw[C.out]at h9;cases h9),Q2K m.out (Nat.le_succ _) _ _ _ _ _ _ _⟩
  |true=>
   have az:=Q00 (ag.out W4 m.out _ (k.out.rd.le (by omega)));clear ag;obtain⟨sb,aJ⟩:∃b,Q1B pm ⟨V,lb,lr⟩=b:=⟨_,rfl⟩;rw[aJ]at az C;clear aJ;go_wp2_with fail;refine(az.out).mono ?_;rintro e v3 ⟨rfl,d⟩;replace k:=Q00 (k.out.step (Stp.of (lo:=0) (hi:=0) d) (.inl (Kcq _)));have aV:W4.heap.size<=v3.heap.size:=d.size;have ad:Below F.heap.size F v3:=aB.trans (d.mono aI);replace R:=bC d R j;replace T:=bC d T j;replace U:=bC d U j;replace z3:=bC d z3 j;replace z4:=bC d z4 j;replace z5:=bC d z5 j;replace z6:=bC d z6 j;replace j:=Kbq j d.size
   replace G:=bC d G i;replace H:=bC d H i;replace I:=bC d I i;replace J:=bC d J i;replace L:=bC d L i;replace M:=bC d M i;replace N:=bC d N i;replace q:=bF d q i;replace r:=bF d r i;replace s:=bF d s i;replace t:=bF d t i;replace u:=bF d u i;replace y:=bF d y i;replace z:=bF d z i;replace i:=Kbq i d.size;replace p0:=bC d p0 E;replace p1:=bC d p1 E;replace p2:=bC d p2 E;replace E:=Kbq E d.size;replace t0:=bC d t0 zt;replace zt:=Kbq zt d.size;replace m:=Q00 (m.out.trans (d.mono m.out.size));clear d
   cases sb with
   |false=>
    go_wp2;refine bodyPost_ret (v:=.tuple #[QaN (.slice none 0 0) 0 (.slice none 0 0) 0 0 (.slice none 0 0) (.slice none 0 0),.bool false]) (by simp[results,Tryz.results110,go_sem,G,H,I,J,L,M,N]) rfl ⟨none,0,0,0,none,0,0,0,0,none,0,0,none,0,0,by rw[C.out];rfl,fun h9=>(by rw[C.out]at h9;cases h9),Q2K m.out (Nat.le_succ _) _ _ _ _ _ _ _⟩
   |true=>
    have Z:w.heap.size≠w.heap.size+1:=by omega
    have aa:v1.heap.size≠w.heap.size+1:=by omega
    have aE:F.heap.size≠w.heap.size+1:=by omega
    go_wp2
    go_region_held3 (fun w'=>w'.cell? ⟨F.heap.size,0,none⟩=some (.slice ho hn hc)/\w'.cell? ⟨w.heap.size,0,none⟩=some (.int .i64 A)/\w'.cell? ⟨w.heap.size,1,none⟩=some (.slice o nj c)/\w'.cell? ⟨w.heap.size,2,none⟩=some (.int .i64 B)/\w'.cell? ⟨v1.heap.size,0,none⟩=some (.int .i64 pk)/\w'.cell? ⟨v1.heap.size,1,none⟩=some (.slice po pn pc)/\w'.cell? ⟨v1.heap.size,2,none⟩=some (.slice qo qn qc)) (first|with_reducible exact⟨t0,R,T,U,p0,p1,p2⟩|with_reducible exact⟨ap,aq,ar,au,am,an,ao⟩|with_reducible exact aD _ _ _ _ _ _ _|go_keep) (first|(go_at_call 162;(with_reducible refine(aw.out v3.drew (KHq m.out)).mono ?_);rintro e v4 ⟨o2,c2,rfl,aM,aG⟩;have n:Below v3.heap.size v3 v4:=(KHq KBq).trans aG;have ap:=bC n t0 zt;have aq:=bC n R j;have ar:=bC n T j;have au:=bC n U j;have am:=bC n p0 E;have an:=bC n p1 E;have ao:=bC n p2 E;have aX:=bC n G i;have bd:=bF n q i;have aY:=bC n H i;have be:=bF n r i;have aZ:=bC n I i;have bf:=bF n s i;have a0:=bC n J i;have bg:=bF n t i;have a1:=bC n L i;have bh:=bF n u i;have a2:=bC n M i;have bi:=bF n y i;have a3:=bC n N i;have bj:=bF n z i;have aD:=(fun x0 x1 x2 x3 x4 x5 x6=>And.intro (Q2l ap aE x0 x1 x2 x3 x4 x5 x6) (And.intro (Q2l aq Z x0 x1 x2 x3 x4 x5 x6) (And.intro (Q2l ar Z x0 x1 x2 x3 x4 x5 x6) (And.intro (Q2l au Z x0 x1 x2 x3 x4 x5 x6) (And.intro (Q2l am aa x0 x1 x2 x3 x4 x5 x6) (And.intro (Q2l an aa x0 x1 x2 x3 x4 x5 x6) (Q2l ao aa x0 x1 x2 x3 x4 x5 x6)))))));have av:=m.out.trans (n.mono m.out.size)))
    have a9:v3.heap.size<=v4.heap.size:=n.size;have ae:Below F.heap.size F v4:=ad.trans (n.mono (Kdq aI aV));replace k:=Q00 (k.out.step (Stp.of (lo:=0) (hi:=0) n) (.inl (Kcq _)));replace m:=Q00 av;have aQ:=Q00 aM;have a5:v3.drew.heap.size=v3.heap.size:=rfl
    have aN:Hid (InBl w.heap.size (Qh6 v4 (w.heap.size+1) (.slice ho hn hc) (.int .i64 A) (.slice o2 nj c2) (.int .i64 B) (.int .i64 pk) (.slice po pn pc) (.slice qo qn qc)).heap.size (Qh6 v4 (w.heap.size+1) (.slice ho hn hc) (.int .i64 A) (.slice o2 nj c2) (.int .i64 B) (.int .i64 pk) (.slice po pn pc) (.slice qo qn qc)) (QaN (.slice ho hn hc) A (.slice o2 nj c2) B pk (.slice po pn pc) (.slice qo qn qc)) ⟨A,D,B⟩ pm lt):=by
     have s9:=Q8W v4 (w.heap.size+1) (.slice ho hn hc) (.int .i64 A) (.slice o2 nj c2) (.int .i64 B) (.int .i64 pk) (.slice po pn pc) (.slice qo qn qc);have e9:pm.key=pk:=aR.out;obtain⟨g,hg,aU,aT,aW⟩:=aP.out (by first|exact ab.out rfl|exact ab.out trivial|simpa using ab.out);subst hg aU aT;refine⟨_,_,_,_,W2.heap.size,F.heap.size,by rw[e9],by omega,by omega,by rw[Q6k];omega, ?_, ?_, ?_⟩
     ·rw[e9]
      exact Qa2 (k.out.step s9 (.inl (by omega))) (by omega) (by omega)
     ·exact InRow.step ((InRow.of aW).step (Stp.of (lo:=0) (hi:=0) ae) (.inl (Kcq _))) s9 (.inl (by omega))
     ·refine⟨_,rfl, ?_⟩
      have j9:=InRow.step (InRow.of aQ.out) s9 (.inl (by omega));rw[aO.out]at j9 ⊢;exact InRow.mono j9 (by omega) (by rw[Q6k];exact Kaq _)
    clear aD n aG av aM ad ae t0 ap R aq T ar U au p0 am p1 an p2 ao G q H r I s J t L u M y N z;go_wp2;refine bodyPost_ret (v:=.tuple #[QaN (.slice ho hn hc) A (.slice o2 nj c2) B pk (.slice po pn pc) (.slice qo qn qc),.bool true]) (by simp[results,Tryz.results110,go_sem,aX,aY,aZ,a0,a1,a2,a3]) rfl ⟨ho,hn,hc,A,o2,nj,c2,B,pk,po,pn,pc,qo,qn,qc,by rw[C.out];rfl,fun _=>(by rw[aS.out];exact aN.out),Q2K m.out (Nat.le_succ _) _ _ _ _ _ _ _⟩
theorem Q5B (aa bb:List (List Int)):∀k,Q0H aa bb k=Q0H bb aa k
 |0=>rfl
 |k+1=>by
  unfold Q0H;rw[Q5B aa bb k]
  by_cases h:aa.getD k []=bb.getD k []
  ·rw[if_pos h,if_pos h.symm]
  ·rw[if_neg h,if_neg (fun e=>h e.symm)]
theorem Qb6 (aa bb:List (List Int)):Q0Y aa bb=Q0Y bb aa:=by
 unfold Q0Y
 by_cases h:aa.length=8/\bb.length=8
 ·rw[if_pos h,if_pos h.symm,Q5B]
 ·rw[if_neg h,if_neg (fun e=>h e.symm)]
theorem Q9a (R1 R2:List (List (List Int))):Q0V R1 R2=Q0V R2 R1:=by
 unfold Q0V
 by_cases h:R1.length=R2.length
 ·rw[h]
  congr 1
  congr 1
  funext i
  rw[Qb6]
 ·rw[decide_eq_false h,decide_eq_false (fun e=>h e.symm)];rfl
theorem QbH (a b:Pm):Q1B a b=Q1B b a:=by
 unfold Q1B;rw[Q9a,show decide (a.key=b.key)=decide (b.key=a.key)from decide_eq_decide.2 ⟨Eq.symm,Eq.symm⟩,show decide (a.l=b.l)=decide (b.l=a.l)from decide_eq_decide.2 ⟨Eq.symm,Eq.symm⟩]
def isL (s:Sl):Bool:=decide (s.v < 6)
theorem QeY {s:Sl} (h:Q2a s=true):0<=s.v:=by
 unfold Q2a at h
 split at h
 ·simp only[Bool.and_eq_true,decide_eq_true_eq]at h;exact h.1.1.1.2
 ·simp only[Bool.and_eq_true,decide_eq_true_eq]at h;omega
theorem Qhr {l:List Sl} (h:Q0k l=true):l.all isV=l.all isL:=by
 have c:=(Q10.1 h).2.2
 have hs:∀s∈l,isV s=isL s:=fun s hs=>by
  obtain⟨i,hi,rfl⟩:=List.getElem_of_mem hs;have a:=c i hi;unfold Q3g at a;rw[Bool.and_eq_true]at a;have b:=QeY a.1
  have e:l.getD i sl0=l[i]:=by simp[hi]
  rw[e]at b;unfold isV isL;rw[decide_eq_true b];rfl
 rw[Bool.eq_iff_iff,List.all_eq_true,List.all_eq_true];exact⟨fun q s m=>(hs s m) ▸ q s m,fun q s m=>(hs s m).symm ▸ q s m⟩
theorem QaL (m:Bm):Q4O m=(Q0n m.j.key m.j.l m.j.safe && (Q0k m.t && (Q1B m.p (Q0Q m.j) && m.t.all isL))):=by
 unfold Q4O Q7D;rw[QbH]
 cases ht:Q0k m.t with
 |false=>simp
 |true=>rw[Qhr ht];cases m.t.all isL <;> simp
theorem Qfs (l:List Sl) (k:Nat) (h:k < l.length):(l.take (k+1)).all isL=((l.take k).all isL && isL (l.getD k sl0)):=by
 rw[List.take_succ_eq_append_getElem h,List.all_append];simp[h]
theorem QhO {l:List Sl} {k:Nat} (h:k < l.length) (hv:isL (l.getD k sl0)=false):l.all isL=false:=by
 rw[Bool.eq_false_iff];intro a;rw[List.all_eq_true]at a;have:=a (l.getD k sl0) (by simp[h]);rw[hv]at this;cases this
theorem QbB (key a:Int) (o:Option Addr) (n cap:Nat) (cs:List Cd) (w:World) (k:n=cs.length) (i:RdC w.heap.size w o cs) (h:Q0n key cs a=true):
  Calls Tryz.prog 128 #[.int .i64 key,.slice o n cap] w fun e b=> ∃v,e=.returned v/\Q8f b.heap.size b v (Q0Q ⟨key,cs,a⟩)/\Below w.heap.size w b:=by
 subst k;have g:=h;unfold Q0n at h;simp only[Bool.and_eq_true,decide_eq_true_eq]at h;refine(Q9A key o cap cs w i h.1.1.1.1 h.1.1.1.2 h.2).mono ?_;rintro e b ⟨r,p,s,q,hs,rfl,c,d,m,l,j⟩;refine⟨_,rfl, ?_,j⟩;have f:Q0Q ⟨key,cs,a⟩=⟨key,Q0j cs cs.length,Q2d key (Q1E cs cs.length)⟩:=if_pos g;rw[f];exact(GTabs.pm (lo:=0) c d (Qhm m)).rd
theorem Q9m (y:Int) (o:Option Addr) (nj c:Nat) (z C:Int) (ob:Option Addr) (np cb:Nat) (oR:Option Addr) (nr cR:Nat) (ot:Option Addr) (nt ct:Nat) (A:List Cd) (lb:List Bk) (lr:List (List (List Int))) (lt:List Sl) (w:World)
  (aE:nj=A.length) (aF:nt=lt.length) (h1:RdC w.heap.size w o A) (a9:o=none->c=0) (h2:Q8f w.heap.size w (plv C (.slice ob np cb) (.slice oR nr cR)) ⟨C,lb,lr⟩) (h4:RdS w.heap.size w ot lt) (hf:Q5m ⟨⟨y,A,z⟩,⟨C,lb,lr⟩,lt⟩):
  Calls Tryz.prog 70 #[Q5i y (.slice o nj c) z C (.slice ob np cb) (.slice oR nr cR) (.slice ot nt ct)] w fun e w'=>e=.returned (.bool (Q4O ⟨⟨y,A,z⟩,⟨C,lb,lr⟩,lt⟩))/\Below w.heap.size w w':=by
 obtain⟨f1,f2,f7⟩:=hf;dsimp only at f1 f2 f7
 have a5:A.length<=1048576:=by omega
 have HJ:=Q00 (fun W (O:Below w.heap.size w W)=>Q5h y z o c A W ((h1.kept O (Kaq _)).le O.size) a5);have HT:=Q00 (fun W (O:Below w.heap.size w W)=>Q2j ot ct lt W ((h4.kept O (Kaq _)).le O.size) f7);rw[<-aE]at HJ;rw[<-aF]at HT;have n:=Q00 (fun (hj:Q0n y A z=true) W (O:Below w.heap.size w W)=>QbB y z o nj c A W aE ((h1.kept O (Kaq _)).le O.size) hj);have B:=Q00 (fun W (O:Below w.heap.size w W) v (h:Q8f W.heap.size W v (Q0Q ⟨y,A,z⟩))=>Qdz (plv C (.slice ob np cb) (.slice oR nr cR)) v ⟨C,lb,lr⟩ (Q0Q ⟨y,A,z⟩) W ((h2.kept O (Kaq _)).le O.size) h f2 (Q3O _))
 have t:=Q00 (QaL ⟨⟨y,A,z⟩,⟨C,lb,lr⟩,lt⟩);dsimp only at t;have aQ:=Q00 h4;have aP:=Q00 aF;clear h1 h2 h4 f2 aE aF;generalize Q1B ⟨C,lb,lr⟩ (Q0Q ⟨y,A,z⟩)=sb at *;obtain⟨rp,aV⟩:∃r,Q0Q ⟨y,A,z⟩=r:=⟨_,rfl⟩;rw[aV]at n B;clear aV;obtain⟨m,aC⟩:∃W,(w.alloc (.cells #[.int .i64 y,.slice o nj c,.int .i64 z,.int .i64 C,.slice ob np cb,.slice oR nr cR,.slice ot nt ct] 34))=W:=⟨_,rfl⟩;have P:=alb0v0v1 aC;have j:=Q00 P;clear P;have a:=alz0v0v1 aC;obtain⟨D,E,F,G,H,I,J⟩:=alc7v0v1 aC;have u:=j.out.size;obtain⟨jb,aS⟩:∃b,Q0n y A z=b:=⟨_,rfl⟩
 rw[aS]at HJ t n;clear aS
 cases jb with
 |false=>
  have aB:=Q00 (fun p:Grown m=>HJ.out p.v (j.out.trans (p.b.mono j.out.size)));have G0:=Grown.cell D a;have G1:=Grown.cell E a;have G2:=Grown.cell F a;have G3:=Grown.cell G a;have G4:=Grown.cell H a;have G5:=Grown.cell I a;have G6:=Grown.cell J a;clear HJ HT n B;go_enter Tryz.func70,Tryz.ntmps70;go_wp2
  (refine Q0b (by kernel_rfl) (by kernel_rfl) ?_;intro aU;(repeat (go_big_quiet_step ((go_at_call 125;exact Q0r _ (aB.out _)))));(with_reducible refine wpQuiet_nil ?_);intro _ aI;obtain⟨pq,aH⟩:=aI;subst aH)
  have q:=Q00 (j.out.trans (pq.b.mono j.out.size));go_wp2;go_ret;exact⟨Q03 (by rw[t.out];rfl),q.out⟩
 |true=>
  replace n:=Q00 (n.out (by first|rfl|trivial));obtain⟨tb,aG⟩:∃b,Q0k lt=b:=⟨_,rfl⟩;rw[aG]at HT t;have aZ:=Q00 aG;clear aG
  cases tb with
  |false=>
   have aB:=Q00 (fun p:Grown m=>HJ.out p.v (j.out.trans (p.b.mono j.out.size)));have a1:=Q00 (fun p:Grown m=>HT.out p.v (j.out.trans (p.b.mono j.out.size)));have G0:=Grown.cell D a;have G1:=Grown.cell E a;have G2:=Grown.cell F a;have G3:=Grown.cell G a;have G4:=Grown.cell H a;have G5:=Grown.cell I a;have G6:=Grown.cell J a;clear HJ HT n B;go_enter Tryz.func70,Tryz.ntmps70;go_wp2
   (refine Q0b (by kernel_rfl) (by kernel_rfl) ?_;intro aU;(repeat (go_big_quiet_step ((first|(go_at_call 125;exact Q0r _ (aB.out _))|(go_at_call 126;exact Q0r _ (a1.out _))))));(with_reducible refine wpQuiet_nil ?_);intro _ aI;obtain⟨pq,aH⟩:=aI;subst aH)
   have q:=Q00 (j.out.trans (pq.b.mono j.out.size));go_wp2;go_ret;exact⟨Q03 (by rw[t.out];rfl),q.out⟩
  |true=>
   cases sb with
   |false=>
    go_enter Tryz.func70,Tryz.ntmps70;go_wp2
    go_region_held3 (fun w'=>w'.cell? ⟨w.heap.size,0,none⟩=some (.int .i64 y)/\w'.cell? ⟨w.heap.size,1,none⟩=some (.slice o nj c)/\w'.cell? ⟨w.heap.size,2,none⟩=some (.int .i64 z)/\w'.cell? ⟨w.heap.size,3,none⟩=some (.int .i64 C)/\w'.cell? ⟨w.heap.size,4,none⟩=some (.slice ob np cb)/\w'.cell? ⟨w.heap.size,5,none⟩=some (.slice oR nr cR)/\w'.cell? ⟨w.heap.size,6,none⟩=some (.slice ot nt ct)) (first|with_reducible exact⟨D,E,F,G,H,I,J⟩|with_reducible exact⟨Y,Z,aa,ab,ac,ad,ae⟩|with_reducible exact⟨af,ag,ah,ai,aj,ak,al⟩|with_reducible exact⟨am,an,ao,ap,aq,ar,au⟩|with_reducible exact⟨aJ,aK,aL,aM,aN,aO,ax⟩|go_keep) (first|(go_at_call 125;(with_reducible refine(HJ.out m.drew (KHq j.out)).mono ?_);rintro e x0 ⟨rfl,T⟩;have d:Below m.heap.size m x0:=(KHq KBq).trans T;have Y:=bC d D a;have Z:=bC d E a;have aa:=bC d F a;have ab:=bC d G a;have ac:=bC d H a;have ad:=bC d I a;have ae:=bC d J a;have L:=j.out.trans (d.mono u);clear T)|(go_at_call 126;(with_reducible refine(HT.out x0 L).mono ?_);rintro e x1 ⟨rfl,U⟩;have f:Below m.heap.size m x1:=d.trans (U.mono d.size);have af:=bC f D a;have ag:=bC f E a;have ah:=bC f F a;have ai:=bC f G a;have aj:=bC f H a;have ak:=bC f I a;have al:=bC f J a;have M:=j.out.trans (f.mono u))|(go_at_call 128;(with_reducible refine(n.out x1 M).mono ?_);rintro e x2 ⟨v8,rfl,av,V⟩;have g:Below m.heap.size m x2:=f.trans (V.mono f.size);have am:=bC g D a;have an:=bC g E a;have ao:=bC g F a;have ap:=bC g G a;have aq:=bC g H a;have ar:=bC g I a;have au:=bC g J a;have N:=j.out.trans (g.mono u))|(go_at_call 127;(with_reducible refine(B.out x2 N v8 av).mono ?_);rintro e x3 ⟨rfl,X⟩;have i:Below m.heap.size m x3:=g.trans (X.mono g.size);have aJ:=bC i D a;have aK:=bC i E a;have aL:=bC i F a;have aM:=bC i G a;have aN:=bC i H a;have aO:=bC i I a;have ax:=bC i J a;have aw:=j.out.trans (i.mono u)))
    have q:=Q00 aw;clear d f g i U V X av L M N Y af am Z ag an aa ah ao ab ai ap ac aj aq ad ak ar ae al au;go_wp2;go_ret;exact⟨Q03 (by rw[t.out];rfl),q.out⟩
   |true=>
    have aT:lt≠[]:=by intro h;subst h;exact absurd aZ.out (by decide)
    rcases aQ.out with h|⟨bt,ft,rfl,a4,R⟩
    ·exact absurd h aT
    have aX:=Q00 R;clear R aT aQ;go_enter Tryz.func70,Tryz.ntmps70;go_wp2
    go_region_held3 (fun w'=>w'.cell? ⟨w.heap.size,0,none⟩=some (.int .i64 y)/\w'.cell? ⟨w.heap.size,1,none⟩=some (.slice o nj c)/\w'.cell? ⟨w.heap.size,2,none⟩=some (.int .i64 z)/\w'.cell? ⟨w.heap.size,3,none⟩=some (.int .i64 C)/\w'.cell? ⟨w.heap.size,4,none⟩=some (.slice ob np cb)/\w'.cell? ⟨w.heap.size,5,none⟩=some (.slice oR nr cR)/\w'.cell? ⟨w.heap.size,6,none⟩=some (.slice (some ⟨bt,ft,none⟩) nt ct)) (first|with_reducible exact⟨D,E,F,G,H,I,J⟩|with_reducible exact⟨Y,Z,aa,ab,ac,ad,ae⟩|with_reducible exact⟨af,ag,ah,ai,aj,ak,al⟩|with_reducible exact⟨am,an,ao,ap,aq,ar,au⟩|with_reducible exact⟨aJ,aK,aL,aM,aN,aO,ax⟩|go_keep) (first|(go_at_call 125;(with_reducible refine(HJ.out m.drew (KHq j.out)).mono ?_);rintro e x0 ⟨rfl,T⟩;have d:Below m.heap.size m x0:=(KHq KBq).trans T;have Y:=bC d D a;have Z:=bC d E a;have aa:=bC d F a;have ab:=bC d G a;have ac:=bC d H a;have ad:=bC d I a;have ae:=bC d J a;have L:=j.out.trans (d.mono u);clear T)|(go_at_call 126;(with_reducible refine(HT.out x0 L).mono ?_);rintro e x1 ⟨rfl,U⟩;have f:Below m.heap.size m x1:=d.trans (U.mono d.size);have af:=bC f D a;have ag:=bC f E a;have ah:=bC f F a;have ai:=bC f G a;have aj:=bC f H a;have ak:=bC f I a;have al:=bC f J a;have M:=j.out.trans (f.mono u))|(go_at_call 128;(with_reducible refine(n.out x1 M).mono ?_);rintro e x2 ⟨v8,rfl,av,V⟩;have g:Below m.heap.size m x2:=f.trans (V.mono f.size);have am:=bC g D a;have an:=bC g E a;have ao:=bC g F a;have ap:=bC g G a;have aq:=bC g H a;have ar:=bC g I a;have au:=bC g J a;have N:=j.out.trans (g.mono u))|(go_at_call 127;(with_reducible refine(B.out x2 N v8 av).mono ?_);rintro e x3 ⟨rfl,X⟩;have i:Below m.heap.size m x3:=g.trans (X.mono g.size);have aJ:=bC i D a;have aK:=bC i E a;have aL:=bC i F a;have aM:=bC i G a;have aN:=bC i H a;have aO:=bC i I a;have ax:=bC i J a;have aw:=j.out.trans (i.mono u)))
    have q:=Q00 aw;have a6:=i.size;clear d f g i U V X av L M N Y af am Z ag an aa ah ao ab ai ap ac aj aq ad ak ar ae al au;clear aw HJ HT n B;go_wp2
    go_loopw [2,3] (fun rv iv wr=> ∃k:Nat,k<=nt/\iv=.int .i64 (k:Int)/\rv=.bool false/\Hid ((lt.take k).all isL=true)/\Hid (Below x3.heap.size x3 wr))
     (fun _ iv _=>nt - (intOf iv).toNat)
    case atStart=>exact⟨0,Kcq _,rfl,rfl,(by unfold Hid;rfl),KBq⟩
    case round=>
     rename World=>wr
     obtain⟨k,ba,rfl,rfl,aR,ay⟩:=hrel;have a7:w.heap.size < x3.heap.size:=Kbq a a6;have y6:=(ay.out.cell (p:=⟨w.heap.size,6,none⟩) a7).trans ax;have az:=Q00 (q.out.trans (ay.out.mono q.out.size))
     by_cases hlt:k < nt
     ·have a8:(k:Int) < (nt:Int):=by omega
      have aD:k < lt.length:=by rw[<-aP.out];exact hlt
      have a3:wr.cell? ⟨bt,ft+k * 5+3,none⟩=some (.int .i64 (lt.getD k sl0).v):=(az.out.cell (p:=⟨bt,ft+k * Q0u.k+3,none⟩) a4).trans (aX.out k aD 3 (by decide));have a0:=Q00 (Qfs lt k aD);have aY:=Q00 (fun h=>QhO (l:=lt) aD h);generalize lt.getD k sl0=s at *;have aA:=Q00 (show isL s=decide (s.v < 6)from rfl);obtain⟨sv,aW⟩:∃x,s.v=x:=⟨_,rfl⟩;rw[aW]at a3 aA;clear aW
      by_cases h6:sv < 6
      ·have a2:¬(6<=sv):=by omega
       go_wp2;go_roundw
       case rel=>exact⟨k+1,by omega,by go_num,rfl,(by unfold Hid;rw[a0.out,aR.out,aA.out,decide_eq_true h6];rfl),ay.out⟩
       case measure=>simp[intOf];omega
      ·have a2:6<=sv:=by omega
       have HE:=Q00 (aY.out (by rw[aA.out];exact decide_eq_false h6));go_wp2;go_ret;exact⟨Q03 (by rw[t.out,HE.out];rfl),az.out⟩
     ·have e:k=nt:=by omega
      subst e
      have HE:Hid (lt.all isL=true):=by have h:=aR.out;rw[aP.out,List.take_length]at h;exact h
      go_wp2;go_ret;exact⟨Q03 (by rw[t.out,HE.out];rfl),az.out⟩
def Qjf (w:World) (B:Nat) (s:Sl):World:=((((w.setCell ⟨B,0,none⟩ (.bool s.u)).setCell ⟨B,1,none⟩ (.int .i64 s.a)).setCell ⟨B,2,none⟩ (.int .i64 s.p)).setCell ⟨B,3,none⟩ (.int .i64 s.v)).setCell ⟨B,4,none⟩ (.int .i64 s.t)
theorem Q2g {w W:World} {n B:Nat} (h:Below n w W) (a:n<=B) (s:Sl):Below n w (Qjf W B s):=
 ((((h.setCell (p:=⟨B,0,none⟩) a _).setCell (p:=⟨B,1,none⟩) a _).setCell (p:=⟨B,2,none⟩) a _).setCell (p:=⟨B,3,none⟩) a _).setCell (p:=⟨B,4,none⟩) a _
end Go.Proofs.YteffhdcankkfkaaGreat
