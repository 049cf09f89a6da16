/- Several texts in one: SBFrom2, SBOk, SBOkS, STabI3, SSoon, SPlain, SGet, SHint, Cut5, SPut, SPut2, DropMath, WayMath, WayMath2, DueMath, PutMath, DropElse. -/
import Derived.Test.YtpneolgdghbinaaGreatQCrashesL11
import Derived.Test.YtpneolgdghbinaaGreatQCrashesL28
namespace Go.Proofs.YtpneolgdghbinaaGreat
open Go.ChangeShapes Go.WideShapes Go.ChangeAt Go.RowKit Go.Joins
set_option linter.unusedVariables false
set_option linter.unusedSimpArgs false
set_option maxRecDepth 100000
set_option maxHeartbeats 40000000
theorem Q1a {W:World} {R b j:Nat} {u:Value} (h:W.cell? ⟨b,j,none⟩=some u) (l:b≠R) (a c d f g i k:Value):(Q1Q W R a c d f g i k).cell? ⟨b,j,none⟩=some u:=(Q0U W R a c d f g i k).cellP h (Nat.lt_or_gt_of_ne l)
def Q1J (m:Bm):Bool:=Q0f m.j.key m.j.l m.j.safe && (Q6M m.t && Q1I (Q0x m.j) m.p)
abbrev QcF (vt:Value) (kj:Int) (vl:Value) (sj kp:Int) (vb vr:Value):Value:=.agg #[vt,.int .i64 kj,vl,.int .i64 sj,.int .i64 kp,vb,vr]
def QiF (lo hi:Nat) (w:World) (v:Value) (j:Jm) (p:Pm) (t:List Sl):Prop:=∃vt vl vb vr a b,v=QcF vt j.key vl j.safe p.key vb vr/\lo<=a/\a<=b/\b<=hi/\InPm lo a w (plv p.key vb vr) p/\InL Q0g Q1B a b w vt t/\InJm b hi w (jrn j.key vl j.safe) j
theorem Q2G (A:Int) (o:Option Addr) (nj c:Nat) (B V:Int) (ob:Option Addr) (np cb:Nat) (oR:Option Addr) (nr cR:Nat) (ot:Option Addr) (nt ct:Nat) (D:List Cd) (lb:List Bk) (lr:List (List (List Int))) (lt:List Sl) (w:World)
  (ac:nj=D.length) (ai:nt=lt.length) (h1:RdC w.heap.size w o D) (aA:o=none->c=0) (h2:Q4P w.heap.size w (plv V (.slice ob np cb) (.slice oR nr cR)) ⟨V,lb,lr⟩) (h4:RdS w.heap.size w ot lt) (hf:Q6e ⟨⟨A,D,B⟩,⟨V,lb,lr⟩,lt⟩):
  Calls Tryz.prog 37 #[Q0O A (.slice o nj c) B V (.slice ob np cb) (.slice oR nr cR) (.slice ot nt ct)] w fun e w'=> ∃(xo:Option Addr) (xn xc:Nat) (kq:Int) (yo:Option Addr) (yn yc:Nat) (sq kr:Int) (uo:Option Addr) (un uc:Nat) (vo:Option Addr) (vn vc:Nat),e=.returned (.tuple #[QcF (.slice xo xn xc) kq (.slice yo yn yc) sq kr (.slice uo un uc) (.slice vo vn vc),.bool (Q1J ⟨⟨A,D,B⟩,⟨V,lb,lr⟩,lt⟩)])/\(Q1J ⟨⟨A,D,B⟩,⟨V,lb,lr⟩,lt⟩=true->QiF w.heap.size w'.heap.size w' (QcF (.slice xo xn xc) kq (.slice yo yn yc) sq kr (.slice uo un uc) (.slice vo vn vc)) ⟨A,D,B⟩ (Q0x ⟨A,D,B⟩) lt)/\Below w.heap.size w w':=by
 obtain⟨f1,f2,f7⟩:=hf;dsimp only at f1 f2 f7
 have aC:D.length<=1048576:=by omega
 have ay:=Q02 (fun W (d:Below w.heap.size w W)=>Q3I (jrn A (.slice o nj c) B) ⟨A,D,B⟩ W ⟨_,rfl,o,c,(by rw[ac]),(h1.kept d (Kaq _)).le d.size⟩ ⟨_,_,_,rfl,fun n9 c9 e9=>by injection e9 with e1 e2 e3;rw[<-e3];exact aA e1⟩ aC);have ax:=Q02 (fun W (d:Below w.heap.size w W)=>Q8Y ot nt ct lt W ai ((h4.kept d (Kaq _)).le d.size) f7);have aw:=Q02 (fun W (d:Below w.heap.size w W)=>Q44 A B o c D W ((h1.kept d (Kaq _)).le d.size) aA aC);rw[<-ac]at aw
 have ag:=Q02 (fun W (d:Below w.heap.size w W) v (h:Q4P W.heap.size W v (Q0x ⟨A,D,B⟩))=>Q6N v (plv V (.slice ob np cb) (.slice oR nr cR)) (Q0x ⟨A,D,B⟩) ⟨V,lb,lr⟩ W h ((h2.kept d (Kaq _)).le d.size) (Q3u _) f2);have C:=Q02 (show Q1J ⟨⟨A,D,B⟩,⟨V,lb,lr⟩,lt⟩=(Q0f A D B && (Q6M lt && Q1I (Q0x ⟨A,D,B⟩) ⟨V,lb,lr⟩))from rfl);have ab:=Q02 (show Q6M lt=true->Q0e lt=true from fun h=>by unfold Q6M at h;cases ht:Q0e lt <;> simp_all);have aO:=Q02 ac;have a4:=Q02 ai;clear h1 h2 h4 f2 ac ai
 obtain⟨W0,O⟩:∃W,((w.alloc (.cells #[.int .i64 A,.slice o nj c,.int .i64 B,.int .i64 V,.slice ob np cb,.slice oR nr cR,.slice ot nt ct] 34)).alloc (.cells #[.slice none 0 0,.int .i64 0,.slice none 0 0,.int .i64 0,.int .i64 0,.slice none 0 0,.slice none 0 0] 93))=W:=⟨_,rfl⟩;have Y:=alb0v0v2 O;have m:=Q02 Y;clear Y;have j:=alz0v0v2 O;obtain⟨R,T,U,z3,z4,z5,z6⟩:=alc7v0v2 O;have i:=alz0v1v2 O;obtain⟨G,H,I,J,L,M,N⟩:=alc7v1v2 O;obtain⟨q,r,s,t,u,y,z⟩:=alf7v1v2 O;have bb:=i;have ba:w.heap.size<=W0.heap.size:=m.out.size
 go_enter Tryz.func37,Tryz.ntmps37;go_wp2_with fail;refine(ay.out W0 m.out).mono ?_;rintro e v1 ⟨vp,rfl,aL,d⟩;have k:=Q02 aL;clear aL;replace R:=bC d R j;replace T:=bC d T j;replace U:=bC d U j;replace z3:=bC d z3 j;replace z4:=bC d z4 j;replace z5:=bC d z5 j;replace z6:=bC d z6 j;replace j:=Kbq j d.size;replace G:=bC d G i;replace H:=bC d H i;replace I:=bC d I i;replace J:=bC d J i;replace L:=bC d L i;replace M:=bC d M i;replace N:=bC d N i;replace q:=bF d q i;replace r:=bF d r i;replace s:=bF d s i
 replace t:=bF d t i;replace u:=bF d u i;replace y:=bF d y i;replace z:=bF d z i;replace i:=Kbq i d.size;replace m:=Q02 (m.out.trans (d.mono m.out.size));clear d;dsimp only at k ⊢;obtain⟨pm,ak⟩:∃p,Q0x ⟨A,D,B⟩=p:=⟨_,rfl⟩;rw[ak]at k ag C;have aS:=Q02 ak;clear ak ay;obtain⟨po,pc,qo,qc,aK⟩:=k.out.opn;obtain⟨pk,aj⟩:∃x,pm.key=x:=⟨_,rfl⟩;obtain⟨pn,aF⟩:∃x,pm.l.length=x:=⟨_,rfl⟩;obtain⟨qn,aH⟩:∃x,pm.ring.length=x:=⟨_,rfl⟩;rw[aj,aF,aH]at aK;subst aK;have aR:=Q02 aj;clear aj aF aH
 have a6:W0.heap.size<=v1.heap.size:=by have:=k.out;obtain⟨_,_,bc,_,k1,k2,_⟩:=this;omega
 obtain⟨W2,X⟩:∃W,(v1.alloc (.cells #[.int .i64 pk,.slice po pn pc,.slice qo qn qc] 29))=W:=⟨_,rfl⟩;have f:=alb0v0v1 X;replace R:=bC f R j;replace T:=bC f T j;replace U:=bC f U j;replace z3:=bC f z3 j;replace z4:=bC f z4 j;replace z5:=bC f z5 j;replace z6:=bC f z6 j;replace j:=Kbq j f.size;replace G:=bC f G i;replace H:=bC f H i;replace I:=bC f I i;replace J:=bC f J i;replace L:=bC f L i;replace M:=bC f M i;replace N:=bC f N i;replace q:=bF f q i;replace r:=bF f r i
 replace s:=bF f s i;replace t:=bF f t i;replace u:=bF f u i;replace y:=bF f y i;replace z:=bF f z i;replace i:=Kbq i f.size;replace m:=Q02 (m.out.trans (f.mono m.out.size));clear f;have E:=alz0v0v1 X;obtain⟨p0,p1,p2⟩:=alc3v0v1 X;replace k:=Q02 (k.out.step (Stp.of (lo:=0) (hi:=0) (show Below v1.heap.size v1 W2 by rw[<-X];exact KBq.alloc (Kaq _) _)) (.inl (Kcq _)))
 have a7:v1.heap.size<=W2.heap.size:=by rw[<-X];simp
 go_wp2_with fail;refine(ax.out W2 m.out).mono ?_;rintro e F ⟨ho,hn,hc,rfl,af,d⟩;have aP:=Q02 af;clear af ax;replace k:=Q02 (k.out.step (Stp.of (lo:=0) (hi:=0) d) (.inl (Kcq _)));have a8:W2.heap.size<=F.heap.size:=d.size;replace R:=bC d R j;replace T:=bC d T j;replace U:=bC d U j;replace z3:=bC d z3 j;replace z4:=bC d z4 j;replace z5:=bC d z5 j;replace z6:=bC d z6 j;replace j:=Kbq j d.size;replace G:=bC d G i;replace H:=bC d H i;replace I:=bC d I i;replace J:=bC d J i;replace L:=bC d L i;replace M:=bC d M i
 replace N:=bC d N i;replace q:=bF d q i;replace r:=bF d r i;replace s:=bF d s i;replace t:=bF d t i;replace u:=bF d u i;replace y:=bF d y i;replace z:=bF d z i;replace i:=Kbq i d.size;replace p0:=bC d p0 E;replace p1:=bC d p1 E;replace p2:=bC d p2 E;replace E:=Kbq E d.size;replace m:=Q02 (m.out.trans (d.mono m.out.size));clear d;obtain⟨kb,ah⟩:∃b,Q0f A D B=b:=⟨_,rfl⟩;obtain⟨tb,al⟩:∃b,Q6M lt=b:=⟨_,rfl⟩;rw[ah,al]at C;rw[al]at ab ⊢;rw[ah];clear ah al
 obtain⟨W4,P⟩:∃W,(F.alloc (.cells #[.slice ho hn hc] 91))=W:=⟨_,rfl⟩;have a:=alb0v0v1 P;replace R:=bC a R j;replace T:=bC a T j;replace U:=bC a U j;replace z3:=bC a z3 j;replace z4:=bC a z4 j;replace z5:=bC a z5 j;replace z6:=bC a z6 j;replace j:=Kbq j a.size;replace G:=bC a G i;replace H:=bC a H i;replace I:=bC a I i;replace J:=bC a J i;replace L:=bC a L i;replace M:=bC a M i;replace N:=bC a N i;replace q:=bF a q i;replace r:=bF a r i;replace s:=bF a s i
 replace t:=bF a t i;replace u:=bF a u i;replace y:=bF a y i;replace z:=bF a z i;replace i:=Kbq i a.size;replace p0:=bC a p0 E;replace p1:=bC a p1 E;replace p2:=bC a p2 E;replace E:=Kbq E a.size;replace m:=Q02 (m.out.trans (a.mono m.out.size));clear a;have zt:=alz0v0v1 P
 have t0:W4.cell? ⟨F.heap.size,0,none⟩=some (.slice ho hn hc):=by rw[<-P];simp[go_sem]
 replace k:=Q02 (k.out.step (Stp.of (lo:=0) (hi:=0) (show Below F.heap.size F W4 by rw[<-P];exact KBq.alloc (Kaq _) _)) (.inl (Kcq _)))
 have aI:F.heap.size<=W4.heap.size:=by rw[<-P];simp
 have aB:Below F.heap.size F W4:=(show Below F.heap.size F W4 by rw[<-P];exact KBq.alloc (Kaq _) _)
 cases kb with
 |false=>
  go_wp2;refine bodyPost_ret (v:=.tuple #[QcF (.slice none 0 0) 0 (.slice none 0 0) 0 0 (.slice none 0 0) (.slice none 0 0),.bool false]) (by simp[results,Tryz.results37,go_sem,G,H,I,J,L,M,N]) rfl ⟨none,0,0,0,none,0,0,0,0,none,0,0,none,0,0,by rw[C.out];rfl,fun h9=>(by rw[C.out]at h9;cases h9),Q0r m.out (Nat.le_succ _) _ _ _ _ _ _ _⟩
 |true=>
  cases tb with
  |false=>
   go_wp2;refine bodyPost_ret (v:=.tuple #[QcF (.slice none 0 0) 0 (.slice none 0 0) 0 0 (.slice none 0 0) (.slice none 0 0),.bool false]) (by simp[results,Tryz.results37,go_sem,G,H,I,J,L,M,N]) rfl ⟨none,0,0,0,none,0,0,0,0,none,0,0,none,0,0,by rw[C.out];rfl,fun h9=>(by rw[C.out]at h9;cases h9),Q0r m.out (Nat.le_succ _) _ _ _ _ _ _ _⟩
  |true=>
   have az:=Q02 (ag.out W4 m.out _ (k.out.rd.le (by omega)));clear ag;obtain⟨sb,aJ⟩:∃b,Q1I pm ⟨V,lb,lr⟩=b:=⟨_,rfl⟩;rw[aJ]at az C;clear aJ;go_wp2_with fail;refine(az.out).mono ?_;rintro e v3 ⟨rfl,d⟩;replace k:=Q02 (k.out.step (Stp.of (lo:=0) (hi:=0) d) (.inl (Kcq _)));have aV:W4.heap.size<=v3.heap.size:=d.size;have ad:Below F.heap.size F v3:=aB.trans (d.mono aI);replace R:=bC d R j;replace T:=bC d T j;replace U:=bC d U j;replace z3:=bC d z3 j;replace z4:=bC d z4 j;replace z5:=bC d z5 j;replace z6:=bC d z6 j;replace j:=Kbq j d.size
   replace G:=bC d G i;replace H:=bC d H i;replace I:=bC d I i;replace J:=bC d J i;replace L:=bC d L i;replace M:=bC d M i;replace N:=bC d N i;replace q:=bF d q i;replace r:=bF d r i;replace s:=bF d s i;replace t:=bF d t i;replace u:=bF d u i;replace y:=bF d y i;replace z:=bF d z i;replace i:=Kbq i d.size;replace p0:=bC d p0 E;replace p1:=bC d p1 E;replace p2:=bC d p2 E;replace E:=Kbq E d.size;replace t0:=bC d t0 zt;replace zt:=Kbq zt d.size;replace m:=Q02 (m.out.trans (d.mono m.out.size));clear d
   cases sb with
   |false=>
    go_wp2;refine bodyPost_ret (v:=.tuple #[QcF (.slice none 0 0) 0 (.slice none 0 0) 0 0 (.slice none 0 0) (.slice none 0 0),.bool false]) (by simp[results,Tryz.results37,go_sem,G,H,I,J,L,M,N]) rfl ⟨none,0,0,0,none,0,0,0,0,none,0,0,none,0,0,by rw[C.out];rfl,fun h9=>(by rw[C.out]at h9;cases h9),Q0r m.out (Nat.le_succ _) _ _ _ _ _ _ _⟩
   |true=>
    have Z:w.heap.size≠w.heap.size+1:=by omega
    have aa:v1.heap.size≠w.heap.size+1:=by omega
    have aE:F.heap.size≠w.heap.size+1:=by omega
    go_wp2
    go_region_held3 (fun w'=>w'.cell? ⟨F.heap.size,0,none⟩=some (.slice ho hn hc)/\w'.cell? ⟨w.heap.size,0,none⟩=some (.int .i64 A)/\w'.cell? ⟨w.heap.size,1,none⟩=some (.slice o nj c)/\w'.cell? ⟨w.heap.size,2,none⟩=some (.int .i64 B)/\w'.cell? ⟨v1.heap.size,0,none⟩=some (.int .i64 pk)/\w'.cell? ⟨v1.heap.size,1,none⟩=some (.slice po pn pc)/\w'.cell? ⟨v1.heap.size,2,none⟩=some (.slice qo qn qc)) (first|with_reducible exact⟨t0,R,T,U,p0,p1,p2⟩|with_reducible exact⟨ap,aq,ar,au,am,an,ao⟩|with_reducible exact aD _ _ _ _ _ _ _|go_keep) (first|(go_at_call 87;(with_reducible refine(aw.out v3.drew (KHq m.out)).mono ?_);rintro e v4 ⟨o2,c2,rfl,aM,aG⟩;have n:Below v3.heap.size v3 v4:=(KHq KBq).trans aG;have ap:=bC n t0 zt;have aq:=bC n R j;have ar:=bC n T j;have au:=bC n U j;have am:=bC n p0 E;have an:=bC n p1 E;have ao:=bC n p2 E;have aX:=bC n G i;have bd:=bF n q i;have aY:=bC n H i;have be:=bF n r i;have aZ:=bC n I i;have bf:=bF n s i;have a0:=bC n J i;have bg:=bF n t i;have a1:=bC n L i;have bh:=bF n u i;have a2:=bC n M i;have bi:=bF n y i;have a3:=bC n N i;have bj:=bF n z i;have aD:=(fun x0 x1 x2 x3 x4 x5 x6=>And.intro (Q1a ap aE x0 x1 x2 x3 x4 x5 x6) (And.intro (Q1a aq Z x0 x1 x2 x3 x4 x5 x6) (And.intro (Q1a ar Z x0 x1 x2 x3 x4 x5 x6) (And.intro (Q1a au Z x0 x1 x2 x3 x4 x5 x6) (And.intro (Q1a am aa x0 x1 x2 x3 x4 x5 x6) (And.intro (Q1a an aa x0 x1 x2 x3 x4 x5 x6) (Q1a ao aa x0 x1 x2 x3 x4 x5 x6)))))));have av:=m.out.trans (n.mono m.out.size)))
    have a9:v3.heap.size<=v4.heap.size:=n.size;have ae:Below F.heap.size F v4:=ad.trans (n.mono (Kdq aI aV));replace k:=Q02 (k.out.step (Stp.of (lo:=0) (hi:=0) n) (.inl (Kcq _)));replace m:=Q02 av;have aQ:=Q02 aM;have a5:v3.drew.heap.size=v3.heap.size:=rfl
    have aN:Hid (QiF w.heap.size (Q1Q v4 (w.heap.size+1) (.slice ho hn hc) (.int .i64 A) (.slice o2 nj c2) (.int .i64 B) (.int .i64 pk) (.slice po pn pc) (.slice qo qn qc)).heap.size (Q1Q v4 (w.heap.size+1) (.slice ho hn hc) (.int .i64 A) (.slice o2 nj c2) (.int .i64 B) (.int .i64 pk) (.slice po pn pc) (.slice qo qn qc)) (QcF (.slice ho hn hc) A (.slice o2 nj c2) B pk (.slice po pn pc) (.slice qo qn qc)) ⟨A,D,B⟩ pm lt):=by
     have s9:=Q0U v4 (w.heap.size+1) (.slice ho hn hc) (.int .i64 A) (.slice o2 nj c2) (.int .i64 B) (.int .i64 pk) (.slice po pn pc) (.slice qo qn qc);have e9:pm.key=pk:=aR.out;obtain⟨g,hg,aU,aT,aW⟩:=aP.out (by first|exact ab.out rfl|exact ab.out trivial|simpa using ab.out);subst hg aU aT;refine⟨_,_,_,_,W2.heap.size,F.heap.size,by rw[e9],by omega,by omega,by rw[Q0y];omega, ?_, ?_, ?_⟩
     ·rw[e9]
      exact Qa6 (k.out.step s9 (.inl (by omega))) (by omega) (by omega)
     ·exact InRow.step ((InRow.of aW).step (Stp.of (lo:=0) (hi:=0) ae) (.inl (Kcq _))) s9 (.inl (by omega))
     ·refine⟨_,rfl, ?_⟩
      have j9:=InRow.step (InRow.of aQ.out) s9 (.inl (by omega));rw[aO.out]at j9 ⊢;exact InRow.mono j9 (by omega) (by rw[Q0y];exact Kaq _)
    clear aD n aG av aM ad ae t0 ap R aq T ar U au p0 am p1 an p2 ao G q H r I s J t L u M y N z;go_wp2;refine bodyPost_ret (v:=.tuple #[QcF (.slice ho hn hc) A (.slice o2 nj c2) B pk (.slice po pn pc) (.slice qo qn qc),.bool true]) (by simp[results,Tryz.results37,go_sem,aX,aY,aZ,a0,a1,a2,a3]) rfl ⟨ho,hn,hc,A,o2,nj,c2,B,pk,po,pn,pc,qo,qn,qc,by rw[C.out];rfl,fun _=>(by rw[aS.out];exact aN.out),Q0r m.out (Nat.le_succ _) _ _ _ _ _ _ _⟩
theorem Q6u (aa bb:List (List Int)):∀k,Q0R aa bb k=Q0R bb aa k
 |0=>rfl
 |k+1=>by
  unfold Q0R;rw[Q6u aa bb k]
  by_cases h:aa.getD k []=bb.getD k []
  ·rw[if_pos h,if_pos h.symm]
  ·rw[if_neg h,if_neg (fun e=>h e.symm)]
theorem QbT (aa bb:List (List Int)):Q10 aa bb=Q10 bb aa:=by
 unfold Q10
 by_cases h:aa.length=8/\bb.length=8
 ·rw[if_pos h,if_pos h.symm,Q6u]
 ·rw[if_neg h,if_neg (fun e=>h e.symm)]
theorem Q9v (R1 R2:List (List (List Int))):Q1d R1 R2=Q1d R2 R1:=by
 unfold Q1d
 by_cases h:R1.length=R2.length
 ·rw[h]
  congr 1
  congr 1
  funext i
  rw[QbT]
 ·rw[decide_eq_false h,decide_eq_false (fun e=>h e.symm)];rfl
theorem Qbk (a b:Pm):Q1I a b=Q1I b a:=by
 unfold Q1I;rw[Q9v,show decide (a.key=b.key)=decide (b.key=a.key)from decide_eq_decide.2 ⟨Eq.symm,Eq.symm⟩,show decide (a.l=b.l)=decide (b.l=a.l)from decide_eq_decide.2 ⟨Eq.symm,Eq.symm⟩]
def isL (s:Sl):Bool:=decide (s.v < 6)
theorem Qfv {s:Sl} (h:Q29 s=true):0<=s.v:=by
 unfold Q29 at h
 split at h
 ·simp only[Bool.and_eq_true,decide_eq_true_eq]at h;exact h.1.1.1.2
 ·simp only[Bool.and_eq_true,decide_eq_true_eq]at h;omega
theorem QhF {l:List Sl} (h:Q0e l=true):l.all isV=l.all isL:=by
 have c:=(Q0d.1 h).2.2
 have hs:∀s∈l,isV s=isL s:=fun s hs=>by
  obtain⟨i,hi,rfl⟩:=List.getElem_of_mem hs;have a:=c i hi;unfold Q3M at a;rw[Bool.and_eq_true]at a;have b:=Qfv a.1
  have e:l.getD i sl0=l[i]:=by simp[hi]
  rw[e]at b;unfold isV isL;rw[decide_eq_true b];rfl
 rw[Bool.eq_iff_iff,List.all_eq_true,List.all_eq_true];exact⟨fun q s m=>(hs s m) ▸ q s m,fun q s m=>(hs s m).symm ▸ q s m⟩
theorem QaB (m:Bm):Q1J m=(Q0f m.j.key m.j.l m.j.safe && (Q0e m.t && (Q1I m.p (Q0x m.j) && m.t.all isL))):=by
 unfold Q1J Q6M;rw[Qbk]
 cases ht:Q0e m.t with
 |false=>simp
 |true=>rw[QhF ht];cases m.t.all isL <;> simp
theorem Qeo (l:List Sl) (k:Nat) (h:k < l.length):(l.take (k+1)).all isL=((l.take k).all isL && isL (l.getD k sl0)):=by
 rw[List.take_succ_eq_append_getElem h,List.all_append];simp[h]
theorem Qhk {l:List Sl} {k:Nat} (h:k < l.length) (hv:isL (l.getD k sl0)=false):l.all isL=false:=by
 rw[Bool.eq_false_iff];intro a;rw[List.all_eq_true]at a;have:=a (l.getD k sl0) (by simp[h]);rw[hv]at this;cases this
theorem Qbc (key safe:Int) (o:Option Addr) (n cap:Nat) (cs:List Cd) (w:World) (j:n=cs.length) (g:RdC w.heap.size w o cs) (h:Q0f key cs safe=true):
  Calls Tryz.prog 43 #[.int .i64 key,.slice o n cap] w fun e a=> ∃v,e=.returned v/\Q4P a.heap.size a v (Q0x ⟨key,cs,safe⟩)/\Below w.heap.size w a:=by
 subst j;have f:=h;unfold Q0f at h;simp only[Bool.and_eq_true,decide_eq_true_eq]at h;refine(Q4f key o cap cs w g h.1.1.1.1 h.1.1.1.2 h.2).mono ?_;rintro e a ⟨q,m,r,p,hs,rfl,b,c,l,k,i⟩;refine⟨_,rfl, ?_,i⟩;have d:Q0x ⟨key,cs,safe⟩=⟨key,Q0i cs cs.length,Q17 key (Q1f cs cs.length)⟩:=if_pos f;rw[d];exact(GTabs.pm (lo:=0) b c (Qfa l)).rd
theorem Q9p (k:Int) (o:Option Addr) (t c:Nat) (m h:Int) (z:Option Addr) (u s:Nat) (y:Option Addr) (v r:Nat) (A:Option Addr) (x J:Nat) (l:List Cd) (lb:List Bk) (q:List (List (List Int))) (lt:List Sl) (w:World)
  (n:t=l.length) (p:x=lt.length) (N:RdC w.heap.size w o l) (L:o=none->c=0) (h2:Q4P w.heap.size w (plv h (.slice z u s) (.slice y v r)) ⟨h,lb,q⟩) (O:RdS w.heap.size w A lt) (R:Q6e ⟨⟨k,l,m⟩,⟨h,lb,q⟩,lt⟩):
  Calls Tryz.prog 24 #[Q0O k (.slice o t c) m h (.slice z u s) (.slice y v r) (.slice A x J)] w fun e w'=>e=.returned (.bool (Q1J ⟨⟨k,l,m⟩,⟨h,lb,q⟩,lt⟩))/\Below w.heap.size w w':=by
 have I:=Q02 (fun W (d:Below w.heap.size w W)=>Q2G k o t c m h z u s y v r A x J l lb q lt W n p ((N.kept d (Kaq _)).le d.size) L ((h2.kept d (Kaq _)).le d.size) ((O.kept d (Kaq _)).le d.size) R);clear N h2 O n p;generalize Q1J ⟨⟨k,l,m⟩,⟨h,lb,q⟩,lt⟩=bb at *;obtain⟨P,i⟩:∃W,(w.alloc (.cells #[.int .i64 k,.slice o t c,.int .i64 m,.int .i64 h,.slice z u s,.slice y v r,.slice A x J] 34))=W:=⟨_,rfl⟩;have f:=alb0v0v1 i;have g:=Q02 f;clear f;have b:=alz0v0v1 i;obtain⟨B,C,D,E,F,G,H⟩:=alc7v0v1 i
 go_enter Tryz.func24,Tryz.ntmps24;go_wp2_with fail;refine(I.out P g.out).mono ?_;rintro e v1 ⟨xo,xn,xc,T,yo,yn,yc,V,U,Z,Y,X,vo,vn,vc,rfl,M,d⟩;clear M;replace B:=bC d B b;replace C:=bC d C b;replace D:=bC d D b;replace E:=bC d E b;replace F:=bC d F b;replace G:=bC d G b;replace H:=bC d H b;replace b:=Kbq b d.size;replace g:=Q02 (g.out.trans (d.mono g.out.size));clear d;obtain⟨W2,j⟩:∃W,(v1.alloc (.cells #[.slice xo xn xc,.int .i64 T,.slice yo yn yc,.int .i64 V,.int .i64 U,.slice Z Y X,.slice vo vn vc] 93))=W:=⟨_,rfl⟩
 have a:=alb0v0v1 j;replace B:=bC a B b;replace C:=bC a C b;replace D:=bC a D b;replace E:=bC a E b;replace F:=bC a F b;replace G:=bC a G b;replace H:=bC a H b;replace b:=Kbq b a.size;replace g:=Q02 (g.out.trans (a.mono g.out.size));clear a;have zx:=alz0v0v1 j;obtain⟨x0,x1,x2,x3,x4,x5,x6⟩:=alc7v0v1 j;go_wp2;go_ret;exact⟨rfl,g.out⟩
theorem Q9h (y:Int) (o:Option Addr) (nj c:Nat) (z C:Int) (ob:Option Addr) (np cb:Nat) (oR:Option Addr) (nr cR:Nat) (ot:Option Addr) (nt ct:Nat) (A:List Cd) (lb:List Bk) (lr:List (List (List Int))) (lt:List Sl) (w:World)
  (aE:nj=A.length) (aF:nt=lt.length) (h1:RdC w.heap.size w o A) (a9:o=none->c=0) (h2:Q4P w.heap.size w (plv C (.slice ob np cb) (.slice oR nr cR)) ⟨C,lb,lr⟩) (h4:RdS w.heap.size w ot lt) (hf:Q6e ⟨⟨y,A,z⟩,⟨C,lb,lr⟩,lt⟩):
  Calls Tryz.prog 9 #[Q0O y (.slice o nj c) z C (.slice ob np cb) (.slice oR nr cR) (.slice ot nt ct)] w fun e w'=>e=.returned (.bool (Q1J ⟨⟨y,A,z⟩,⟨C,lb,lr⟩,lt⟩))/\Below w.heap.size w w':=by
 obtain⟨f1,f2,f7⟩:=hf;dsimp only at f1 f2 f7
 have a5:A.length<=1048576:=by omega
 have HJ:=Q02 (fun W (O:Below w.heap.size w W)=>Q5U y z o c A W ((h1.kept O (Kaq _)).le O.size) a5);have HT:=Q02 (fun W (O:Below w.heap.size w W)=>Q7I ot ct lt W ((h4.kept O (Kaq _)).le O.size) f7);rw[<-aE]at HJ;rw[<-aF]at HT;have n:=Q02 (fun (hj:Q0f y A z=true) W (O:Below w.heap.size w W)=>Qbc y z o nj c A W aE ((h1.kept O (Kaq _)).le O.size) hj);have B:=Q02 (fun W (O:Below w.heap.size w W) v (h:Q4P W.heap.size W v (Q0x ⟨y,A,z⟩))=>Qd1 (plv C (.slice ob np cb) (.slice oR nr cR)) v ⟨C,lb,lr⟩ (Q0x ⟨y,A,z⟩) W ((h2.kept O (Kaq _)).le O.size) h f2 (Q3u _))
 have t:=Q02 (QaB ⟨⟨y,A,z⟩,⟨C,lb,lr⟩,lt⟩);dsimp only at t;have aQ:=Q02 h4;have aP:=Q02 aF;clear h1 h2 h4 f2 aE aF;generalize Q1I ⟨C,lb,lr⟩ (Q0x ⟨y,A,z⟩)=sb at *;obtain⟨rp,aV⟩:∃r,Q0x ⟨y,A,z⟩=r:=⟨_,rfl⟩;rw[aV]at n B;clear aV;obtain⟨m,aC⟩:∃W,(w.alloc (.cells #[.int .i64 y,.slice o nj c,.int .i64 z,.int .i64 C,.slice ob np cb,.slice oR nr cR,.slice ot nt ct] 34))=W:=⟨_,rfl⟩;have P:=alb0v0v1 aC;have j:=Q02 P;clear P;have a:=alz0v0v1 aC;obtain⟨D,E,F,G,H,I,J⟩:=alc7v0v1 aC;have u:=j.out.size;obtain⟨jb,aS⟩:∃b,Q0f y A z=b:=⟨_,rfl⟩
 rw[aS]at HJ t n;clear aS
 cases jb with
 |false=>
  have aB:=Q02 (fun p:Grown m=>HJ.out p.v (j.out.trans (p.b.mono j.out.size)));have G0:=Grown.cell D a;have G1:=Grown.cell E a;have G2:=Grown.cell F a;have G3:=Grown.cell G a;have G4:=Grown.cell H a;have G5:=Grown.cell I a;have G6:=Grown.cell J a;clear HJ HT n B;go_enter Tryz.func9,Tryz.ntmps9;go_wp2
  (refine Q09 (by kernel_rfl) (by kernel_rfl) ?_;intro aU;(repeat (go_big_quiet_step ((go_at_call 40;exact Q1w _ (aB.out _)))));(with_reducible refine wpQuiet_nil ?_);intro _ aI;obtain⟨pq,aH⟩:=aI;subst aH)
  have q:=Q02 (j.out.trans (pq.b.mono j.out.size));go_wp2;go_ret;exact⟨Q08 (by rw[t.out];rfl),q.out⟩
 |true=>
  replace n:=Q02 (n.out (by first|rfl|trivial));obtain⟨tb,aG⟩:∃b,Q0e lt=b:=⟨_,rfl⟩;rw[aG]at HT t;have aZ:=Q02 aG;clear aG
  cases tb with
  |false=>
   have aB:=Q02 (fun p:Grown m=>HJ.out p.v (j.out.trans (p.b.mono j.out.size)));have a1:=Q02 (fun p:Grown m=>HT.out p.v (j.out.trans (p.b.mono j.out.size)));have G0:=Grown.cell D a;have G1:=Grown.cell E a;have G2:=Grown.cell F a;have G3:=Grown.cell G a;have G4:=Grown.cell H a;have G5:=Grown.cell I a;have G6:=Grown.cell J a;clear HJ HT n B;go_enter Tryz.func9,Tryz.ntmps9;go_wp2
   (refine Q09 (by kernel_rfl) (by kernel_rfl) ?_;intro aU;(repeat (go_big_quiet_step ((first|(go_at_call 40;exact Q1w _ (aB.out _))|(go_at_call 41;exact Q1w _ (a1.out _))))));(with_reducible refine wpQuiet_nil ?_);intro _ aI;obtain⟨pq,aH⟩:=aI;subst aH)
   have q:=Q02 (j.out.trans (pq.b.mono j.out.size));go_wp2;go_ret;exact⟨Q08 (by rw[t.out];rfl),q.out⟩
  |true=>
   cases sb with
   |false=>
    go_enter Tryz.func9,Tryz.ntmps9;go_wp2
    go_region_held3 (fun w'=>w'.cell? ⟨w.heap.size,0,none⟩=some (.int .i64 y)/\w'.cell? ⟨w.heap.size,1,none⟩=some (.slice o nj c)/\w'.cell? ⟨w.heap.size,2,none⟩=some (.int .i64 z)/\w'.cell? ⟨w.heap.size,3,none⟩=some (.int .i64 C)/\w'.cell? ⟨w.heap.size,4,none⟩=some (.slice ob np cb)/\w'.cell? ⟨w.heap.size,5,none⟩=some (.slice oR nr cR)/\w'.cell? ⟨w.heap.size,6,none⟩=some (.slice ot nt ct)) (first|with_reducible exact⟨D,E,F,G,H,I,J⟩|with_reducible exact⟨Y,Z,aa,ab,ac,ad,ae⟩|with_reducible exact⟨af,ag,ah,ai,aj,ak,al⟩|with_reducible exact⟨am,an,ao,ap,aq,ar,au⟩|with_reducible exact⟨aJ,aK,aL,aM,aN,aO,ax⟩|go_keep) (first|(go_at_call 40;(with_reducible refine(HJ.out m.drew (KHq j.out)).mono ?_);rintro e x0 ⟨rfl,T⟩;have d:Below m.heap.size m x0:=(KHq KBq).trans T;have Y:=bC d D a;have Z:=bC d E a;have aa:=bC d F a;have ab:=bC d G a;have ac:=bC d H a;have ad:=bC d I a;have ae:=bC d J a;have L:=j.out.trans (d.mono u);clear T)|(go_at_call 41;(with_reducible refine(HT.out x0 L).mono ?_);rintro e x1 ⟨rfl,U⟩;have f:Below m.heap.size m x1:=d.trans (U.mono d.size);have af:=bC f D a;have ag:=bC f E a;have ah:=bC f F a;have ai:=bC f G a;have aj:=bC f H a;have ak:=bC f I a;have al:=bC f J a;have M:=j.out.trans (f.mono u))|(go_at_call 43;(with_reducible refine(n.out x1 M).mono ?_);rintro e x2 ⟨v8,rfl,av,V⟩;have g:Below m.heap.size m x2:=f.trans (V.mono f.size);have am:=bC g D a;have an:=bC g E a;have ao:=bC g F a;have ap:=bC g G a;have aq:=bC g H a;have ar:=bC g I a;have au:=bC g J a;have N:=j.out.trans (g.mono u))|(go_at_call 42;(with_reducible refine(B.out x2 N v8 av).mono ?_);rintro e x3 ⟨rfl,X⟩;have i:Below m.heap.size m x3:=g.trans (X.mono g.size);have aJ:=bC i D a;have aK:=bC i E a;have aL:=bC i F a;have aM:=bC i G a;have aN:=bC i H a;have aO:=bC i I a;have ax:=bC i J a;have aw:=j.out.trans (i.mono u)))
    have q:=Q02 aw;clear d f g i U V X av L M N Y af am Z ag an aa ah ao ab ai ap ac aj aq ad ak ar ae al au;go_wp2;go_ret;exact⟨Q08 (by rw[t.out];rfl),q.out⟩
   |true=>
    have aT:lt≠[]:=by intro h;subst h;exact absurd aZ.out (by decide)
    rcases aQ.out with h|⟨bt,ft,rfl,a4,R⟩
    ·exact absurd h aT
    have aX:=Q02 R;clear R aT aQ;go_enter Tryz.func9,Tryz.ntmps9;go_wp2
    go_region_held3 (fun w'=>w'.cell? ⟨w.heap.size,0,none⟩=some (.int .i64 y)/\w'.cell? ⟨w.heap.size,1,none⟩=some (.slice o nj c)/\w'.cell? ⟨w.heap.size,2,none⟩=some (.int .i64 z)/\w'.cell? ⟨w.heap.size,3,none⟩=some (.int .i64 C)/\w'.cell? ⟨w.heap.size,4,none⟩=some (.slice ob np cb)/\w'.cell? ⟨w.heap.size,5,none⟩=some (.slice oR nr cR)/\w'.cell? ⟨w.heap.size,6,none⟩=some (.slice (some ⟨bt,ft,none⟩) nt ct)) (first|with_reducible exact⟨D,E,F,G,H,I,J⟩|with_reducible exact⟨Y,Z,aa,ab,ac,ad,ae⟩|with_reducible exact⟨af,ag,ah,ai,aj,ak,al⟩|with_reducible exact⟨am,an,ao,ap,aq,ar,au⟩|with_reducible exact⟨aJ,aK,aL,aM,aN,aO,ax⟩|go_keep) (first|(go_at_call 40;(with_reducible refine(HJ.out m.drew (KHq j.out)).mono ?_);rintro e x0 ⟨rfl,T⟩;have d:Below m.heap.size m x0:=(KHq KBq).trans T;have Y:=bC d D a;have Z:=bC d E a;have aa:=bC d F a;have ab:=bC d G a;have ac:=bC d H a;have ad:=bC d I a;have ae:=bC d J a;have L:=j.out.trans (d.mono u);clear T)|(go_at_call 41;(with_reducible refine(HT.out x0 L).mono ?_);rintro e x1 ⟨rfl,U⟩;have f:Below m.heap.size m x1:=d.trans (U.mono d.size);have af:=bC f D a;have ag:=bC f E a;have ah:=bC f F a;have ai:=bC f G a;have aj:=bC f H a;have ak:=bC f I a;have al:=bC f J a;have M:=j.out.trans (f.mono u))|(go_at_call 43;(with_reducible refine(n.out x1 M).mono ?_);rintro e x2 ⟨v8,rfl,av,V⟩;have g:Below m.heap.size m x2:=f.trans (V.mono f.size);have am:=bC g D a;have an:=bC g E a;have ao:=bC g F a;have ap:=bC g G a;have aq:=bC g H a;have ar:=bC g I a;have au:=bC g J a;have N:=j.out.trans (g.mono u))|(go_at_call 42;(with_reducible refine(B.out x2 N v8 av).mono ?_);rintro e x3 ⟨rfl,X⟩;have i:Below m.heap.size m x3:=g.trans (X.mono g.size);have aJ:=bC i D a;have aK:=bC i E a;have aL:=bC i F a;have aM:=bC i G a;have aN:=bC i H a;have aO:=bC i I a;have ax:=bC i J a;have aw:=j.out.trans (i.mono u)))
    have q:=Q02 aw;have a6:=i.size;clear d f g i U V X av L M N Y af am Z ag an aa ah ao ab ai ap ac aj aq ad ak ar ae al au;clear aw HJ HT n B;go_wp2
    go_loopw [2,3] (fun rv iv wr=> ∃k:Nat,k<=nt/\iv=.int .i64 (k:Int)/\rv=.bool false/\Hid ((lt.take k).all isL=true)/\Hid (Below x3.heap.size x3 wr))
     (fun _ iv _=>nt - (intOf iv).toNat)
    case atStart=>exact⟨0,Kcq _,rfl,rfl,(by unfold Hid;rfl),KBq⟩
    case round=>
     rename World=>wr
     obtain⟨k,ba,rfl,rfl,aR,ay⟩:=hrel;have a7:w.heap.size < x3.heap.size:=Kbq a a6;have y6:=(ay.out.cell (p:=⟨w.heap.size,6,none⟩) a7).trans ax;have az:=Q02 (q.out.trans (ay.out.mono q.out.size))
     by_cases hlt:k < nt
     ·have a8:(k:Int) < (nt:Int):=by omega
      have aD:k < lt.length:=by rw[<-aP.out];exact hlt
      have a3:wr.cell? ⟨bt,ft+k * 5+3,none⟩=some (.int .i64 (lt.getD k sl0).v):=(az.out.cell (p:=⟨bt,ft+k * Q0g.k+3,none⟩) a4).trans (aX.out k aD 3 (by decide));have a0:=Q02 (Qeo lt k aD);have aY:=Q02 (fun h=>Qhk (l:=lt) aD h);generalize lt.getD k sl0=s at *;have aA:=Q02 (show isL s=decide (s.v < 6)from rfl);obtain⟨sv,aW⟩:∃x,s.v=x:=⟨_,rfl⟩;rw[aW]at a3 aA;clear aW
      by_cases h6:sv < 6
      ·have a2:¬(6<=sv):=by omega
       go_wp2;go_roundw
       case rel=>exact⟨k+1,by omega,by go_num,rfl,(by unfold Hid;rw[a0.out,aR.out,aA.out,decide_eq_true h6];rfl),ay.out⟩
       case measure=>simp[intOf];omega
      ·have a2:6<=sv:=by omega
       have HE:=Q02 (aY.out (by rw[aA.out];exact decide_eq_false h6));go_wp2;go_ret;exact⟨Q08 (by rw[t.out,HE.out];rfl),az.out⟩
     ·have e:k=nt:=by omega
      subst e
      have HE:Hid (lt.all isL=true):=by have h:=aR.out;rw[aP.out,List.take_length]at h;exact h
      go_wp2;go_ret;exact⟨Q08 (by rw[t.out,HE.out];rfl),az.out⟩
def Q2o (l:List Sl) (k:Nat):List (Int × Int):=((l.take k).filter (fun s=>s.u)).map (fun s=>(s.a,s.p))
theorem Q7R (l:List Sl) (k:Nat):(Q2o l k).length=Q6j l k:=by unfold Q2o Q6j;rw[List.length_map]
theorem Qap {l:List Sl} {k:Nat} (h:k < l.length) (a:(l.getD k sl0).u=false):Q2o l (k+1)=Q2o l k:=by
 unfold Q2o;rw[Q11 Q0g l k h,List.filter_append,show List.filter (fun s:Sl=>s.u) [l.getD k Q0g.d]=[]from List.filter_cons_of_neg (by rw[show l.getD k Q0g.d=l.getD k sl0 from rfl,a];decide),List.append_nil]
theorem Q9Z {l:List Sl} {k:Nat} (h:k < l.length) (b:(l.getD k sl0).u=true):Q2o l (k+1)=Q2o l k++[((l.getD k sl0).a,(l.getD k sl0).p)]:=by
 unfold Q2o;rw[Q11 Q0g l k h,List.filter_append,show List.filter (fun s:Sl=>s.u) [l.getD k Q0g.d]=[l.getD k sl0]from List.filter_cons_of_pos b,List.map_append];rfl
theorem Qfo (b off c:Nat) (l:List Sl) (w:World) (r:b < w.heap.size) (R:∀i,i < l.length->∀j,j < Q0g.k->w.cell? ⟨b,off+i * Q0g.k+j,none⟩=(Q0g.cs (l.getD i Q0g.d))[j]?) (hl:l.length<=1048576):
  Calls Tryz.prog 77 #[tab (.slice (some ⟨b,off,none⟩) l.length c)] w fun e T=> ∃v,e=.returned v/\ownL Qgh 36 T w.heap.size v (Q2o l l.length)/\Below w.heap.size w T:=by
 have V:=Q02 R;clear R;obtain⟨u,y⟩:∃W,(w.alloc (.cells #[.slice (some ⟨b,off,none⟩) l.length c] 89))=W:=⟨_,rfl⟩;have n:=alb0v0v1 y;have D:=Q02 n;clear n;have ab:=alz0v0v1 y
 have Y:u.cell? ⟨w.heap.size,0,none⟩=some (.slice (some ⟨b,off,none⟩) l.length c):=by rw[<-y];simp[go_sem]
 have X:=Q02 D.out.size;go_enter Tryz.func77,Tryz.ntmps77;go_wp2
 go_loopw [3,9] (fun ov iv wr=> ∃k:Nat,k<=l.length/\iv=.int .i64 k/\Hid (ownL Qgh 36 wr u.heap.size ov (Q2o l k))/\Hid (Below u.heap.size u wr))
  (fun _ iv _=>l.length - (intOf iv).toNat)
 case atStart=>exact⟨0,Kcq _,rfl,KLq _ _ _ _,KBq⟩
 case round=>
  obtain⟨k,hk,rfl,J,m⟩:=hrel
  by_cases hlt:k < l.length
  ·have g:=Q02 (D.out.trans (m.out.mono D.out.size))
   have a:=RdL.slot (C:=w.heap.size) V.out k hlt;obtain⟨s,z⟩:∃s,l.getD k sl0=s:=⟨_,rfl⟩;rw[z]at a;have Z:=(g.out.cell (p:=⟨b,off+k * 5,none⟩) r).trans a.1;have e1:=(g.out.cell (p:=⟨b,off+k * 5+1,none⟩) r).trans a.2.1;have e2:=(g.out.cell (p:=⟨b,off+k * 5+2,none⟩) r).trans a.2.2.1;have e3:=(g.out.cell (p:=⟨b,off+k * 5+3,none⟩) r).trans a.2.2.2.1;have e4:=(g.out.cell (p:=⟨b,off+k * 5+4,none⟩) r).trans a.2.2.2.2
   have aa:(k:Int) < (l.length:Int):=by omega
   have L:=Q02 z;have M:=Qde l k;rw[<-Q7R]at M;obtain⟨N,A,B,O,st⟩:=s;simp only at Z e1 e2 e3 e4;clear a z;have f:=Q02 (m.out.alloc m.out.size (.cells #[.bool N,.int .i64 A,.int .i64 B,.int .i64 O,.int .i64 st] 165));have x:=Q02 (World.ownsRow.alloc J.out (.cells #[.bool N,.int .i64 A,.int .i64 B,.int .i64 O,.int .i64 st] 165))
   cases N with
   |false=>
    have I:=Q02 (Qap hlt (by rw[L.out]));go_wp2;go_roundw
    case rel=>exact⟨k+1,hlt,by go_num,(by unfold Hid;rw[I.out];exact x.out),f⟩
    case measure=>simp[intOf];omega
   |true=>
    have I:=Q02 (Q9Z hlt (by rw[L.out]));rw[L.out]at I;obtain⟨E,t⟩:∃W,wr.alloc (.cells #[.bool true,.int .i64 A,.int .i64 B,.int .i64 O,.int .i64 st] 165)=W:=⟨_,rfl⟩;rw[t]at f x
    have g0:E.cell? ⟨wr.heap.size,0,none⟩=some (.bool true):=by rw[<-t];simp[go_sem]
    have g1:E.cell? ⟨wr.heap.size,1,none⟩=some (.int .i64 A):=by rw[<-t];simp[go_sem]
    have g2:E.cell? ⟨wr.heap.size,2,none⟩=some (.int .i64 B):=by rw[<-t];simp[go_sem]
    have F:=Q02 (World.ownsRow.alloc x.out (.cells #[.int .i64 A,.int .i64 B] 36));clear J m;go_wp2_with (at_builtin;refine Q07 Qjf rfl _ _ rfl u.heap.size _ (Q2o l k) rfl F.out (some ⟨E.heap.size,0,none⟩) 1 _ [(A,B)] 1 rfl rfl (fun h=>by cases h) (QgC E A B) ?e2 ?e3 ?_)
    case e2=>omega
    case e3=>exact Kdq f.out.size (by simp)
    intro v2 U H G _;have P:=Q02 (show ownL Qgh 36 U u.heap.size v2 (Q2o l (k+1))/\Below u.heap.size u U from⟨by rw[I.out];exact H,(f.out.alloc f.out.size _).grown G (Kdq f.out.size (by simp)) (fun q h=>(F.out.lt q h).1)⟩);clear H G F;go_wp2;go_roundw
    case rel=>exact⟨k+1,hlt,by go_num,P.out.1,P.out.2⟩
    case measure=>simp[intOf];omega
  ·have e:k=l.length:=by omega
   subst e;go_wp2;go_ret;exact⟨_,rfl,Q04 J.out X.out,D.out.trans (m.out.mono D.out.size)⟩
theorem Q77 (o:Option Addr) (c:Nat) (l:List Sl) (w:World) (C:RdS w.heap.size w o l) (y:l.length<=1048576):
  Calls Tryz.prog 33 #[tab (.slice o l.length c)] w fun e F=>e=.returned (.int .i64 (Q4X l))/\Below w.heap.size w F:=by
 obtain⟨x,k⟩:∃W,(w.alloc (.cells #[.slice o l.length c] 32))=W:=⟨_,rfl⟩;have i:=alb0v0v1 k;have d:=Q02 i;clear i;have a:=alz0v0v1 k
 have f:x.cell? ⟨w.heap.size,0,none⟩=some (.slice o l.length c):=by rw[<-k];simp[go_sem]
 have q:=Q9i o c l x ((C.kept d.out (Kaq _)).le d.out.size) y
 cases hT:Q0e l with
 |false=>
  have u:=Q02 (show -1=Q4X l by unfold Q4X;rw[hT];rfl);rw[hT]at q;go_enter Tryz.func33,Tryz.ntmps33;go_wp2_with fail;refine(q).mono ?_;rintro e r ⟨E,D,B,rfl,hv,h⟩;replace f:=bKq0v0v0 h f a;replace a:w.heap.size < r.heap.size:=Kbq a h.size;replace d:=Q02 (d.out.trans (h.mono d.out.size));clear h;clear q hv hT;go_wp2;go_ret;exact⟨Q0W u.out,d.out.alloc d.out.size _⟩
 |true=>
  have u:=Q02 (show((Qe1 l:Nat):Int)=Q4X l by unfold Q4X;rw[hT];rfl);rw[hT]at q;go_enter Tryz.func33,Tryz.ntmps33;go_wp2_with fail;refine(q).mono ?_;rintro e r ⟨E,D,B,rfl,hv,h⟩;obtain⟨g,rfl,rfl,rfl,j⟩:=hv (by simp);have p:=Q02 j;clear j hv;replace f:=bKq0v0v0 h f a;replace a:w.heap.size < r.heap.size:=Kbq a h.size;replace d:=Q02 (d.out.trans (h.mono d.out.size));clear h;obtain⟨v,m⟩:∃W,(r.alloc (.cells #[.slice (some ⟨g,0,none⟩) l.length l.length] 89))=W:=⟨_,rfl⟩;have b:=alb0v0v1 m;replace f:=bKq0v0v0 b f a
  replace a:w.heap.size < v.heap.size:=Kbq a b.size;replace p:=Q02 (Q03 p.out b);replace d:=Q02 (d.out.trans (b.mono d.out.size));clear b;have n:=alz0v0v1 m
  have s:v.cell? ⟨r.heap.size,0,none⟩=some (.slice (some ⟨g,0,none⟩) l.length l.length):=by rw[<-m];simp[go_sem]
  go_wp2_with fail;refine(Qfo g 0 l.length l v (p.out.lt g rfl).2 (Q1i p.out rfl) y).mono ?_;rintro e z ⟨I,rfl,t,h⟩;obtain⟨H,G,rfl,_⟩:=ownL.open (L:=Qgh) t;have A:=Q02 (Q7R l l.length);clear t;replace f:=bKq0v0v0 h f a;replace a:w.heap.size < z.heap.size:=Kbq a h.size;replace s:=bKq0v0v0 h s n;replace n:r.heap.size < z.heap.size:=Kbq n h.size;replace p:=Q02 (Q03 p.out h);replace d:=Q02 (d.out.trans (h.mono d.out.size));clear h;clear q hT;go_wp2;go_ret;exact⟨Q0W ((congrArg Nat.cast A.out).trans u.out),d.out⟩
def Q2j (q s:Sl):Sl:=if s.u=true/\(q.u=false\/s.t < q.t)then s else q
def Q4T (l:List Sl) (k:Nat):Sl:=(l.take k).foldl Q2j sl0
theorem Q7u {l:List Sl} {k:Nat} (h:k < l.length):Q4T l (k+1)=Q2j (Q4T l k) (l.getD k sl0):=by
 unfold Q4T;rw[Q11 Q0g l k h,List.foldl_append];rfl
theorem Q5k {q s:Sl} (h:s.u=false):Q2j q s=q:=by unfold Q2j;rw[if_neg (by rw[h];simp)]
theorem Q4Q {q s:Sl} (h:s.u=true) (hq:q.u=false):Q2j q s=s:=by unfold Q2j;rw[if_pos ⟨h,.inl hq⟩]
theorem Q5m {q s:Sl} (h:s.u=true) (hq:s.t < q.t):Q2j q s=s:=by unfold Q2j;rw[if_pos ⟨h,.inr hq⟩]
theorem Q5N {q s:Sl} (hq:q.u=true) (h:¬s.t < q.t):Q2j q s=q:=by
 unfold Q2j;rw[if_neg];rintro⟨_,h1|h1⟩
 ·rw[hq]at h1;cases h1
 ·exact h h1
def Q5u (l:List Sl):Sl:=Q4T l l.length
theorem Q4G (w:World) (k j:Nat) (cs:Array Value) (t:TypeId) (v:Value) (h:w.heap[k]? =some (.cells cs t (0,0))):(w.setCell ⟨k,j,none⟩ v).heap[k]? =some (.cells (cs.setIfInBounds j v) t (0,0)):=by
 simp[World.setCell,Array.getElem?_modify,h]
theorem Q26 {W:World} {B:Nat} {c:Array Value} {t:TypeId} (h:W.heap[B]? =some (.cells c t (0,0))) (j:Nat):W.frozen? ⟨B,j,none⟩=false:=by simp[World.frozen?,h]
abbrev Q4r (s:Sl):Array Value:=#[.bool s.u,.int .i64 s.a,.int .i64 s.p,.int .i64 s.v,.int .i64 s.t]
def Qj2 (w:World) (B:Nat) (s:Sl):World:=((((w.setCell ⟨B,0,none⟩ (.bool s.u)).setCell ⟨B,1,none⟩ (.int .i64 s.a)).setCell ⟨B,2,none⟩ (.int .i64 s.p)).setCell ⟨B,3,none⟩ (.int .i64 s.v)).setCell ⟨B,4,none⟩ (.int .i64 s.t)
theorem QbY {w:World} {B:Nat} {s q:Sl} {T:TypeId} (h:w.heap[B]? =some (.cells (Q4r q) T (0,0))):(Qj2 w B s).heap[B]? =some (.cells (Q4r s) T (0,0)):=by
 have b:=Q4G w B 0 _ _ (.bool s.u) h;have c:=Q4G _ B 1 _ _ (.int .i64 s.a) b;have h2:=Q4G _ B 2 _ _ (.int .i64 s.p) c;have d:=Q4G _ B 3 _ _ (.int .i64 s.v) h2;have f:=Q4G _ B 4 _ _ (.int .i64 s.t) d;exact f
theorem Q2z {w W:World} {n B:Nat} (h:Below n w W) (a:n<=B) (s:Sl):Below n w (Qj2 W B s):=
 ((((h.setCell (p:=⟨B,0,none⟩) a _).setCell (p:=⟨B,1,none⟩) a _).setCell (p:=⟨B,2,none⟩) a _).setCell (p:=⟨B,3,none⟩) a _).setCell (p:=⟨B,4,none⟩) a _
theorem Q8X (b off c:Nat) (l:List Sl) (w:World) (N:b < w.heap.size) (hc:∀i,i < l.length->∀j,j < Q0g.k->w.cell? ⟨b,off+i * Q0g.k+j,none⟩=(Q0g.cs (l.getD i Q0g.d))[j]?) (hl:l.length<=1048576):
  Calls Tryz.prog 167 #[tab (.slice (some ⟨b,off,none⟩) l.length c)] w fun e w'=>e=.returned (.tuple #[slot (Q5u l),.bool (Q5u l).u])/\Below w.heap.size w w':=by
 have HC:=Q02 hc;clear hc;obtain⟨n,M⟩:∃W,((w.alloc (.cells #[.slice (some ⟨b,off,none⟩) l.length c] 32)).alloc (.cells #[.bool false,.int .i64 0,.int .i64 0,.int .i64 0,.int .i64 0] 101))=W:=⟨_,rfl⟩;have R:=alb0v0v2 M;have HB:=Q02 R;clear R;have O:=alz0v0v2 M
 have P:n.cell? ⟨w.heap.size,0,none⟩=some (.slice (some ⟨b,off,none⟩) l.length c):=by rw[<-M];simp[go_sem]
 have h:=alz0v1v2 M;obtain⟨G,H,I,J,L⟩:=alc5v1v2 M;obtain⟨t,x,y,z,A⟩:=alf5v1v2 M;obtain⟨X,Z⟩:∃W,n.alloc (.cells #[.bool false,.int .i64 0,.int .i64 0,.int .i64 0,.int .i64 0] 101)=W:=⟨_,rfl⟩;have ag:=O;have g:=h
 have b4:Hid (X.heap[n.heap.size]? =some (.cells (Q4r sl0) 101 (0,0))):=by rw[<-Z];exact World.alloc_heap_new n _
 have a:=alb0v0v1 Z;replace P:=bKq0v0v0 a P O;replace O:w.heap.size < X.heap.size:=Kbq O a.size;replace G:=bKq0v0v0 a G h;replace H:=bKq0v0v0 a H h;replace I:=bKq0v0v0 a I h;replace J:=bKq0v0v0 a J h;replace L:=bKq0v0v0 a L h;replace t:X.frozen? ⟨w.heap.size+1,0,none⟩=false:=(a.frozen (p:=⟨w.heap.size+1,0,none⟩) h).trans t;replace x:X.frozen? ⟨w.heap.size+1,1,none⟩=false:=(a.frozen (p:=⟨w.heap.size+1,1,none⟩) h).trans x
 replace y:X.frozen? ⟨w.heap.size+1,2,none⟩=false:=(a.frozen (p:=⟨w.heap.size+1,2,none⟩) h).trans y;replace z:X.frozen? ⟨w.heap.size+1,3,none⟩=false:=(a.frozen (p:=⟨w.heap.size+1,3,none⟩) h).trans z;replace A:X.frozen? ⟨w.heap.size+1,4,none⟩=false:=(a.frozen (p:=⟨w.heap.size+1,4,none⟩) h).trans A;replace h:w.heap.size+1 < X.heap.size:=Kbq h a.size;replace HB:=Q02 (HB.out.trans (a.mono HB.out.size));clear a;have am:=alz0v0v1 Z;have ah:=HB;go_enter Tryz.func167,Tryz.ntmps167;go_wp2
 go_loopw [5] (fun i wr=> ∃k:Nat,k<=l.length/\i=.int .i64 k/\Hid (wr.heap[n.heap.size]? =some (.cells (Q4r (Q4T l k)) 101 (0,0)))/\Hid (Below (n.heap.size) X wr))
  (fun i _=>l.length - (intOf i).toNat)
 case atStart=>exact⟨0,Kcq _,rfl,b4,KBq⟩
 case round=>
 obtain⟨k,hk,rfl,hq,f⟩:=hrel;have aj:X.heap.size<=wr.heap.size:=f.out.size;obtain⟨q,U⟩:∃q,Q4T l k=q:=⟨_,rfl⟩;rw[U]at hq;replace P:=bKq0v0v0 f.out P ag
 replace O:w.heap.size < wr.heap.size:=by omega
 replace G:=bKq0v0v0 f.out G g;replace H:=bKq0v0v0 f.out H g;replace I:=bKq0v0v0 f.out I g;replace J:=bKq0v0v0 f.out J g;replace L:=bKq0v0v0 f.out L g;replace t:wr.frozen? ⟨w.heap.size+1,0,none⟩=false:=(f.out.frozen (p:=⟨w.heap.size+1,0,none⟩) g).trans t;replace x:wr.frozen? ⟨w.heap.size+1,1,none⟩=false:=(f.out.frozen (p:=⟨w.heap.size+1,1,none⟩) g).trans x;replace y:wr.frozen? ⟨w.heap.size+1,2,none⟩=false:=(f.out.frozen (p:=⟨w.heap.size+1,2,none⟩) g).trans y
 replace z:wr.frozen? ⟨w.heap.size+1,3,none⟩=false:=(f.out.frozen (p:=⟨w.heap.size+1,3,none⟩) g).trans z;replace A:wr.frozen? ⟨w.heap.size+1,4,none⟩=false:=(f.out.frozen (p:=⟨w.heap.size+1,4,none⟩) g).trans A
 replace h:w.heap.size+1 < wr.heap.size:=by omega
 have r:n.heap.size < wr.heap.size:=by omega
 have ai:w.heap.size<=n.heap.size:=by omega
 have B:=Q02 (ah.out.trans (f.out.mono ai));obtain⟨q0,q1,q2,q3,q4⟩:=cxb5v0v0 hq.out;obtain⟨aa,ab,ac,ad,ae⟩:=fxb5v0v0 hq.out
 by_cases hlt:k < l.length
 ·skip
  have D:=RdL.slot (C:=w.heap.size) HC.out k hlt;have m:=Q02 (Q7u hlt);rw[U]at m;obtain⟨s,af⟩:∃s,l.getD k sl0=s:=⟨_,rfl⟩;rw[af]at D m;have e0:=(B.out.cell (p:=⟨b,off+k * 5,none⟩) N).trans D.1;have e1:=(B.out.cell (p:=⟨b,off+k * 5+1,none⟩) N).trans D.2.1;have e2:=(B.out.cell (p:=⟨b,off+k * 5+2,none⟩) N).trans D.2.2.1;have e3:=(B.out.cell (p:=⟨b,off+k * 5+3,none⟩) N).trans D.2.2.2.1;have e4:=(B.out.cell (p:=⟨b,off+k * 5+4,none⟩) N).trans D.2.2.2.2;have zb:b < wr.heap.size:=Kbq N B.out.size
  have al:(k:Int) < (l.length:Int):=by omega
  clear D af U;have G0:=Grown.cell P O;have Ge0:=Grown.cell (b:=b) (off:=off+k * 5) e0 zb;have Gq0:=Grown.cell q0 r
  have Gf0:∀p:Grown wr,p.v.frozen? ⟨n.heap.size,0,none⟩=false:=fun p=>(p.b.frozen (p:=⟨n.heap.size,0,none⟩) r).trans aa
  have Ge1:=Grown.cell (b:=b) (off:=off+k * 5+1) e1 zb;have Gq1:=Grown.cell q1 r
  have Gf1:∀p:Grown wr,p.v.frozen? ⟨n.heap.size,1,none⟩=false:=fun p=>(p.b.frozen (p:=⟨n.heap.size,1,none⟩) r).trans ab
  have Ge2:=Grown.cell (b:=b) (off:=off+k * 5+2) e2 zb;have Gq2:=Grown.cell q2 r
  have Gf2:∀p:Grown wr,p.v.frozen? ⟨n.heap.size,2,none⟩=false:=fun p=>(p.b.frozen (p:=⟨n.heap.size,2,none⟩) r).trans ac
  have Ge3:=Grown.cell (b:=b) (off:=off+k * 5+3) e3 zb;have Gq3:=Grown.cell q3 r
  have Gf3:∀p:Grown wr,p.v.frozen? ⟨n.heap.size,3,none⟩=false:=fun p=>(p.b.frozen (p:=⟨n.heap.size,3,none⟩) r).trans ad
  have Ge4:=Grown.cell (b:=b) (off:=off+k * 5+4) e4 zb;have Gq4:=Grown.cell q4 r
  have Gf4:∀p:Grown wr,p.v.frozen? ⟨n.heap.size,4,none⟩=false:=fun p=>(p.b.frozen (p:=⟨n.heap.size,4,none⟩) r).trans ae
  have HQ:=hq;clear hq aa q0 e0 ab q1 e1 ac q2 e2 ad q3 e3 ae q4 e4 G t H x I y J z L A;obtain⟨su,sa,sp,sv,st⟩:=s;obtain⟨qu,qa,qp,qv,qt⟩:=q;simp only at Ge0 Ge1 Ge2 Ge3 Ge4 Gq0 Gq1 Gq2 Gq3 Gq4
  cases su with
  |false=>
   have Y:=Q02 (m.out.trans (Q5k rfl));clear m;go_wp2
   (refine Q09 (by kernel_rfl) (by kernel_rfl) ?_;intro T;(repeat (go_big_quiet_step ((fail))));(with_reducible refine wpQuiet_nil ?_);intro _ F;obtain⟨V,E⟩:=F;subst E)
   go_wp2;go_roundw
   case rel=>exact⟨k+1,hlt,by go_num,(by unfold Hid;rw[Y.out];exact(V.b.block _ r).trans HQ.out),(f.out.trans (V.b.mono (KIq r)))⟩
   case measure=>simp[intOf];omega
  |true=>
   cases qu with
   |false=>
    have Y:=Q02 (m.out.trans (Q4Q rfl rfl));clear m;go_wp2
    (refine Q09 (by kernel_rfl) (by kernel_rfl) ?_;intro T;(repeat (go_big_quiet_step ((fail))));(with_reducible refine wpQuiet_nil ?_);intro _ F;obtain⟨V,E⟩:=F;subst E)
    go_wp2;go_roundw
    case rel=>exact⟨k+1,hlt,by go_num,(by unfold Hid;rw[Y.out];exact QbY (s:=⟨true,sa,sp,sv,st⟩) ((V.b.block _ r).trans HQ.out)),Q2z (s:=⟨true,sa,sp,sv,st⟩) (f.out.trans (V.b.mono (KIq r))) (Kaq _)⟩
    case measure=>simp[intOf];omega
   |true=>
    by_cases hlq:st < qt
    ·have Y:=Q02 (m.out.trans (Q5m rfl hlq))
     clear m;go_wp2
     (refine Q09 (by kernel_rfl) (by kernel_rfl) ?_;intro T;(repeat (go_big_quiet_step ((fail))));(with_reducible refine wpQuiet_nil ?_);intro _ F;obtain⟨V,E⟩:=F;subst E)
     go_wp2;go_roundw
     case rel=>exact⟨k+1,hlt,by go_num,(by unfold Hid;rw[Y.out];exact QbY (s:=⟨true,sa,sp,sv,st⟩) ((V.b.block _ r).trans HQ.out)),Q2z (s:=⟨true,sa,sp,sv,st⟩) (f.out.trans (V.b.mono (KIq r))) (Kaq _)⟩
     case measure=>simp[intOf];omega
    ·have ak:decide (st < qt)=false:=decide_eq_false hlq
     have Y:=Q02 (m.out.trans (Q5N rfl hlq));clear m;go_wp2
     (refine Q09 (by kernel_rfl) (by kernel_rfl) ?_;intro T;(repeat (go_big_quiet_step ((fail))));(with_reducible refine wpQuiet_nil ?_);intro _ F;obtain⟨V,E⟩:=F;subst E)
     go_wp2;go_roundw
     case rel=>exact⟨k+1,hlt,by go_num,(by unfold Hid;rw[Y.out];exact(V.b.block _ r).trans HQ.out),(f.out.trans (V.b.mono (KIq r)))⟩
     case measure=>simp[intOf];omega
 ·skip
  have e:k=l.length:=by omega
  subst e;have HE:=Q02 (show Q5u l=q from U);have HQ:=hq;clear hq U;go_wp2
  go_region
  go_wp2;refine bodyPost_ret (v:=.tuple #[slot q,.bool q.u]) (by simp[results,Tryz.results167,go_sem,G,H,I,J,L]) rfl ⟨by rw[HE.out], ?_⟩;exact Q2z (s:=q) (KHq B.out) (show w.heap.size<=w.heap.size+1 by omega)
theorem Q4R (b off c:Nat) (l:List Sl) (w:World) (M:b < w.heap.size) (hc:∀i,i < l.length->∀j,j < Q0g.k->w.cell? ⟨b,off+i * Q0g.k+j,none⟩=(Q0g.cs (l.getD i Q0g.d))[j]?) (hl:l.length<=1048576):
  Calls Tryz.prog 112 #[tab (.slice (some ⟨b,off,none⟩) l.length c)] w fun e w'=> ∃g,e=.returned (tab (.slice (some ⟨g,0,none⟩) l.length l.length))/\Qgb w' w.heap.size (.slice (some ⟨g,0,none⟩) l.length l.length) l/\Below w.heap.size w w':=by
 obtain⟨i0,hi,am,an,ao⟩:=info_parts Q6Y;have HC:=Q02 hc;clear hc;obtain⟨m,z⟩:∃W,((w.alloc (.cells #[.slice (some ⟨b,off,none⟩) l.length c] 89)).alloc (.cells #[.slice none 0 0] 32))=W:=⟨_,rfl⟩;have L:=alb0v0v2 z;have V:=Q02 L;clear L;have E:=alz0v0v2 z
 have I:m.cell? ⟨w.heap.size,0,none⟩=some (.slice (some ⟨b,off,none⟩) l.length c):=by rw[<-z];simp[go_sem]
 have q:=alz0v1v2 z
 have H:m.cell? ⟨w.heap.size+1,0,none⟩=some (.slice none 0 0):=by rw[<-z];simp[go_sem]
 have y:m.frozen? ⟨w.heap.size+1,0,none⟩=false:=by rw[<-z];simp[go_sem]
 have U:=q;have aa:w.heap.size<=m.heap.size:=V.out.size;go_enter Tryz.func112,Tryz.ntmps112;go_wp2_with (at_make;refine wpList_make_full _ rfl _ _ 30 rfl m.heap.size 101 i0 (slot sl0) 5 Tryz.underlying30 hi am an _ _ _ _ l.length rfl rfl rfl rfl ?b2 ?b3 ?b4 ?_)
 case b2=>rw[ao];omega
 case b3=>unfold maxLen;omega
 case b4=>simp
 intro D O N;have r:Below m.heap.size m D:=KBq.grown N (Kaq _) (fun k h=>by cases h);have ae:=Q02 r
 have HO:Hid (D.ownsRow m.heap.size 101 5 (.slice (some ⟨m.heap.size,0,none⟩) l.length l.length) l.length ((Q3D Q0g l 0).flatMap Q0g.cs)):=by unfold Hid;rw[Q8w,<-Q3B Q0g (slot sl0) rfl];exact O
 have zg:m.heap.size < D.heap.size:=(O.lt _ rfl).2;clear O N;replace I:=bKq0v0v0 r I E;replace E:w.heap.size < D.heap.size:=Kbq E r.size;replace H:=bKq0v0v0 r H q;replace y:D.frozen? ⟨w.heap.size+1,0,none⟩=false:=(r.frozen (p:=⟨w.heap.size+1,0,none⟩) q).trans y;replace q:w.heap.size+1 < D.heap.size:=Kbq q r.size;replace V:=Q02 (V.out.trans (r.mono V.out.size));clear r;obtain⟨W2,F⟩:∃W,(D.alloc (.cells #[.slice (some ⟨m.heap.size,0,none⟩) l.length l.length] 32))=W:=⟨_,rfl⟩;have f:=alb0v0v1 F;replace I:=bKq0v0v0 f I E
 replace E:w.heap.size < W2.heap.size:=Kbq E f.size;replace H:=bKq0v0v0 f H q;replace y:W2.frozen? ⟨w.heap.size+1,0,none⟩=false:=(f.frozen (p:=⟨w.heap.size+1,0,none⟩) q).trans y;replace q:w.heap.size+1 < W2.heap.size:=Kbq q f.size;replace HO:=Q02 (Q03 HO.out f);replace V:=Q02 (V.out.trans (f.mono V.out.size));clear f;have ad:=alz0v0v1 F
 have ak:W2.cell? ⟨D.heap.size,0,none⟩=some (.slice (some ⟨m.heap.size,0,none⟩) l.length l.length):=by rw[<-F];simp[go_sem]
 have b3:Hid _:=alx0v0v1 F
 have bR:Hid (W2.heap[w.heap.size+1]? =some (.cells #[.slice none 0 0] 32 (0,0))):=by
  have h:=World.alloc_heap_new (w.alloc (.cells #[.slice (some ⟨b,off,none⟩) l.length c] 89)) (.cells #[.slice none 0 0] 32);rw[z,World.size_alloc]at h;exact((by rw[<-F];exact(Below.heap_alloc _ _ _ (by omega)):W2.heap[w.heap.size+1]? =D.heap[w.heap.size+1]?)).trans ((ae.out.block _ U).trans h)
 have aF:=ad;go_wp2
 go_loopw [14] (fun i wr=> ∃k:Nat,k<=l.length/\i=.int .i64 k/\Hid (wr.ownsRow m.heap.size 101 5 (.slice (some ⟨m.heap.size,0,none⟩) l.length l.length) l.length ((Q3D Q0g l k).flatMap Q0g.cs))/\Hid (wr.heap[w.heap.size+1]? =some (.cells #[.slice none 0 0] 32 (0,0)))/\Hid (wr.heap[D.heap.size]? =some (.cells #[.slice (some ⟨m.heap.size,0,none⟩) l.length l.length] 32 (0,0)))/\Hid (Below w.heap.size w wr)/\D.heap.size < wr.heap.size)
  (fun i _=>l.length - (intOf i).toNat)
 case atStart=>exact⟨0,Kcq _,rfl,HO,bR,b3,V,ad⟩
 case round=>
  clear HO bR b3 V ae I H y ak F z E q ad;obtain⟨k,hk,rfl,HO,HR,HT,x,Z⟩:=hrel
  by_cases hlt:k < l.length
  ·obtain⟨s,ac⟩:∃s,l.getD k sl0=s:=⟨_,rfl⟩
   have B:=RdL.slot (C:=w.heap.size) HC.out k hlt;rw[ac]at B;have e0:=(x.out.cell (p:=⟨b,off+k * 5,none⟩) M).trans B.1;have e1:=(x.out.cell (p:=⟨b,off+k * 5+1,none⟩) M).trans B.2.1;have e2:=(x.out.cell (p:=⟨b,off+k * 5+2,none⟩) M).trans B.2.2.1;have e3:=(x.out.cell (p:=⟨b,off+k * 5+3,none⟩) M).trans B.2.2.2.1;have e4:=(x.out.cell (p:=⟨b,off+k * 5+4,none⟩) M).trans B.2.2.2.2
   have ax:(k:Int) < (l.length:Int):=by omega
   have HX:=Q02 ac;clear B ac;obtain⟨G,A⟩:∃W,wr.alloc (.cells (Q4r s) 165)=W:=⟨_,rfl⟩;have J:=alb0v0v1 A;have T:=alz0v0v1 A
   have s0:G.cell? ⟨wr.heap.size,0,none⟩=some (.bool s.u):=by rw[<-A];simp[go_sem]
   have s1:G.cell? ⟨wr.heap.size,1,none⟩=some (.int .i64 s.a):=by rw[<-A];simp[go_sem]
   have s2:G.cell? ⟨wr.heap.size,2,none⟩=some (.int .i64 s.p):=by rw[<-A];simp[go_sem]
   have s3:G.cell? ⟨wr.heap.size,3,none⟩=some (.int .i64 s.v):=by rw[<-A];simp[go_sem]
   have s4:G.cell? ⟨wr.heap.size,4,none⟩=some (.int .i64 s.t):=by rw[<-A];simp[go_sem]
   have t3:G.cell? ⟨D.heap.size,0,none⟩=some (.slice (some ⟨m.heap.size,0,none⟩) l.length l.length):=(J.cell (p:=⟨D.heap.size,0,none⟩) Z).trans (Q0k HT.out 0 _ rfl);have ap:D.heap.size < G.heap.size:=Kbq Z J.size;have ag:=Q02 J;have P:=Q03 HO.out J;have al:=Qdd s G.drew
   have ay:((Q3D Q0g l k).flatMap Q0g.cs).length=l.length * 5:=by rw[Q0l,Q6x Q0g l k hk];rfl
   have ab:Hid (G.ownsRow m.heap.size 101 5 (.slice (some ⟨m.heap.size,0,none⟩) l.length l.length) l.length ((Q3D Q0g l k).flatMap Q0g.cs)):=P;clear P J;go_wp2
   first|(go_region_with (first|(go_at_call 158;refine al.mono ?_;rintro e w6 ⟨rfl,r⟩;replace r:Below G.heap.size G w6:=(KHq KBq).trans r;have aE:=(r.cell (p:=⟨D.heap.size,0,none⟩) ap).trans t3;have s60:=(r.cell (p:=⟨wr.heap.size,0,none⟩) T).trans s0;have s61:=(r.cell (p:=⟨wr.heap.size,1,none⟩) T).trans s1;have s62:=(r.cell (p:=⟨wr.heap.size,2,none⟩) T).trans s2;have s63:=(r.cell (p:=⟨wr.heap.size,3,none⟩) T).trans s3;have s64:=(r.cell (p:=⟨wr.heap.size,4,none⟩) T).trans s4;have n:=Q03 ab.out r;obtain⟨u0,az⟩:∃u,w6.cell? ⟨m.heap.size,k * 5,none⟩=some u:=⟨_,(n.cellAt (k * 5) (by omega)).trans (KGq (by omega))⟩;have aq:=n.frozenAt (k * 5);obtain⟨u1,aA⟩:∃u,w6.cell? ⟨m.heap.size,k * 5+1,none⟩=some u:=⟨_,(n.cellAt (k * 5+1) (by omega)).trans (KGq (by omega))⟩;have ar:=n.frozenAt (k * 5+1);obtain⟨u2,aB⟩:∃u,w6.cell? ⟨m.heap.size,k * 5+2,none⟩=some u:=⟨_,(n.cellAt (k * 5+2) (by omega)).trans (KGq (by omega))⟩;have au:=n.frozenAt (k * 5+2);obtain⟨u3,aC⟩:∃u,w6.cell? ⟨m.heap.size,k * 5+3,none⟩=some u:=⟨_,(n.cellAt (k * 5+3) (by omega)).trans (KGq (by omega))⟩;have av:=n.frozenAt (k * 5+3);obtain⟨u4,aD⟩:∃u,w6.cell? ⟨m.heap.size,k * 5+4,none⟩=some u:=⟨_,(n.cellAt (k * 5+4) (by omega)).trans (KGq (by omega))⟩;have aw:=n.frozenAt (k * 5+4);have aj:=Q02 r;have ah:=Q02 n;clear r n)))|fail
   all_goals have X:=Q02 (Q3Q (k:=k) s (Kaq _) ah.out (Below.refl m.heap.size w6))
   all_goals have ai:=Q02 (show(Q3D Q0g l k).set k s=Q3D Q0g l (k+1)by rw[<-HX.out];exact Qal Q0g l k hlt)
   all_goals have Y:=Q02 (ag.out.trans (aj.out.mono ag.out.size))
   all_goals go_wp2
   all_goals go_roundw
   all_goals first|(simp[intOf];omega;done)|exact⟨k+1,hlt,by go_num,(by have h:=X.out.1;rw[ai.out]at h;exact h),(X.out.2.block _ U).trans ((Y.out.block _ (by omega)).trans HR.out),((((((Below.heap_setCell _ _ _ _ (by simp;omega)).trans (Below.heap_setCell _ _ _ _ (by simp;omega))).trans (Below.heap_setCell _ _ _ _ (by simp;omega))).trans (Below.heap_setCell _ _ _ _ (by simp;omega))).trans (Below.heap_setCell _ _ _ _ (by simp;omega))).trans ((Y.out.block _ Z).trans HT.out)),x.out.trans ((Y.out.mono x.out.size).trans (X.out.2.mono aa)),Kbq Z (Kdq Y.out.size X.out.2.size)⟩
  ·have e:k=l.length:=by omega
   subst e;have R:=HO.out;rw[Qaa]at R;have af:=Q02 R;clear R HO;have r1:=Q0k HR.out 0 _ rfl;have f1:=Q26 HR.out 0;have t3:=Q0k HT.out 0 _ rfl;go_wp2;refine bodyPost_ret (v:=tab (.slice (some ⟨m.heap.size,0,none⟩) l.length l.length)) (by simp[results,Tryz.results112,go_sem,r1]) rfl ⟨_,rfl, ?_, ?_⟩
   ·exact Q04 (ownsRow_setCell_below af.out (show w.heap.size+1 < m.heap.size from U) _) aa
   ·exact x.out.setCell (p:=⟨w.heap.size+1,0,none⟩) (by simp) _
def Q7c (n:Int):List Sl:=if 1<=n/\n<=16 then List.replicate n.toNat sl0 else[]
def QbW (n:Int):Bool:=decide (1<=n) && decide (n<=16)
theorem QfU (n:Int):(Q7c n).length<=16:=by
 unfold Q7c
 split
 ·rw[List.length_replicate];omega
 ·exact Kcq _
theorem Q6E (n:Int) (w:World):
  Calls Tryz.prog 172 #[.int .i64 n] w fun e B=> ∃v,e=.returned (.tuple #[v,.bool (QbW n)])/\InTb w.heap.size B.heap.size B v (Q7c n)/\Below w.heap.size w B:=by
 obtain⟨F,hi,z,A,E⟩:=info_parts Q6Y;obtain⟨g,i⟩:∃W,(w.alloc (.cells #[.slice none 0 0] 32))=W:=⟨_,rfl⟩;have b:=alb0v0v1 i;have q:=Q02 b;clear b;have f:=alz0v0v1 i
 have a:g.cell? ⟨w.heap.size,0,none⟩=some (.slice none 0 0):=by rw[<-i];simp[go_sem]
 have j:g.frozen? ⟨w.heap.size,0,none⟩=false:=by rw[<-i];simp[go_sem]
 by_cases hn:1<=n/\n<=16
 ·obtain⟨m,rfl⟩:∃m:Nat,n=m:=⟨n.toNat,by omega⟩
  have x:=Q02 (show Q7c (m:Int)=List.replicate m sl0 by unfold Q7c;rw[if_pos hn];simp);have y:=Q02 (show QbW (m:Int)=true by simp[QbW];omega)
  have G:¬((m:Int) < 1):=by omega
  have H:¬(16 < (m:Int)):=by omega
  have u:=f;have s:=q.out.size;go_enter Tryz.func172,Tryz.ntmps172;go_wp2_with (at_make;refine wpList_make_full _ rfl _ _ 30 rfl g.heap.size 101 F (slot sl0) 5 Tryz.underlying30 hi z A _ _ _ _ m rfl rfl rfl rfl ?b2 ?b3 ?b4 ?_)
  case b2=>omega
  case b3=>unfold maxLen;omega
  intro t l c;have r:Below g.heap.size g t:=KBq.grown c (Kaq _) (fun k h=>by cases h)
  have C:Hid (Qgb t g.heap.size (.slice (some ⟨g.heap.size,0,none⟩) m m) (List.replicate m sl0)):=by
   unfold Hid Qgb ownL;rw[List.length_replicate]
   show t.ownsRow _ _ _ _ m ((List.replicate m Q0g.d).flatMap Q0g.cs)
   rw[<-Q3B Q0g (slot sl0) rfl];exact l
  have D:=a;clear l c D;replace a:=bKq0v0v0 r a f;replace j:t.frozen? ⟨w.heap.size,0,none⟩=false:=(r.frozen (p:=⟨w.heap.size,0,none⟩) f).trans j;replace f:w.heap.size < t.heap.size:=Kbq f r.size;replace q:=Q02 (q.out.trans (r.mono q.out.size));clear r;go_wp2;refine bodyPost_ret (v:=.tuple #[tab (.slice (some ⟨g.heap.size,0,none⟩) m m),.bool true]) (by simp[results,Tryz.results172,go_sem,a]) rfl ⟨_,by rw[y.out],⟨_,rfl, ?_⟩, ?_⟩
  ·rw[x.out];exact InRow.of (Q04 (ownsRow_setCell_below C.out (show w.heap.size < g.heap.size from u) _) s)
  ·exact q.out.setCell (p:=⟨w.heap.size,0,none⟩) (Kaq _) _
 ·skip
  have x:=Q02 (show Q7c n=[]by unfold Q7c;rw[if_neg hn]);have y:=Q02 (show QbW n=false by simp[QbW];omega)
  by_cases h1:n < 1
  ·skip
   clear hn;go_enter Tryz.func172,Tryz.ntmps172;go_wp2;refine bodyPost_ret (v:=.tuple #[tab (.slice none 0 0),.bool false]) (by simp[results,Tryz.results172,go_sem,a]) rfl ⟨_,by rw[y.out],⟨_,rfl, ?_⟩, ?_⟩
   ·rw[x.out];exact InRow.of (KLq _ _ _ _)
   ·exact q.out.setCell (p:=⟨w.heap.size,0,none⟩) (Kaq _) _
  ·have h2:16 < n:=by omega
   clear hn;go_enter Tryz.func172,Tryz.ntmps172;go_wp2;refine bodyPost_ret (v:=.tuple #[tab (.slice none 0 0),.bool false]) (by simp[results,Tryz.results172,go_sem,a]) rfl ⟨_,by rw[y.out],⟨_,rfl, ?_⟩, ?_⟩
   ·rw[x.out];exact InRow.of (KLq _ _ _ _)
   ·exact q.out.setCell (p:=⟨w.heap.size,0,none⟩) (Kaq _) _
theorem Q6J (n:Int) (w:World):
  Calls Tryz.prog 98 #[.int .i64 n] w fun e z=> ∃v,e=.returned (.tuple #[v,.bool (QbW n)])/\InTb w.heap.size z.heap.size z v (Q7c n)/\Below w.heap.size w z:=by
 obtain⟨x,k⟩:∃W,(w.alloc (.cells #[.slice none 0 0] 32))=W:=⟨_,rfl⟩;have f:=alb0v0v1 k;have j:=Q02 f;clear f;have a:=alz0v0v1 k
 have b:x.cell? ⟨w.heap.size,0,none⟩=some (.slice none 0 0):=by rw[<-k];simp[go_sem]
 have c:x.frozen? ⟨w.heap.size,0,none⟩=false:=by rw[<-k];simp[go_sem]
 by_cases hn:1<=n/\n<=16
 ·obtain⟨m,rfl⟩:∃m:Nat,n=m:=⟨n.toNat,by omega⟩
  have t:=Q02 (show Q7c (m:Int)=List.replicate m sl0 by unfold Q7c;rw[if_pos hn];simp);have u:=Q02 (show QbW (m:Int)=true by simp[QbW];omega)
  have F:¬((m:Int) < 1):=by omega
  have G:¬(16 < (m:Int)):=by omega
  have C:=a;have A:=j.out.size
  have hm:m<=1048576:=by omega
  go_enter Tryz.func98,Tryz.ntmps98;go_wp2_with fail;refine(Q2r m x hm).mono ?_;rintro e s ⟨g,rfl,l,d⟩;have r:=Q02 l;clear l;replace b:=bKq0v0v0 d b a;replace c:s.frozen? ⟨w.heap.size,0,none⟩=false:=(d.frozen (p:=⟨w.heap.size,0,none⟩) a).trans c;replace a:w.heap.size < s.heap.size:=Kbq a d.size;replace j:=Q02 (j.out.trans (d.mono j.out.size));clear d;have q:=Q4R g 0 m (List.replicate m sl0) s (r.out.lt g rfl).2 (Q1i (by have h:=r.out;unfold ownL at h;rw[List.length_replicate]at h;exact h) (by simp)) (by simp;omega)
  rw[List.length_replicate]at q
  have E:x.heap.size<=s.heap.size:=by have:=r.out.lt g rfl;omega
  go_wp2_with fail;refine(q).mono ?_;rintro e B ⟨D,rfl,i,d⟩;have y:=Q02 i;clear i;replace b:=bKq0v0v0 d b a;replace c:B.frozen? ⟨w.heap.size,0,none⟩=false:=(d.frozen (p:=⟨w.heap.size,0,none⟩) a).trans c;replace a:w.heap.size < B.heap.size:=Kbq a d.size;replace r:=Q02 (Q03 r.out d);replace j:=Q02 (j.out.trans (d.mono j.out.size));clear d;clear q;go_wp2;refine bodyPost_ret (v:=.tuple #[tab (.slice (some ⟨D,0,none⟩) m m),.bool true]) (by simp[results,Tryz.results98,go_sem,b]) rfl ⟨_,by rw[u.out],⟨_,rfl, ?_⟩, ?_⟩
  ·rw[t.out];exact InRow.of (Q04 (ownsRow_setCell_below y.out (show w.heap.size < s.heap.size by omega) _) (by omega))
  ·exact j.out.setCell (p:=⟨w.heap.size,0,none⟩) (Kaq _) _
 ·skip
  have t:=Q02 (show Q7c n=[]by unfold Q7c;rw[if_neg hn]);have u:=Q02 (show QbW n=false by simp[QbW];omega)
  by_cases h1:n < 1
  ·skip
   clear hn;go_enter Tryz.func98,Tryz.ntmps98;go_wp2;refine bodyPost_ret (v:=.tuple #[tab (.slice none 0 0),.bool false]) (by simp[results,Tryz.results98,go_sem,b]) rfl ⟨_,by rw[u.out],⟨_,rfl, ?_⟩, ?_⟩
   ·rw[t.out];exact InRow.of (KLq _ _ _ _)
   ·exact j.out.setCell (p:=⟨w.heap.size,0,none⟩) (Kaq _) _
  ·have h2:16 < n:=by omega
   clear hn;go_enter Tryz.func98,Tryz.ntmps98;go_wp2;refine bodyPost_ret (v:=.tuple #[tab (.slice none 0 0),.bool false]) (by simp[results,Tryz.results98,go_sem,b]) rfl ⟨_,by rw[u.out],⟨_,rfl, ?_⟩, ?_⟩
   ·rw[t.out];exact InRow.of (KLq _ _ _ _)
   ·exact j.out.setCell (p:=⟨w.heap.size,0,none⟩) (Kaq _) _
theorem QeT {l:List Sl} {a p:Int} (h:(Q1n l a p).2=false):Qbd l a p=sl0:=by unfold Qbd;rw[h];rfl
theorem Qcp {l:List Sl} {a p:Int} {k:Nat} (h:Q1n l a p=((k:Int),true)):Qbd l a p=l.getD k sl0:=by unfold Qbd;rw[h];simp
theorem Qhl (b off c:Nat) (l:List Sl) (a p:Int) (w:World) (Y:0 < l.length) (hl:l.length<=1048576) (Z:Q0o a p=true) (H:b < w.heap.size) (X:∀i,i < l.length->∀j,j < Q0g.k->w.cell? ⟨b,off+i * Q0g.k+j,none⟩=(Q0g.cs (l.getD i Q0g.d))[j]?):
  Calls Tryz.prog 105 #[tab (.slice (some ⟨b,off,none⟩) l.length c),Qb3 a p] w fun e w'=>e=.returned (.tuple #[slot (Qbd l a p),.bool (Q1n l a p).2])/\Below w.heap.size w w':=by
 have U:=Q02 X;clear X;obtain⟨V,G⟩:∃W,(((w.alloc (.cells #[.slice (some ⟨b,off,none⟩) l.length c] 89)).alloc (.cells #[.int .i64 a,.int .i64 p] 36)).alloc (.cells #[.bool false,.int .i64 0,.int .i64 0,.int .i64 0,.int .i64 0] 165))=W:=⟨_,rfl⟩;have O:=alb0v0v3 G;have x:=Q02 O;clear O;have F:=alz0v0v3 G
 have N:V.cell? ⟨w.heap.size,0,none⟩=some (.slice (some ⟨b,off,none⟩) l.length c):=by rw[<-G];simp[go_sem]
 have m:=alz0v1v3 G;obtain⟨L,M⟩:=alc2v1v3 G;have f:=alz0v2v3 G;obtain⟨y,z,A,B,D⟩:=alc5v2v3 G;obtain⟨n,q,r,t,u⟩:=alf5v2v3 G;have E:=Q6r b off c l a p V Y hl Z (Kbq H x.out.size) (fun i hi j hj=>(x.out.cell (p:=⟨b,off+i * Q0g.k+j,none⟩) H).trans (U.out i hi j hj))
 rcases Q2g l Y a p with J|⟨k,hk,⟨J,_⟩|⟨J,_⟩⟩
 ·skip
  have P:=Q02 (QeT (l:=l) (a:=a) (p:=p) (by rw[J]));have R:=Q02 J;rw[J]at E;clear J;go_enter Tryz.func105,Tryz.ntmps105;go_wp2_with fail;refine(E).mono ?_;rintro e h ⟨rfl,g⟩;replace N:=bKq0v0v0 g N F;replace F:w.heap.size < h.heap.size:=Kbq F g.size;replace L:=bKq0v0v0 g L m;replace M:=bKq0v0v0 g M m;replace m:w.heap.size+1 < h.heap.size:=Kbq m g.size;replace y:=bKq0v0v0 g y f;replace z:=bKq0v0v0 g z f;replace A:=bKq0v0v0 g A f;replace B:=bKq0v0v0 g B f;replace D:=bKq0v0v0 g D f
  replace n:h.frozen? ⟨w.heap.size+1+1,0,none⟩=false:=(g.frozen (p:=⟨w.heap.size+1+1,0,none⟩) f).trans n;replace q:h.frozen? ⟨w.heap.size+1+1,1,none⟩=false:=(g.frozen (p:=⟨w.heap.size+1+1,1,none⟩) f).trans q;replace r:h.frozen? ⟨w.heap.size+1+1,2,none⟩=false:=(g.frozen (p:=⟨w.heap.size+1+1,2,none⟩) f).trans r;replace t:h.frozen? ⟨w.heap.size+1+1,3,none⟩=false:=(g.frozen (p:=⟨w.heap.size+1+1,3,none⟩) f).trans t;replace u:h.frozen? ⟨w.heap.size+1+1,4,none⟩=false:=(g.frozen (p:=⟨w.heap.size+1+1,4,none⟩) f).trans u
  replace f:w.heap.size+1+1 < h.heap.size:=Kbq f g.size;replace x:=Q02 (x.out.trans (g.mono x.out.size));clear g;clear E;go_wp2;refine bodyPost_ret (v:=.tuple #[slot sl0,.bool false]) (by simp[results,Tryz.results105,go_sem,y,z,A,B,D]) rfl ⟨by rw[P.out,R.out],Q2z (s:=sl0) x.out (by omega)⟩
 ·skip
  have P:=Q02 (QeT (l:=l) (a:=a) (p:=p) (by rw[J]));have R:=Q02 J;rw[J]at E;clear J;go_enter Tryz.func105,Tryz.ntmps105;go_wp2_with fail;refine(E).mono ?_;rintro e h ⟨rfl,g⟩;replace N:=bKq0v0v0 g N F;replace F:w.heap.size < h.heap.size:=Kbq F g.size;replace L:=bKq0v0v0 g L m;replace M:=bKq0v0v0 g M m;replace m:w.heap.size+1 < h.heap.size:=Kbq m g.size;replace y:=bKq0v0v0 g y f;replace z:=bKq0v0v0 g z f;replace A:=bKq0v0v0 g A f;replace B:=bKq0v0v0 g B f;replace D:=bKq0v0v0 g D f
  replace n:h.frozen? ⟨w.heap.size+1+1,0,none⟩=false:=(g.frozen (p:=⟨w.heap.size+1+1,0,none⟩) f).trans n;replace q:h.frozen? ⟨w.heap.size+1+1,1,none⟩=false:=(g.frozen (p:=⟨w.heap.size+1+1,1,none⟩) f).trans q;replace r:h.frozen? ⟨w.heap.size+1+1,2,none⟩=false:=(g.frozen (p:=⟨w.heap.size+1+1,2,none⟩) f).trans r;replace t:h.frozen? ⟨w.heap.size+1+1,3,none⟩=false:=(g.frozen (p:=⟨w.heap.size+1+1,3,none⟩) f).trans t;replace u:h.frozen? ⟨w.heap.size+1+1,4,none⟩=false:=(g.frozen (p:=⟨w.heap.size+1+1,4,none⟩) f).trans u
  replace f:w.heap.size+1+1 < h.heap.size:=Kbq f g.size;replace x:=Q02 (x.out.trans (g.mono x.out.size));clear g;clear E;go_wp2;refine bodyPost_ret (v:=.tuple #[slot sl0,.bool false]) (by simp[results,Tryz.results105,go_sem,y,z,A,B,D]) rfl ⟨by rw[P.out,R.out],Q2z (s:=sl0) x.out (by omega)⟩
 ·skip
  have P:=Q02 (Qcp J);have R:=Q02 J;rw[J]at E;clear J;have I:=RdL.slot (C:=w.heap.size) U.out k hk;obtain⟨s,T⟩:∃s,l.getD k sl0=s:=⟨_,rfl⟩;rw[T]at I P;clear T
  have aa:(k:Int) < (l.length:Int):=by omega
  go_enter Tryz.func105,Tryz.ntmps105;go_wp2_with fail;refine(E).mono ?_;rintro e h ⟨rfl,g⟩;replace N:=bKq0v0v0 g N F;replace F:w.heap.size < h.heap.size:=Kbq F g.size;replace L:=bKq0v0v0 g L m;replace M:=bKq0v0v0 g M m;replace m:w.heap.size+1 < h.heap.size:=Kbq m g.size;replace y:=bKq0v0v0 g y f;replace z:=bKq0v0v0 g z f;replace A:=bKq0v0v0 g A f;replace B:=bKq0v0v0 g B f;replace D:=bKq0v0v0 g D f;replace n:h.frozen? ⟨w.heap.size+1+1,0,none⟩=false:=(g.frozen (p:=⟨w.heap.size+1+1,0,none⟩) f).trans n
  replace q:h.frozen? ⟨w.heap.size+1+1,1,none⟩=false:=(g.frozen (p:=⟨w.heap.size+1+1,1,none⟩) f).trans q;replace r:h.frozen? ⟨w.heap.size+1+1,2,none⟩=false:=(g.frozen (p:=⟨w.heap.size+1+1,2,none⟩) f).trans r;replace t:h.frozen? ⟨w.heap.size+1+1,3,none⟩=false:=(g.frozen (p:=⟨w.heap.size+1+1,3,none⟩) f).trans t;replace u:h.frozen? ⟨w.heap.size+1+1,4,none⟩=false:=(g.frozen (p:=⟨w.heap.size+1+1,4,none⟩) f).trans u;replace f:w.heap.size+1+1 < h.heap.size:=Kbq f g.size;replace x:=Q02 (x.out.trans (g.mono x.out.size));clear g
  have e0:=(x.out.cell (p:=⟨b,off+k * 5,none⟩) H).trans I.1;have e1:=(x.out.cell (p:=⟨b,off+k * 5+1,none⟩) H).trans I.2.1;have e2:=(x.out.cell (p:=⟨b,off+k * 5+2,none⟩) H).trans I.2.2.1;have e3:=(x.out.cell (p:=⟨b,off+k * 5+3,none⟩) H).trans I.2.2.2.1;have e4:=(x.out.cell (p:=⟨b,off+k * 5+4,none⟩) H).trans I.2.2.2.2;clear E I;go_wp2;refine bodyPost_ret (v:=.tuple #[slot s,.bool true]) (by simp[results,Tryz.results105,go_sem,y,z,A,B,D]) rfl ⟨by rw[P.out,R.out],Q2z (s:=s) x.out (by omega)⟩
def Qg6 (l:List Sl) (a p:Int):Int:=if(Q1n l a p).2=true then(Qbd l a p).v else -1
theorem Q1F {m:Bm} (h:Q1J m=true):Q0e m.t=true:=by
 rw[QaB]at h;simp only[Bool.and_eq_true]at h;exact h.2.1
theorem Q3V {m:Bm} (h:Q1J m=true):0 < m.t.length:=(Q0d.1 (Q1F h)).1
theorem Qg4 {C:Nat} {w:World} {o:Option Addr} {l:List Sl} (h:RdS C w o l) (c:0 < l.length):∃b off,o=some ⟨b,off,none⟩/\b < C/\∀i,i < l.length->∀j,j < Q0g.k->w.cell? ⟨b,off+i * Q0g.k+j,none⟩=(Q0g.cs (l.getD i Q0g.d))[j]? :=by
 rcases h with h|⟨b,off,e,a,r⟩
 ·subst h;simp at c
 ·exact⟨b,off,e,a,r⟩
theorem QaH {lo hi:Nat} {w:World} {y:Option Addr} {x v:Nat} {f:Int} {B:Option Addr} {A z:Nat} {k i:Int} {n:Option Addr} {m l:Nat} {u:Option Addr} {s q:Nat} {j:Jm} {p:Pm} {t:List Sl} (h:QiF lo hi w (QcF (.slice y x v) f (.slice B A z) k i (.slice n m l) (.slice u s q)) j p t) (T:0 < t.length):
  ∃g a b,lo<=a/\a<=g/\g < b/\b<=hi/\f=j.key/\k=j.safe/\i=p.key/\y=some ⟨g,0,none⟩/\x=t.length/\InPm lo a w (plv p.key (.slice n m l) (.slice u s q)) p/\w.ownsRow a Q1B 5 (.slice (some ⟨g,0,none⟩) t.length v) t.length (t.flatMap Q0g.cs)/\InJm b hi w (jrn j.key (.slice B A z) j.safe) j:=by
 obtain⟨Z,X,V,Y,a,b,e,O,U,P,M,c,N⟩:=h;simp only[Value.agg.injEq,Array.mk.injEq,List.cons.injEq,and_true,Value.int.injEq,true_and]at e;obtain⟨D,E,F,G,H,I,J⟩:=e;subst D F I J;have d:=c
 rcases d.1.2 with⟨R,h2⟩|⟨g,cap,C,hv,L,r⟩
 ·exact absurd h2 (by omega)
 ·injection hv with h4 h5 h6
  subst h4 h5 h6;exact⟨g,a,b,O,L,c.2 g rfl,P,E,G,H,rfl,rfl,M,c.1,N⟩
theorem QdF (b off c:Nat) (l:List Sl) (a p:Int) (w:World) (Y:0 < l.length) (X:l.length<=1048576) (U:Q0o a p=true) (E:b < w.heap.size) (L:∀i,i < l.length->∀j,j < Q0g.k->w.cell? ⟨b,off+i * Q0g.k+j,none⟩=(Q0g.cs (l.getD i Q0g.d))[j]?):
  Calls Tryz.prog 54 #[tab (.slice (some ⟨b,off,none⟩) l.length c),Qb3 a p] w fun e w'=>e=.returned (.int .i64 (Qg6 l a p))/\Below w.heap.size w w':=by
 have M:=Q02 L;clear L;obtain⟨J,n⟩:∃W,((w.alloc (.cells #[.slice (some ⟨b,off,none⟩) l.length c] 91)).alloc (.cells #[.int .i64 a,.int .i64 p] 36))=W:=⟨_,rfl⟩;have s:=alb0v0v2 n;have x:=Q02 s;clear s;have m:=alz0v0v2 n
 have A:J.cell? ⟨w.heap.size,0,none⟩=some (.slice (some ⟨b,off,none⟩) l.length c):=by rw[<-n];simp[go_sem]
 have h:=alz0v1v2 n;obtain⟨y,z⟩:=alc2v1v2 n;have F:=Qhl b off c l a p J Y X U (Kbq E x.out.size) (fun i hi j V=>(x.out.cell (p:=⟨b,off+i * Q0g.k+j,none⟩) E).trans (M.out i hi j V));obtain⟨r,H⟩:∃r,Qg6 l a p=r:=⟨_,rfl⟩;rw[H];obtain⟨q,G⟩:∃q,Qbd l a p=q:=⟨_,rfl⟩;obtain⟨f,D⟩:∃f,(Q1n l a p).2=f:=⟨_,rfl⟩;rw[G,D]at F
 have I:Hid (r=if f=true then q.v else -1):=by unfold Hid;rw[<-H,<-G,<-D];rfl
 clear G D H;go_enter Tryz.func54,Tryz.ntmps54;go_wp2_with fail;refine(F).mono ?_;rintro e Z ⟨rfl,C⟩;replace A:=bC C A m;replace m:=Kbq m C.size;replace y:=bC C y h;replace z:=bC C z h;replace h:=Kbq h C.size;replace x:=Q02 (x.out.trans (C.mono x.out.size));clear C;clear F;obtain⟨W2,B⟩:∃W,(Z.alloc (.cells #[.bool q.u,.int .i64 q.a,.int .i64 q.p,.int .i64 q.v,.int .i64 q.t] 165))=W:=⟨_,rfl⟩;have g:=alb0v0v1 B;replace A:=bC g A m;replace m:=Kbq m g.size;replace y:=bC g y h;replace z:=bC g z h
 replace h:=Kbq h g.size;replace x:=Q02 (x.out.trans (g.mono x.out.size));clear g;have aa:=alz0v0v1 B;obtain⟨N,O,P,R,T⟩:=alc5v0v1 B
 cases f with
 |false=>
  go_wp2;go_ret;exact⟨Q0W (by rw[I.out];rfl),x.out⟩
 |true=>
  go_wp2;go_ret;exact⟨Q0W (by rw[I.out];rfl),x.out⟩
theorem Q36 (W:World) (B j:Nat) (v:Value):Stp B (B+1) W (W.setCell ⟨B,j,none⟩ v):=by
 have h:=(Below.refl B W).setCell (p:=⟨B,j,none⟩) (Kaq _) v;exact⟨h.os,h.tape,h.output,h.size,fun k a b=>Below.heap_setCell W ⟨B,j,none⟩ v k (by simp;omega)⟩
theorem Qjd:AppOk Q0g 30 101:=⟨Tryz.underlying30,⟨_,_,Q6Y,rfl,by decide⟩,by decide,fun a u hu=>by
 simp[Q0g]at hu;rcases hu with rfl|rfl|rfl|rfl|rfl <;> rfl⟩
theorem Stp.cell {lo hi b j:Nat} {w a:World} {u:Value} (s:Stp lo hi w a) (h:w.cell? ⟨b,j,none⟩=some u) (c:b < w.heap.size) (d:b < lo\/hi<=b):a.cell? ⟨b,j,none⟩=some u:=by
 have:=s.block b c d;simp only[World.cell?,this]at h ⊢;exact h
theorem Stp.frozen {lo hi b j:Nat} {w a:World} (s:Stp lo hi w a) (h:w.frozen? ⟨b,j,none⟩=false) (c:b < w.heap.size) (d:b < lo\/hi<=b):a.frozen? ⟨b,j,none⟩=false:=by
 have:=s.block b c d;simp only[World.frozen?,this]at h ⊢;exact h
theorem Q3H (W:World) (B k:Nat) (s:Sl):Stp B (B+1) W (((((W.setCell ⟨B,k * 5,none⟩ (.bool s.u)).setCell ⟨B,k * 5+1,none⟩ (.int .i64 s.a)).setCell ⟨B,k * 5+2,none⟩ (.int .i64 s.p)).setCell ⟨B,k * 5+3,none⟩ (.int .i64 s.v)).setCell ⟨B,k * 5+4,none⟩ (.int .i64 s.t)):=
 ((((Q36 W B _ _).trans (Q36 _ B _ _)).trans (Q36 _ B _ _)).trans (Q36 _ B _ _)).trans (Q36 _ B _ _)
theorem Q5B (b off c:Nat) (l:List Sl) (w:World) (E:b < w.heap.size) (R:∀i,i < l.length->∀j,j < Q0g.k->w.cell? ⟨b,off+i * Q0g.k+j,none⟩=(Q0g.cs (l.getD i Q0g.d))[j]?) (hl:l.length<=1048576):
  Calls Tryz.prog 170 #[tab (.slice (some ⟨b,off,none⟩) l.length c)] w fun e U=> ∃T P,e=.returned (tab (.slice T l.length P))/\Qgb U w.heap.size (.slice T l.length P) l/\Below w.heap.size w U:=by
 have X:=Q02 R;clear R;obtain⟨m,g⟩:∃W,((w.alloc (.cells #[.slice (some ⟨b,off,none⟩) l.length c] 32)).alloc (.cells #[.slice none 0 0] 32))=W:=⟨_,rfl⟩;have n:=alb0v0v2 g;have B:=Q02 n;clear n;have A:=alz0v0v2 g
 have D:m.cell? ⟨w.heap.size,0,none⟩=some (.slice (some ⟨b,off,none⟩) l.length c):=by rw[<-g];simp[go_sem]
 have r:=alz0v1v2 g
 have s:m.cell? ⟨w.heap.size+1,0,none⟩=some (.slice none 0 0):=by rw[<-g];simp[go_sem]
 have f:m.frozen? ⟨w.heap.size+1,0,none⟩=false:=by rw[<-g];simp[go_sem]
 have J:=Q02 r;have x:=B.out.size;obtain⟨y,z⟩:∃W,m.alloc (.cells #[] 101)=W:=⟨_,rfl⟩
 have H:Hid (ownL Q0g 101 y m.heap.size (.slice (some ⟨m.heap.size,0,none⟩) 0 0) []):=by rw[<-z];exact Q3q (L:=Q0g) m _
 have a:=alb0v0v1 z;replace D:=bKq0v0v0 a D A;replace A:w.heap.size < y.heap.size:=Kbq A a.size;replace s:=bKq0v0v0 a s r;replace f:y.frozen? ⟨w.heap.size+1,0,none⟩=false:=(a.frozen (p:=⟨w.heap.size+1,0,none⟩) r).trans f;replace r:w.heap.size+1 < y.heap.size:=Kbq r a.size;replace B:=Q02 (B.out.trans (a.mono B.out.size));clear a
 have u:m.heap.size<=y.heap.size:=by rw[<-z];simp
 have O:Hid (RdL Q0g w.heap.size y (some ⟨b,off,none⟩) l):=.inr ⟨b,off,rfl,E,fun i hi j Z=>(B.out.cell (p:=⟨b,off+i * Q0g.k+j,none⟩) E).trans (X.out i hi j Z)⟩;go_enter Tryz.func170,Tryz.ntmps170;go_wp2_with (at_builtin;refine Q07 Qjd rfl _ _ rfl m.heap.size _ [] rfl H.out (some ⟨b,off,none⟩) c w.heap.size l l.length rfl rfl (fun h=>by cases h) O.out ?c1 ?c2 ?_)
 case c1=>simp;omega
 case c2=>exact u
 intro v2 V t F _
 (try rw[List.nil_append]at t)
 have G:Below m.heap.size y V:=KBq.grown F u (fun q h=>(H.out.lt q h).1);have Y:=Q02 t;obtain⟨o2,c2,N,_⟩:=ownL.open (L:=Q0g) t;subst N;have C:=bKq0v0v0 G s J.out;have M:V.frozen? ⟨w.heap.size+1,0,none⟩=false:=(G.frozen (p:=⟨w.heap.size+1,0,none⟩) J.out).trans f;have I:=Q02 (B.out.trans (G.mono x));clear t F G H s f;go_wp2;refine bodyPost_ret (v:=tab (.slice o2 l.length c2)) (by simp[results,Tryz.results170,go_sem,C]) rfl ⟨_,_,rfl, ?_, ?_⟩
 ·exact Q04 (ownsRow_setCell_below Y.out (show w.heap.size+1 < m.heap.size from J.out) _) x
 ·exact I.out.setCell (p:=⟨w.heap.size+1,0,none⟩) (by simp) _
theorem QhE {l:List Sl} {a p v t:Int} (h:(Q1n l a p).1 < 0):Q6R l a p v t=l:=by unfold Q6R;rw[if_neg (by omega)]
theorem Qgq {l:List Sl} {a p v t:Int} {k:Nat} (h:(Q1n l a p).1=(k:Int)):Q6R l a p v t=l.set k ⟨true,a,p,v,t⟩:=by unfold Q6R;rw[if_pos (by omega),h];simp
theorem Qdz (l:List Sl) (c:0 < l.length) (a p:Int):(Q1n l a p).1= -1\/∃k,k < l.length/\(Q1n l a p).1=(k:Int):=by
 rcases Q2g l c a p with e|⟨k,b,⟨e,_⟩|⟨e,_⟩⟩
 ·exact .inl (by rw[e])
 ·exact .inr ⟨k,b,by rw[e]⟩
 ·exact .inr ⟨k,b,by rw[e]⟩
theorem Q68 (b off c:Nat) (l:List Sl) (a p v t:Int) (w:World) (hn:0 < l.length) (hl:l.length<=1048576) (hf:Q0o a p=true) (M:b < w.heap.size) (hc:∀i,i < l.length->∀j,j < Q0g.k->w.cell? ⟨b,off+i * Q0g.k+j,none⟩=(Q0g.cs (l.getD i Q0g.d))[j]?):
  Calls Tryz.prog 166 #[tab (.slice (some ⟨b,off,none⟩) l.length c),Qb3 a p,.int .i64 v,.int .i64 t] w fun e w'=> ∃Y P c',e=.returned (.tuple #[tab (.slice (some ⟨Y,P,none⟩) l.length c'),.bool (decide (0<=(Q1n l a p).1))])/\Y < w'.heap.size/\(∀i,i < (Q6R l a p v t).length->∀j,j < Q0g.k->w'.cell? ⟨Y,P+i * Q0g.k+j,none⟩=(Q0g.cs ((Q6R l a p v t).getD i Q0g.d))[j]?)/\Below w.heap.size w w'/\(Y=b\/w.heap.size<=Y):=by
 have HC:=Q02 hc;clear hc;obtain⟨W0,C⟩:∃W,(((w.alloc (.cells #[.slice (some ⟨b,off,none⟩) l.length c] 32)).alloc (.cells #[.int .i64 a,.int .i64 p] 36)).alloc (.cells #[.slice none 0 0] 32))=W:=⟨_,rfl⟩;have L:=alb0v0v3 C;have y:=Q02 L;clear L;have s:=alz0v0v3 C
 have B:W0.cell? ⟨w.heap.size,0,none⟩=some (.slice (some ⟨b,off,none⟩) l.length c):=by rw[<-C];simp[go_sem]
 have n:=alz0v1v3 C;obtain⟨z,A⟩:=alc2v1v3 C;have m:=alz0v2v3 C
 have x:W0.cell? ⟨w.heap.size+1+1,0,none⟩=some (.slice none 0 0):=by rw[<-C];simp[go_sem]
 have q:W0.frozen? ⟨w.heap.size+1+1,0,none⟩=false:=by rw[<-C];simp[go_sem]
 have D:=Q96 (some ⟨b,off,none⟩) c l a p W0 (.inr ⟨b,off,rfl,Kbq M y.out.size,(fun i hi j hj=>(y.out.cell (p:=⟨b,off+i * Q0g.k+j,none⟩) M).trans (HC.out i hi j hj))⟩) hn hl hf;obtain⟨E,hE⟩:∃E,Q1n l a p=E:=⟨_,rfl⟩;have HZ:=Q02 m;have am:=y.out.size
 rcases Qdz l hn a p with O|⟨k,hk,O⟩
 ·skip
  have HP:=Q02 (QhE (l:=l) (a:=a) (p:=p) (v:=v) (t:=t) (by rw[O];decide));have HD:=Q02 (show decide (0<=(Q1n l a p).1)=false by rw[O];rfl);rw[O]at D;generalize (Q1n l a p).2=E2 at D;clear hE;go_enter Tryz.func166,Tryz.ntmps166;go_wp2_with fail;refine(D).mono ?_;rintro e H ⟨rfl,r⟩;replace B:=bKq0v0v0 r B s;replace s:w.heap.size < H.heap.size:=Kbq s r.size;replace z:=bKq0v0v0 r z n;replace A:=bKq0v0v0 r A n;replace n:w.heap.size+1 < H.heap.size:=Kbq n r.size;replace x:=bKq0v0v0 r x m
  replace q:H.frozen? ⟨w.heap.size+1+1,0,none⟩=false:=(r.frozen (p:=⟨w.heap.size+1+1,0,none⟩) m).trans q;replace m:w.heap.size+1+1 < H.heap.size:=Kbq m r.size;replace y:=Q02 (y.out.trans (r.mono y.out.size));clear r;clear D;go_wp2;refine bodyPost_ret (v:=.tuple #[tab (.slice (some ⟨b,off,none⟩) l.length c),.bool false]) (by simp[results,Tryz.results166,go_sem,x]) rfl ⟨b,off,c,by rw[HD.out], ?_, ?_, ?_,.inl rfl⟩
  ·have:=y.out.size;simp;omega
  ·rw[HP.out]
   intro i hi j hj;have ae:=y.out.setCell (p:=⟨w.heap.size+1+1,0,none⟩) (by simp <;> omega) (.slice (some ⟨b,off,none⟩) l.length c);exact(ae.cell (p:=⟨b,off+i * Q0g.k+j,none⟩) M).trans (HC.out i hi j hj)
  ·exact y.out.setCell (p:=⟨w.heap.size+1+1,0,none⟩) (by simp <;> omega) _
 ·skip
  have HP:=Q02 (Qgq (l:=l) (a:=a) (p:=p) (v:=v) (t:=t) O);have HD:=Q02 (show decide (0<=(Q1n l a p).1)=true by rw[O];simp);rw[O]at D;generalize (Q1n l a p).2=E2 at D;clear hE O
  have av:(k:Int) < (l.length:Int):=by omega
  go_enter Tryz.func166,Tryz.ntmps166;go_wp2_with fail;refine(D).mono ?_;rintro e H ⟨rfl,r⟩;replace B:=bKq0v0v0 r B s;replace s:w.heap.size < H.heap.size:=Kbq s r.size;replace z:=bKq0v0v0 r z n;replace A:=bKq0v0v0 r A n;replace n:w.heap.size+1 < H.heap.size:=Kbq n r.size;replace x:=bKq0v0v0 r x m;replace q:H.frozen? ⟨w.heap.size+1+1,0,none⟩=false:=(r.frozen (p:=⟨w.heap.size+1+1,0,none⟩) m).trans q;replace m:w.heap.size+1+1 < H.heap.size:=Kbq m r.size;replace y:=Q02 (y.out.trans (r.mono y.out.size));clear r;go_wp2_with fail
  refine(Q5B b off c l H (Kbq M y.out.size) (fun i hi j hj=>(y.out.cell (p:=⟨b,off+i * Q0g.k+j,none⟩) M).trans (HC.out i hi j hj)) hl).mono ?_;rintro e U ⟨o2,c2,rfl,N,r⟩;have G:=Q02 m
  obtain⟨g,c3,ai⟩:∃g c3,Value.slice o2 l.length c2=.slice (some ⟨g,0,none⟩) l.length c3:=by
   rcases N.2 with⟨_,h0⟩|⟨g,c3,_,h0,_⟩
   ·exact absurd h0 (by omega)
   ·exact⟨g,c3,h0⟩
  injection ai with hv1 hv2 hv3;subst hv1 hv3;have V:=Q02 N;clear N;replace B:=bKq0v0v0 r B s;replace s:w.heap.size < U.heap.size:=Kbq s r.size;replace z:=bKq0v0v0 r z n;replace A:=bKq0v0v0 r A n;replace n:w.heap.size+1 < U.heap.size:=Kbq n r.size;replace x:=bKq0v0v0 r x m;replace q:U.frozen? ⟨w.heap.size+1+1,0,none⟩=false:=(r.frozen (p:=⟨w.heap.size+1+1,0,none⟩) m).trans q;replace m:w.heap.size+1+1 < U.heap.size:=Kbq m r.size;replace y:=Q02 (y.out.trans (r.mono y.out.size));clear r;have ab:=V
  obtain⟨F,T⟩:∃W,(U.alloc (.cells #[.slice (some ⟨g,0,none⟩) l.length c2] 32))=W:=⟨_,rfl⟩;have f:=alb0v0v1 T;replace B:=bKq0v0v0 f B s;replace s:w.heap.size < F.heap.size:=Kbq s f.size;replace z:=bKq0v0v0 f z n;replace A:=bKq0v0v0 f A n;replace n:w.heap.size+1 < F.heap.size:=Kbq n f.size;replace x:=bKq0v0v0 f x m;replace q:F.frozen? ⟨w.heap.size+1+1,0,none⟩=false:=(f.frozen (p:=⟨w.heap.size+1+1,0,none⟩) m).trans q;replace m:w.heap.size+1+1 < F.heap.size:=Kbq m f.size;replace V:=Q02 (Q03 V.out f)
  replace y:=Q02 (y.out.trans (f.mono y.out.size));clear f;have ak:=alz0v0v1 T
  have ac:F.cell? ⟨U.heap.size,0,none⟩=some (.slice (some ⟨g,0,none⟩) l.length c2):=by rw[<-T];simp[go_sem]
  have ag:=(V.out.lt g rfl);have J:F.ownsRow H.heap.size 101 5 (.slice (some ⟨g,0,none⟩) l.length c2) l.length (l.flatMap Q0g.cs):=V.out
  have ah:(l.flatMap Q0g.cs).length=l.length * 5:=by rw[Q0l];rfl
  obtain⟨u0,aw⟩:∃u,F.cell? ⟨g,k * 5,none⟩=some u:=⟨_,(J.cellAt (k * 5) (by omega)).trans (KGq (by omega))⟩;have ao:=J.frozenAt (k * 5);obtain⟨u1,ax⟩:∃u,F.cell? ⟨g,k * 5+1,none⟩=some u:=⟨_,(J.cellAt (k * 5+1) (by omega)).trans (KGq (by omega))⟩;have ap:=J.frozenAt (k * 5+1);obtain⟨u2,ay⟩:∃u,F.cell? ⟨g,k * 5+2,none⟩=some u:=⟨_,(J.cellAt (k * 5+2) (by omega)).trans (KGq (by omega))⟩;have aq:=J.frozenAt (k * 5+2)
  obtain⟨u3,az⟩:∃u,F.cell? ⟨g,k * 5+3,none⟩=some u:=⟨_,(J.cellAt (k * 5+3) (by omega)).trans (KGq (by omega))⟩;have ar:=J.frozenAt (k * 5+3);obtain⟨u4,aA⟩:∃u,F.cell? ⟨g,k * 5+4,none⟩=some u:=⟨_,(J.cellAt (k * 5+4) (by omega)).trans (KGq (by omega))⟩;have au:=J.frozenAt (k * 5+4);have HS:=Q02 (Q3Q (k:=k) ⟨true,a,p,v,t⟩ (Kaq g) J (Below.refl g F));have X:=Q02 (Q3H F g k ⟨true,a,p,v,t⟩);clear J ah D
  obtain⟨W3,Z⟩:∃W,((((F.setCell ⟨g,k * 5,none⟩ (.bool true)).setCell ⟨g,k * 5+1,none⟩ (.int .i64 a)).setCell ⟨g,k * 5+2,none⟩ (.int .i64 p)).setCell ⟨g,k * 5+3,none⟩ (.int .i64 v)).setCell ⟨g,k * 5+4,none⟩ (.int .i64 t)=W:=⟨_,rfl⟩
  have R:Hid (W3.ownsRow H.heap.size 101 5 (.slice (some ⟨g,0,none⟩) l.length c2) l.length ((l.set k ⟨true,a,p,v,t⟩).flatMap Q0g.cs)):=by rw[<-Z];exact HS.out.1
  have I:Hid (Stp g (g+1) F W3):=by rw[<-Z];exact X.out
  have aa:H.heap.size<=g:=ag.1
  have aj:g+1<=U.heap.size:=by have h:=(ab.out.lt g rfl).2;omega
  have an:=I.out.cell ac ak (.inr aj);have ad:=I.out.cell x m (.inl (show w.heap.size+1+1 < g from Kbq G.out aa));have al:=I.out.frozen q m (.inl (show w.heap.size+1+1 < g from Kbq G.out aa));have af:Hid (Below w.heap.size F W3):=I.out.below (by have:=G.out;omega) (by have:=G.out;omega)
  have aB:w.heap.size<=H.heap.size:=by have:=G.out;omega
  clear x q HS X;go_wp2;refine bodyPost_ret (v:=.tuple #[tab (.slice (some ⟨g,0,none⟩) l.length c2),.bool true]) (by simp[results,Tryz.results166,go_sem,ad]) rfl ⟨g,0,c2,by rw[HD.out], ?_, ?_, ?_,.inr (by have O:=(R.out.lt g rfl).1;have h2:=G.out;omega)⟩
  ·have h:=(R.out.lt g rfl).2;simpa using h
  ·rw[HP.out]
   have h:=ownsRow_setCell_below R.out (a:=⟨w.heap.size+1+1,0,none⟩) (show w.heap.size+1+1 < H.heap.size from G.out) (.slice (some ⟨g,0,none⟩) l.length c2);exact Q1i h (by simp)
  ·exact(y.out.trans af.out).setCell (p:=⟨w.heap.size+1+1,0,none⟩) (by simp <;> omega) _
def QiT (l:List Sl) (a p v t:Int):Bool:=Q0e l && Q0o a p && Q7D v t
def putB (l:List Sl) (a p v t:Int):Bool:=if QiT l a p v t=true then decide (0<=(Q1n l a p).1)else false
theorem Stp.drew {lo hi:Nat} {w w':World} (h:Stp lo hi w w'):Stp lo hi w w'.drew:=⟨h.os,h.tape,h.output,h.size,h.block⟩
def Q4o (m:List Sl):Prop:=∀j,j < m.length->(m.getD j sl0).u=true->Q0o (m.getD j sl0).a (m.getD j sl0).p=true
theorem Q28 {l:List Sl} (h:Q0e l=true):Q4o l:=fun j hj hu=>by
 have ht:=(Q0d.1 h).2.2 j hj;unfold Q3M at ht;exact((Q4L hu).1 ((Bool.and_eq_true _ _).mp ht).1).1
theorem Q5c {m:List Sl} (h:Q4o m) (i:Nat) (s:Sl) (hs:s.u=true->Q0o s.a s.p=true):Q4o (m.set i s):=fun j c b=>by
 rw[List.length_set]at c
 by_cases e:i=j
 ·subst e
  rw[Q1b _ _ _ c]at b ⊢;exact hs b
 ·rw[Q2b _ _ _ _ e]at b ⊢
  exact h j c b
structure DropInv (n:Nat) (R:List Sl) (g:Nat) (m:List Sl) (i k:Nat):Prop where
 len:m.length=n
 le:n<=16
 hi:i < n
 hk:k < n
 free:(m.getD i sl0).u=false
 ok:Q4o m
 go:Q2s n (g+1) m i k=R
 ms:Qf9 m i k<=g
theorem DropInv.done {n g i k:Nat} {R m:List Sl} (h:DropInv n R g m i k) (hu:(m.getD k sl0).u=false):m=R:=by
 rw[<-h.go,Qdh hu]
theorem DropInv.move {n g i k:Nat} {R m:List Sl} (h:DropInv n R g m i k) (p:(m.getD k sl0).u=true) (hm:Q4O n m i k=true):1<=g/\DropInv n R (g - 1) ((m.set i (m.getD k sl0)).set k sl0) k ((k+1) % n):=by
 obtain⟨c,b,hi,f,a,d,j,r⟩:=h;subst c;have s:=QfA b hi f a p hm
 have q:1<=g:=by omega
 refine⟨q,by simp,b,f,Q3f (by omega) k, ?_, ?_, ?_, ?_⟩
 ·rw[Q1b _ _ _ (by simpa using f)]
 ·exact Q5c (Q5c d i _ (fun l=>d k f l)) k _ (fun l=>by cases l)
 ·rw[<-j,QbD p hm,show g - 1+1=g by omega]
 ·omega
theorem DropInv.stay {n g i k:Nat} {R m:List Sl} (h:DropInv n R g m i k) (l:(m.getD k sl0).u=true) (hm:Q4O n m i k=false):1<=g/\DropInv n R (g - 1) m i ((k+1) % n):=by
 obtain⟨b,d,hi,q,a,j,c,r⟩:=h;subst b
 have f:k≠i:=fun e=>by rw[e,a]at l;cases l
 have s:=QeY hi q f
 have p:1<=g:=by omega
 refine⟨p,rfl,d,hi,Q3f (by omega) k,a,j, ?_,by omega⟩;rw[<-c,Qbv l hm,show g - 1+1=g by omega]
theorem DropInv.start {l:List Sl} {i:Nat} (a:l.length<=16) (hi:i < l.length) (b:Q4o l):DropInv l.length (Q1u l i) (Qf9 (l.set i sl0) i ((i+1) % l.length)) (l.set i sl0) i ((i+1) % l.length):=
 ⟨by simp,a,hi,Q3f (by omega) i,by rw[Q1b _ _ _ hi],Q5c b i _ (fun h=>by cases h),rfl,Kaq _⟩
theorem Qan {n i k:Nat} {m:List Sl}:Q4O n m i k=true↔Q1t n i k<=Q1t n (Q12 n (m.getD k sl0).a (m.getD k sl0).p) k:=by simp[Q4O]
theorem Q3N (n:Nat):∀(f:Nat) (l:List Sl) (i k:Nat),(Q2s n f l i k).length=l.length
 |0,l,i,k=>rfl
 |f+1,l,i,k=>by
  unfold Q2s
  split
  ·split
   ·rw[Q3N n f];simp
   ·rw[Q3N n f]
  ·rfl
theorem Q1p (l:List Sl) (i:Nat):(Q1u l i).length=l.length:=by unfold Q1u;rw[Q3N];simp
def Q3R (l:List Sl) (a p:Int):List Sl:=if(Q1n l a p).2=true then Q1u l (Q1n l a p).1.toNat else l
theorem Q9Q (l:List Sl) (a p:Int):(Q3R l a p).length=l.length:=by
 unfold Q3R
 split
 ·exact Q1p _ _
 ·rfl
theorem Q6S {l:List Sl} {a p:Int} (h:(Q1n l a p).2=false):Q3R l a p=l:=by unfold Q3R;rw[h];rfl
theorem Qar {l:List Sl} {a p:Int} {k:Nat} (h:Q1n l a p=((k:Int),true)):Q3R l a p=Q1u l k:=by unfold Q3R;rw[h];simp
theorem Q4C {n h d:Nat} (a:h < n) (b:d < n):Q1t n h ((h+d) % n)=d:=by
 by_cases e:h+d < n
 ·rw[Q2R e,Q0X a e,if_pos (by omega)];omega
 ·rw[Q9d (by omega) (by omega),Q0X a (by omega)]
  split <;> omega
theorem Q4E {n h x:Nat} (hh:h < n) (hx:x < n):(h+Q1t n h x) % n=x:=by
 rw[Q0X hh hx]
 split
 ·rw[Q2R (by omega)];omega
 ·rw[Q9d (by omega) (by omega)];omega
theorem Qe2 {n h x:Nat} (hh:h < n) (hx:x < n):Q1t n h x < n:=Nat.mod_lt _ (by omega)
theorem QeK {n h x y:Nat} (hh:h < n) (hx:x < n) (hy:y < n) (e:Q1t n h x=Q1t n h y):x=y:=by
 rw[<-Q4E hh hx,e,Q4E hh hy]
theorem Qh9 {n h i k:Nat} (hh:h < n) (hi:i < n) (hk:k < n) (hne:i≠k):Q1t n h i < Q1t n h k↔Q1t n i k<=Q1t n h k:=by
 rw[Q0X hh hi,Q0X hh hk,Q0X hi hk]
 (repeat' split) <;> omega
theorem QhB {n h i k:Nat} (a:h < n) (hi:i < n) (b:k < n) (c:Q1t n h i < Q1t n h k):Q1t n h k=Q1t n h i+Q1t n i k:=by
 rw[Q0X a hi,Q0X a b]at c;rw[Q0X a hi,Q0X a b,Q0X hi b]
 (repeat' split at c) <;> (repeat' split) <;> omega
theorem QgX {n i:Nat} (hi:i < n):Q1t n i i=0:=by rw[Q0X hi hi,if_pos (Kaq _)];omega
theorem Qea {n i j:Nat} (hi:i < n) (hj:j < n) (hne:i≠j):1<=Q1t n i j:=by
 rw[Q0X hi hj];split <;> omega
abbrev at' (m:List Sl) (j:Nat):Sl:=m.getD j sl0
abbrev hm (m:List Sl) (j:Nat):Nat:=Q12 m.length (at' m j).a (at' m j).p
structure Gapless (m:List Sl) (i:Nat):Prop where
 slots:Q7Z m m.length
 dist:∀x y,x < m.length->y < m.length->(at' m x).u=true->(at' m y).u=true->(at' m x).a=(at' m y).a->(at' m x).p=(at' m y).p->x=y
 gap:∀j x,j < m.length->x < m.length->(at' m j).u=true->Q1t m.length (hm m j) x < Q1t m.length (hm m j) j->(at' m x).u=true\/x=i
theorem Qaw {a p:Int}:∀{L:List Met} {E:Int × Bool},Q7v a p L=some E->∃x,x∈L/\Q3i a p x=some E
 |[],E,h=>by simp[Q7v]at h
 |x::L,E,h=>by
  unfold Q7v at h;rw[List.findSome?_cons]at h
  cases hx:Q3i a p x with
  |none=>rw[hx]at h;obtain⟨y,b,e⟩:=Qaw (L:=L) (E:=E) h;exact⟨y,List.mem_cons_of_mem _ b,e⟩
  |some E'=>rw[hx]at h;exact⟨x,List.mem_cons_self,by rw[hx];exact h⟩
theorem QaO {a p:Int}:∀{L:List Met},(∀x,x∈L->Q3i a p x=none)->Q7v a p L=none
 |[],_=>rfl
 |x::L,h=>by
  unfold Q7v;rw[List.findSome?_cons,h x List.mem_cons_self];exact QaO (L:=L) (fun y b=>h y (List.mem_cons_of_mem _ b))
theorem Qab {f:Nat->Met} {k:Nat} {x:Met}:x∈Q2W f k↔∃d,d < k/\f d=x:=by simp[Q2W]
theorem Qbx {a p:Int} {x:Met} {E:Int × Bool} (h:Q3i a p x=some E):E.1=(x.1:Int):=by
 unfold Q3i at h
 split at h
 ·split at h
  ·cases h;rfl
  ·cases h
 ·cases h;rfl
theorem Q8H {a p:Int} {x:Met}:Q3i a p x=none↔x.2.u=true/\¬(x.2.a=a/\x.2.p=p):=by
 unfold Q3i
 by_cases h1:x.2.u=true
 ·rw[if_pos h1]
  by_cases h2:x.2.a=a/\x.2.p=p
  ·rw[if_pos h2];simp[h1,h2]
  ·rw[if_neg h2];simp[h1,h2]
 ·rw[if_neg h1];simp[h1]
theorem Q54 {l:List Sl} (n:0 < l.length) {a p:Int} {j:Nat} (A:j < l.length) {f:Bool} (h:Q1n l a p=((j:Int),f)) (x:Nat) (q:x < l.length) (z:Q1t l.length (Q12 l.length a p) x < Q1t l.length (Q12 l.length a p) j):(at' l x).u=true/\¬((at' l x).a=a/\(at' l x).p=p):=by
 have c:=Q1v n a p;generalize hhe:Q12 l.length a p=h0 at *;have v:=Qe2 c q
 have i:Q32 l h0 (Q1t l.length h0 x)=(x,at' l x):=by unfold Q32;rw[Q4E c q]
 cases hs:Q3i a p (x,at' l x)with
 |none=>exact Q8H.1 hs
 |some E0=>
  exfalso
  cases hsc:Q7v a p (Q2W (Q32 l h0) (Q1t l.length h0 x+1))with
  |none=>
   rw[Q3t]at hsc
   have r:Q7v a p (Q2W (Q32 l h0) (Q1t l.length h0 x))=none:=by
    cases hq:Q7v a p (Q2W (Q32 l h0) (Q1t l.length h0 x))with
    |none=>rfl
    |some E=>rw[Qas _ _ _ _ hq]at hsc;cases hsc
   rw[Q7H _ _ _ _ r,i,hs]at hsc
   cases hsc
  |some E1=>
   have t:=Q74 (l:=l) n (a:=a) (p:=p) (k:=Q1t l.length h0 x+1) (E:=E1) (by omega) (by rw[hhe];exact hsc);obtain⟨y,w,m⟩:=Qaw hsc;obtain⟨d,s,rfl⟩:=Qab.1 w;have b:=Qbx m;rw[<-t,h]at b
   have g:j=(h0+d) % l.length:=by have:(j:Int)=((h0+d) % l.length:Nat):=b;omega
   have:=Q4C c (show d < l.length by omega);rw[<-g]at this;omega
theorem Q9m {l:List Sl} (c:0 < l.length) {a p:Int} {j:Nat} (f:j < l.length) (q:(at' l j).u=true) (g:(at' l j).a=a) (n:(at' l j).p=p) (h:∀x,x < l.length->Q1t l.length (Q12 l.length a p) x < Q1t l.length (Q12 l.length a p) j->(at' l x).u=true/\¬((at' l x).a=a/\(at' l x).p=p)):Q1n l a p=((j:Int),true):=by
 have b:=Q1v c a p;have m:=Qe2 b f;refine Q74 c (k:=Q1t l.length (Q12 l.length a p) j+1) (by omega) ?_;rw[Q3t,Q7H]
 ·unfold Q32 Q3i
  rw[Q4E b f];simp only;rw[if_pos q,if_pos ⟨g,n⟩]
 ·refine QaO ?_
  intro y s;obtain⟨d,i,rfl⟩:=Qab.1 s;have r:=Nat.mod_lt (Q12 l.length a p+d) c;refine Q8H.2 (h _ r ?_);rw[Q4C b (by omega)];exact i
theorem QdH {l:List Sl} (h:Q0e l=true) (i:Nat):Gapless l i:=by
 obtain⟨z,h2,q⟩:=Q0d.1 h
 have k:∀j,j < l.length->(at' l j).u=true->Q1n l (at' l j).a (at' l j).p=((j:Int),true):=fun j b d=>by
  have c:=((Bool.and_eq_true _ _).mp (q j b)).2;unfold Q9N at c;rw[d]at c
  simpa using c
 refine⟨fun j b=>((Bool.and_eq_true _ _).mp (q j b)).1, ?_, ?_⟩
 ·intro x y m w f g s v
  have n:=k x m f;have r:=k y w g;rw[s,v,r]at n;have:(y:Int)=x:=congrArg Prod.fst n;omega
 ·intro j x b m d t
  exact .inl (Q54 (by omega) b (k j b d) x m t).1
theorem Q9r {l:List Sl} (i:1<=l.length) (h2:l.length<=16) (hs:Q7Z l l.length)
  (k:∀x y,x < l.length->y < l.length->(at' l x).u=true->(at' l y).u=true->(at' l x).a=(at' l y).a->(at' l x).p=(at' l y).p->x=y)
  (f:∀j x,j < l.length->x < l.length->(at' l j).u=true->Q1t l.length (hm l j) x < Q1t l.length (hm l j) j->(at' l x).u=true):Q0e l=true:=by
 refine Q0d.2 ⟨i,h2,fun j b=>?_⟩
 cases hu:(at' l j).u with
 |false=>exact Q4u hu (hs j b)
 |true=>
  refine Q4x (hs j b) (Q9m (by omega) b hu rfl rfl ?_);intro x d c;refine⟨f j x b d hu c,fun ⟨g,h⟩=>?_⟩;have:=k x j d b (f j x b d hu c) hu g h;subst this;omega
structure WInv (m:List Sl) (i c:Nat):Prop where
 gl:Gapless m i
 lt:c < m.length
 seen:∀j,j < m.length->(at' m j).u=true->Q1t m.length i j<=c->¬Q1t m.length (hm m j) i < Q1t m.length (hm m j) j
theorem Q1l {m:List Sl} {i:Nat} (s:Sl) (h:i < m.length):at' (m.set i s) i=s:=Q1b m i s h
theorem Q0L {m:List Sl} {i j:Nat} (s:Sl) (h:i≠j):at' (m.set i s) j=at' m j:=Q2b m i j s h
theorem QfI {m:List Sl} {i j:Nat} (s:Sl) (h:i≠j):hm (m.set i s) j=hm m j:=by unfold hm;rw[Q0L s h,List.length_set]
theorem QfK {m:List Sl} (hn:0 < m.length) (j:Nat):hm m j < m.length:=Q1v hn _ _
theorem WInv.start {l:List Sl} {i:Nat} (h:Q0e l=true) (hi:i < l.length):WInv (l.set i sl0) i 0:=by
 have p:=QdH h i;obtain⟨w,_,_⟩:=Q0d.1 h
 have a:∀j,(at' (l.set i sl0) j).u=true->i≠j:=fun j c e=>by rw[<-e,Q1l _ hi]at c;cases c
 refine⟨⟨?_, ?_, ?_⟩,(by rw[List.length_set];omega), ?_⟩
 ·intro j b
  rw[List.length_set]at b
  by_cases e:i=j
  ·subst e;rw[Q1b _ _ _ hi];rfl
  ·rw[Q2b _ _ _ _ e];exact p.slots j b
 ·intro x y k s d f n q
  have t:=a x d;have v:=a y f;rw[List.length_set]at k s;rw[Q0L _ t]at d n q;rw[Q0L _ v]at f n q;exact p.dist x y k s d f n q
 ·intro j x b k c g
  have m:=a j c;rw[List.length_set]at b k g;rw[QfI _ m]at g;rw[Q0L _ m]at c
  by_cases e:i=x
  ·exact .inr e.symm
  ·left
   rw[Q0L _ e]
   rcases p.gap j x b k c g with r|r
   ·exact r
   ·exact absurd r.symm e
 ·intro j b c g
  have m:=a j c;rw[List.length_set]at b g;have:=Qea hi b m;omega
theorem WInv.stay {m:List Sl} {i c k:Nat} (h:WInv m i c) (hi:i < m.length) (l:k=(i+1+c) % m.length) (v:(at' m k).u=true) (a:(at' m i).u=false) (n:¬Q1t m.length i k<=Q1t m.length (hm m k) k):WInv m i (c+1):=by
 have r:0 < m.length:=by omega
 have f:k < m.length:=by rw[l];exact Nat.mod_lt _ r
 have g:i≠k:=fun e=>by rw[e,v]at a;cases a
 have d:c+1 < m.length:=by
  rcases Nat.lt_or_ge (c+1) m.length with b|b
  ·exact b
  ·exfalso
   have:=h.lt
   have e:i+1+c=i+m.length:=by omega
   rw[e,Nat.add_mod_right,Q2R hi]at l;exact g l.symm
 have s:Q1t m.length i k=c+1:=by rw[l,Nat.add_assoc,Nat.add_comm 1 c];exact Q4C hi d
 refine⟨h.gl,d,fun j q p w=>?_⟩
 rcases Nat.lt_or_ge c (Q1t m.length i j)with b|b
 ·have e:j=k:=QeK hi q f (by omega)
  subst e;intro t;exact n ((Qh9 (QfK r j) hi f g).1 t)
 ·exact h.seen j q p b
theorem WInv.move {m:List Sl} {i c k:Nat} (h:WInv m i c) (hi:i < m.length) (b:k < m.length) (B:(at' m k).u=true) (d:(at' m i).u=false) (H:Q1t m.length i k<=Q1t m.length (hm m k) k):WInv ((m.set i (at' m k)).set k sl0) k 0:=by
 have M:0 < m.length:=by omega
 have A:i≠k:=fun e=>by rw[e,B]at d;cases d
 have a:((m.set i (at' m k)).set k sl0).length=m.length:=by simp
 have N:=(Qh9 (QfK M k) hi b A).2 H
 have z:at' ((m.set i (at' m k)).set k sl0) i=at' m k:=by rw[Q0L _ (fun e=>A e.symm),Q1l _ hi]
 have J:at' ((m.set i (at' m k)).set k sl0) k=sl0:=Q1l _ (by simpa using b)
 have s:∀x,x≠i->x≠k->at' ((m.set i (at' m k)).set k sl0) x=at' m x:=fun x E h2=>by rw[Q0L _ (fun e=>h2 e.symm),Q0L _ (fun e=>E e.symm)]
 have F:hm ((m.set i (at' m k)).set k sl0) i=hm m k:=by unfold hm;rw[z,a]
 have G:∀x,x≠i->x≠k->hm ((m.set i (at' m k)).set k sl0) x=hm m x:=fun x E h2=>by unfold hm;rw[s x E h2,a]
 have q:∀x,(at' ((m.set i (at' m k)).set k sl0) x).u=true->x≠k:=fun x n e=>by rw[e,J]at n;cases n
 refine⟨⟨?_, ?_, ?_⟩,by rw[a];exact M, ?_⟩
 ·intro j t
  rw[a]at t
  by_cases e1:j=k
  ·subst e1;show Q29 (at' _ j)=true;rw[J];rfl
  ·by_cases e2:j=i
   ·subst e2;show Q29 (at' _ j)=true;rw[z];exact h.gl.slots k b
   ·show Q29 (at' _ j)=true;rw[s j e2 e1];exact h.gl.slots j t
 ·intro x y v I g l p r
  have C:=q x g;have D:=q y l;rw[a]at v I
  by_cases e1:x=i
  ·by_cases e2:y=i
   ·rw[e1,e2]
   ·rw[e1,z]at p r
    rw[s y e2 D]at l p r;exact absurd (h.gl.dist k y b I B l p r).symm D
  ·by_cases e2:y=i
   ·rw[e2,z]at p r
    rw[s x e1 C]at g p r;exact absurd (h.gl.dist x k v b g B p r) C
   ·rw[s x e1 C]at g p r
    rw[s y e2 D]at l p r;exact h.gl.dist x y v I g l p r
 ·intro j x t v f w
  have L:=q j f;rw[a]at t v w
  by_cases e1:x=k
  ·exact .inr e1
  ·left
   by_cases e2:x=i
   ·rw[e2,z];exact B
   ·rw[s x e2 e1]
    by_cases e3:j=i
    ·rw[e3,F]at w
     rcases h.gl.gap k x b v B (by omega)with n|n
     ·exact n
     ·exact absurd n e2
    ·rw[G j e3 L]at w
     rw[s j e3 L]at f
     rcases h.gl.gap j x t v f w with n|n
     ·exact n
     ·exact absurd n e2
 ·intro j t f w
  rw[a]at t w;have:=Qea b t (fun e=>q j f e.symm);omega
theorem WInv.done {m:List Sl} {i c k:Nat} (h:WInv m i c) (l:m.length<=16) (hi:i < m.length) (y:k=(i+1+c) % m.length) (a:(at' m k).u=false):Q0e m=true:=by
 have t:0 < m.length:=by omega
 have b:k < m.length:=by rw[y];exact Nat.mod_lt _ t
 refine Q9r (by omega) l h.gl.slots h.gl.dist ?_;intro j x d G g n
 rcases h.gl.gap j x d G g n with v|v
 ·exact v
 ·exfalso
  subst v
  have hs:c < Q1t m.length x j:=Nat.lt_of_not_le fun s=>h.seen j d g s n
  have F:=Qe2 hi d
  have p:Q1t m.length x k=c+1:=by rw[y,Nat.add_assoc,Nat.add_comm 1 c];exact Q4C hi (by omega)
  have q:j≠k:=fun e=>by rw[e,a]at g;cases g
  have z:Q1t m.length x k < Q1t m.length x j:=by
   rcases Nat.lt_or_ge (c+1) (Q1t m.length x j)with f|f
   ·omega
   ·exact absurd (QeK hi d b (by omega)) q
  have H:=QhB (QfK t j) hi d n
  have w:x≠k:=fun e=>by rw[e,QgX b]at p;omega
  have r:Q1t m.length (hm m j) k < Q1t m.length (hm m j) j:=by
   have:=QfK t j;have A:=Q0X this b;have B:=Q0X this hi;have C:=Q0X this d;have D:=Q0X hi b;have E:=Q0X hi d
   (repeat' split at A) <;> (repeat' split at B) <;> (repeat' split at C) <;> (repeat' split at D) <;> (repeat' split at E) <;> omega
  rcases h.gl.gap j k d b g r with f|f
  ·rw[f]at a;cases a
  ·exact w f.symm
theorem Q6a {n:Nat} {R:List Sl}:∀(g:Nat) (m:List Sl) (i c k:Nat),k=(i+1+c) % n->DropInv n R g m i k->WInv m i c->Q0e R=true
 |g,m,i,c,k,hk,hD,hW=>by
  have b:=hD.len;have hi:=hD.hi;have q:=hD.hk;have j:=hD.free
  cases hu:(m.getD k sl0).u with
  |false=>
   rw[<-hD.done hu];exact hW.done (by have:=hD.le;omega) (by omega) (by rw[b];exact hk) hu
  |true=>
   cases hm':Q4O n m i k with
   |true=>
    obtain⟨l,h⟩:=hD.move hu hm';obtain⟨d,rfl⟩:∃d,g=d+1:=⟨g - 1,by omega⟩;have f:=Qan.1 hm';exact Q6a d _ k 0 _ (by rw[Nat.add_zero]) h (hW.move (by omega) (by omega) hu j (by rw[b];unfold hm;rw[b];exact f))
   |false=>
    obtain⟨l,h⟩:=hD.stay hu hm';obtain⟨d,rfl⟩:∃d,g=d+1:=⟨g - 1,by omega⟩
    have f:¬Q1t n i k<=Q1t n (Q12 n (m.getD k sl0).a (m.getD k sl0).p) k:=fun r=>by rw[Qan.2 r]at hm';cases hm'
    refine Q6a d m i (c+1) _ ?_ h (hW.stay (by omega) (by rw[b];exact hk) hu j (by rw[b];unfold hm;rw[b];exact f));rw[hk,Nat.mod_add_mod];congr 1
theorem Q8E {l:List Sl} {i:Nat} (h:Q0e l=true) (hi:i < l.length):Q0e (Q1u l i)=true:=by
 obtain⟨a,h2,_⟩:=Q0d.1 h;exact Q6a _ _ i 0 _ (by rw[Nat.add_zero]) (DropInv.start h2 hi (Q28 h)) (WInv.start h hi)
def QcG (s:Sl) (now:Int):Bool:=s.u && decide (s.t<=now)
def Q4d (l:List Sl) (now:Int):Option Nat:=(List.range l.length).find? (fun j=>QcG (at' l j) now)
def Qiy (l:List Sl) (now:Int) (k:Nat):Prop:=∀j,j < k->QcG (at' l j) now=false
theorem Q8v {l:List Sl} {now:Int} (h:Qiy l now l.length):Q4d l now=none:=by
 unfold Q4d;rw[List.find?_eq_none];intro x hx;rw[h x (List.mem_range.1 hx)];decide
theorem Qd3 {l:List Sl} {now:Int} {k:Nat} (c:k < l.length) (h:Qiy l now k) (a:QcG (at' l k) now=true):Q4d l now=some k:=by
 unfold Q4d;rw[List.find?_range_eq_some];refine⟨a,List.mem_range.2 c,fun j b=>?_⟩;rw[h j b];rfl
theorem Q66 {l:List Sl} {now:Int} {k:Nat} (h:Q4d l now=some k):k < l.length/\QcG (at' l k) now=true:=
 ⟨List.mem_range.1 (List.mem_of_find?_eq_some h),by have:=List.find?_some h;simpa using this⟩
def QcE (m:List Sl) (j:Nat):Nat:=if(at' m j).u=true then 1 else 0
def cnt (m:List Sl):Nat:=Q7G m.length (QcE m)
theorem Qc3:∀(n:Nat) {f:Nat->Nat},(∀x,f x<=1)->Q7G n f<=n
 |0,_,_=>Kaq _
 |n+1,f,h=>by simp only[Q7G];have:=Qc3 n h;have:=h n;omega
theorem Qi8 (m:List Sl):cnt m<=m.length:=Qc3 _ (fun x=>by unfold QcE;split <;> omega)
theorem QbI {m:List Sl} {i:Nat} (hi:i < m.length) (s:Sl):cnt (m.set i s)+QcE m i=cnt m+(if s.u=true then 1 else 0):=by
 unfold cnt;rw[List.length_set];have h:=Q5g m.length (f:=QcE (m.set i s)) (g:=QcE m) hi (fun x a=>by unfold QcE;rw[Q0L s (fun e=>a e.symm)]);rw[show QcE (m.set i s) i=if s.u=true then 1 else 0 by unfold QcE;rw[Q1l s hi]]at h;exact h
theorem Q9e {n:Nat} {R:List Sl}:∀(g:Nat) (m:List Sl) (i k:Nat),DropInv n R g m i k->cnt R=cnt m
 |g,m,i,k,hD=>by
  have d:=hD.len;have hi:=hD.hi;have p:=hD.hk
  cases hu:(m.getD k sl0).u with
  |false=>rw[<-hD.done hu]
  |true=>
   cases hm':Q4O n m i k with
   |true=>
    obtain⟨l,b⟩:=hD.move hu hm';obtain⟨a,rfl⟩:∃a,g=a+1:=⟨g - 1,by omega⟩;rw[Q9e a _ _ _ b]
    have c:i≠k:=fun e=>by have h:=hD.free;rw[e,hu]at h;cases h
    have f:=QbI (m:=m) (i:=i) (by omega) (m.getD k sl0);have j:=QbI (m:=m.set i (m.getD k sl0)) (i:=k) (by rw[List.length_set];omega) sl0
    have q:QcE m i=0:=by unfold QcE;rw[show(at' m i).u=false from hD.free];rfl
    have c2:QcE (m.set i (m.getD k sl0)) k=1:=by unfold QcE;rw[Q0L _ c,show(at' m k).u=true from hu];rfl
    rw[hu,if_pos rfl]at f;rw[if_neg (by decide)]at j;omega
   |false=>
    obtain⟨l,b⟩:=hD.stay hu hm';obtain⟨a,rfl⟩:∃a,g=a+1:=⟨g - 1,by omega⟩;exact Q9e a _ _ _ b
theorem Q8N {l:List Sl} {i:Nat} (h:Q0e l=true) (hi:i < l.length) (a:(at' l i).u=true):cnt (Q1u l i)+1=cnt l:=by
 obtain⟨c,h2,_⟩:=Q0d.1 h;rw[Q9e _ _ _ _ (DropInv.start h2 hi (Q28 h))];have e:=QbI (m:=l) hi sl0
 have b:QcE l i=1:=by unfold QcE;rw[a];rfl
 rw[if_neg (by decide)]at e;omega
def Q8p (now:Int):Nat->List Sl->Nat->List Sl × Nat
 |0,l,c=>(l,c)
 |f+1,l,c=>match Q4d l now with
  |none=>(l,c)
  |some i=>Q8p now f (Q1u l i) (c+1)
def Q8x (l:List Sl) (now:Int):List Sl × Nat:=Q8p now (cnt l+1) l 0
structure ExpInv (n:Nat) (now:Int) (R:List Sl × Nat) (g:Nat) (m:List Sl) (c:Nat):Prop where
 ok:Q0e m=true
 len:m.length=n
 ms:cnt m<=g
 go:Q8p now (g+1) m c=R
 bd:c+cnt m<=16
theorem ExpInv.start {l:List Sl} {now:Int} (h:Q0e l=true):ExpInv l.length now (Q8x l now) (cnt l) l 0:=
 ⟨h,rfl,Kaq _,rfl,by have:=Qi8 l;have:=(Q0d.1 h).2.1;omega⟩
theorem ExpInv.done {n g c:Nat} {now:Int} {R:List Sl × Nat} {m:List Sl} (h:ExpInv n now R g m c) (hd:Q4d m now=none):R=(m,c):=by
 rw[<-h.go];unfold Q8p;rw[hd]
theorem ExpInv.step {n g c i:Nat} {now:Int} {R:List Sl × Nat} {m:List Sl} (h:ExpInv n now R g m c) (b:Q4d m now=some i):1<=g/\i < n/\(at' m i).u=true/\c+1<=16/\ExpInv n now R (g - 1) (Q1u m i) (c+1):=by
 obtain⟨a,h2⟩:=Q66 b
 have d:(at' m i).u=true:=by unfold QcG at h2;exact((Bool.and_eq_true _ _).mp h2).1
 have l:=Q8N h.ok a d;have k:=h.ms;have f:=h.bd
 have j:1<=g:=by omega
 refine⟨j,by rw[<-h.len];exact a,d,by omega,Q8E h.ok a,by rw[Q1p];exact h.len,by omega, ?_,by omega⟩;rw[<-h.go,show g - 1+1=g by omega]
 conv=>rhs;unfold Q8p
 rw[b]
theorem Qie {m:List Sl} {i:Nat} (h:Q0e m=true) (hi:i < m.length) (c:(at' m i).u=true):Q1n m (at' m i).a (at' m i).p=((i:Int),true):=by
 have b:=((Bool.and_eq_true _ _).mp ((Q0d.1 h).2.2 i hi)).2;unfold Q9N at b;rw[show(m.getD i sl0).u=true from c]at b
 simpa using b
theorem Q6z (now:Int):∀(f:Nat) (l:List Sl) (c:Nat),(Q8p now f l c).1.length=l.length
 |0,l,c=>rfl
 |f+1,l,c=>by
  unfold Q8p
  cases hd:Q4d l now with
  |none=>rfl
  |some i=>rw[Q6z now f];exact Q1p l i
theorem Qbn (l:List Sl) (now:Int):(Q8x l now).1.length=l.length:=Q6z now _ l 0
theorem Qh7 {l:List Sl} {a p v t:Int} {k:Nat} {f:Bool} (h:Q0e l=true) (z:Q0o a p=true) (hv:0<=v/\v<=100000) (w:0<=t/\t<=200000) (s:k < l.length) (r:Q1n l a p=((k:Int),f)):Q0e (l.set k ⟨true,a,p,v,t⟩)=true:=by
 obtain⟨A,h2,y⟩:=Q0d.1 h;have b:(l.set k ⟨true,a,p,v,t⟩).length=l.length:=List.length_set;have hs:=Q1l (m:=l) ⟨true,a,p,v,t⟩ s;refine Q0d.2 ⟨by omega,by omega,fun i hi=>?_⟩;rw[b]at hi
 by_cases hik:k=i
 ·subst hik
  refine Q4x ?_ ?_
  ·rw[show(l.set k ⟨true,a,p,v,t⟩).getD k sl0=⟨true,a,p,v,t⟩from hs]
   exact(Q4L rfl).2 ⟨z,hv.1,hv.2,w.1,w.2⟩
  ·rw[show(l.set k ⟨true,a,p,v,t⟩).getD k sl0=⟨true,a,p,v,t⟩from hs]
   refine Q9m (by omega) (by omega) (by rw[hs]) (by rw[hs]) (by rw[hs]) (fun x g c=>?_);rw[b]at g c
   have n:k≠x:=fun e=>by rw[e]at c;exact absurd c (Nat.lt_irrefl _)
   rw[Q0L _ n];exact Q54 (by omega) s r x g c
 ·have d:=Q0L (m:=l) ⟨true,a,p,v,t⟩ hik
  have q:=(Bool.and_eq_true _ _).mp (y i hi)
  cases hu:(at' l i).u with
  |false=>exact Q4u (by rw[show(l.set k ⟨true,a,p,v,t⟩).getD i sl0=at' l i from d];exact hu) (by rw[show(l.set k ⟨true,a,p,v,t⟩).getD i sl0=at' l i from d];exact q.1)
  |true=>
   have j:=Qie h hi hu;refine Q4x ?_ ?_
   ·rw[show(l.set k ⟨true,a,p,v,t⟩).getD i sl0=at' l i from d];exact q.1
   ·rw[show(l.set k ⟨true,a,p,v,t⟩).getD i sl0=at' l i from d]
    refine Q9m (by omega) (by omega) (by rw[d];exact hu) (by rw[d]) (by rw[d]) (fun x g c=>?_);rw[b]at g c
    by_cases hkx:k=x
    ·subst hkx
     rw[hs];refine⟨rfl,fun e=>hik ?_⟩;rw[<-e.1,<-e.2,r]at j;injection j with j _;omega
    ·rw[Q0L _ hkx]
     exact Q54 (by omega) hi j x g c
theorem Qbz {l:List Sl} {a p v t:Int} (h:Q0e l=true) (b:Q0o a p=true) (hv:0<=v/\v<=100000) (d:0<=t/\t<=200000):Q0e (Q6R l a p v t)=true:=by
 have f:=(Q0d.1 h).1
 rcases Q2g l (by omega) a p with e|⟨k,c,⟨e,_⟩|⟨e,_⟩⟩
 ·unfold Q6R;rw[e,if_neg (by decide)];exact h
 ·unfold Q6R;rw[e,if_pos (by simp)];simpa using Qh7 h b hv d c e
 ·unfold Q6R;rw[e,if_pos (by simp)];simpa using Qh7 h b hv d c e
def QgP (m:List Sl) (s:Sl):Prop:=∃j,j < m.length/\at' m j=s
theorem Qga {m:List Sl} {i k:Nat} {s:Sl} (hi:i < m.length) (g:k < m.length) (f:i≠k) (a:(at' m i).u=false) (hs:s.u=true):QgP ((m.set i (at' m k)).set k sl0) s↔QgP m s:=by
 have d:((m.set i (at' m k)).set k sl0).length=m.length:=by rw[List.length_set,List.length_set]
 have c:k < (m.set i (at' m k)).length:=by rw[List.length_set];exact g
 constructor
 ·rintro⟨j,b,e⟩
  rw[d]at b
  by_cases hjk:k=j
  ·subst hjk
   rw[Q1l _ c]at e;rw[<-e]at hs;cases hs
  ·rw[Q0L _ hjk]at e
   by_cases hji:i=j
   ·subst hji
    rw[Q1l _ hi]at e;exact⟨k,g,e⟩
   ·rw[Q0L _ hji]at e
    exact⟨j,b,e⟩
 ·rintro⟨j,b,e⟩
  by_cases hji:i=j
  ·subst hji
   rw[e,hs]at a;cases a
  ·by_cases hjk:k=j
   ·subst hjk
    exact⟨i,by rw[d];exact hi,by rw[Q0L _ (fun h=>f h.symm),Q1l _ hi];exact e⟩
   ·exact⟨j,by rw[d];exact b,by rw[Q0L _ hjk,Q0L _ hji];exact e⟩
theorem Q9t {n:Nat} {R:List Sl} {s:Sl} (hs:s.u=true):∀(g:Nat) (m:List Sl) (i k:Nat),DropInv n R g m i k->(QgP R s↔QgP m s)
 |g,m,i,k,hD=>by
  have d:=hD.len;have hi:=hD.hi;have j:=hD.hk
  cases hu:(m.getD k sl0).u with
  |false=>rw[<-hD.done hu]
  |true=>
   cases hm':Q4O n m i k with
   |true=>
    obtain⟨f,b⟩:=hD.move hu hm';obtain⟨a,rfl⟩:∃a,g=a+1:=⟨g - 1,by omega⟩
    have c:i≠k:=fun e=>by have h:=hD.free;rw[e,hu]at h;cases h
    exact(Q9t hs a _ _ _ b).trans (Qga (by omega) (by omega) c hD.free hs)
   |false=>
    obtain⟨f,b⟩:=hD.stay hu hm';obtain⟨a,rfl⟩:∃a,g=a+1:=⟨g - 1,by omega⟩;exact Q9t hs a _ _ _ b
theorem QcW {l:List Sl} {i:Nat} (h:Q0e l=true) (hi:i < l.length) {s:Sl} (hs:s.u=true):QgP (Q1u l i) s↔∃j,j < l.length/\j≠i/\at' l j=s:=by
 rw[Q9t hs _ _ _ _ (DropInv.start (Q0d.1 h).2.1 hi (Q28 h))]
 constructor
 ·rintro⟨j,a,e⟩
  rw[List.length_set]at a
  by_cases hji:i=j
  ·subst hji
   rw[Q1l _ hi]at e;rw[<-e]at hs;cases hs
  ·rw[Q0L _ hji]at e
   exact⟨j,a,fun h=>hji h.symm,e⟩
 ·rintro⟨j,a,b,e⟩
  exact⟨j,by rw[List.length_set];exact a,by rw[Q0L _ (fun h=>b h.symm)];exact e⟩
end Go.Proofs.YtpneolgdghbinaaGreat
