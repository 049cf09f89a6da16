/- Several texts in one: SPw2, SPn, SOwn4, SPNew, SBBox, SRepl, SRepl2, RcP, BalIn. -/
import Derived.Great.BuildSlice
import Derived.Test.YtpneolgdghbinaaGreatQCrashesL27
namespace Go.Proofs.YtpneolgdghbinaaGreat
open Go.ChangeShapes Go.WideShapes Go.ChangeAt Go.RowKit Go.Joins
set_option linter.unusedVariables false
set_option linter.unusedSimpArgs false
set_option maxRecDepth 100000
set_option maxHeartbeats 40000000
def Q1T:Lay Pt:=⟨24,ptL,ptZ,fun _=>rfl⟩
theorem Qh3:(Tryz.prog.info? 188).map (fun i=>(i.zero,i.size,i.bytes))=some (some (.agg #[.bool false,.int .i64 0,.int .i64 0,.bool false,.int .i64 0,.int .i64 0,.bool false,.int .i64 0,.int .i64 0,.bool false,.int .i64 0,.int .i64 0,.bool false,.int .i64 0,.int .i64 0,.bool false,.int .i64 0,.int .i64 0,.bool false,.int .i64 0,.int .i64 0,.bool false,.int .i64 0,.int .i64 0]),24,192):=by kernel_rfl
theorem Qhc (f:Pt):∀u∈Q1T.cs f,u.oneCell'=true:=fun v hv=>by
 have b:v∈ptL f:=hv;unfold ptL at b;simp only[List.mem_flatMap,Qgs,List.mem_cons,List.not_mem_nil,or_false]at b;obtain⟨a,_,rfl|rfl|rfl⟩:=b <;> rfl
theorem Qiv:AppOk Q1T 125 188:=⟨Tryz.underlying125,⟨_,_,Qh3,rfl,by decide⟩,by decide,Qhc⟩
theorem QhZ (f:Pt) (s:Nat) (z:Value) (hs:s=24) (a:z.cells.size=24):Instr.fill (fun i=>some (i * s,s)) ((Array.range (1 * s)).map (z.cells[· % z.cells.size]!)) [(0,ptv f)]=some (ptA f):=by
 subst hs;have h:=Great.fill_whole (s:=24) (by decide) [ptv f] ((Array.range (1 * 24)).map (z.cells[· % z.cells.size]!)) (fun v hv=>by simp at hv;subst hv;rfl) (by simp)
 simpa[ptv,Value.cells]using h
theorem Q22 {b:Array Oper} {rest:List Oper} {o:Oper} {a:Act} {w:World} {Q:Exit->Act->World->Prop} (c:o.guard=none) (x:Operand) (d:o.op=.buildSlice 125 1 #[(0,x)]) (f:Pt) (g:a.eval x=ptv f)
  (h:wpList Tryz.prog b Q rest (a.put o.dst (.slice (some ⟨w.heap.size,0,none⟩) 1 1)) (w.alloc (.cells (ptA f) 188))):wpList Tryz.prog b Q (o::rest) a w:=by
 have hi:=Qh3
 cases hq:Tryz.prog.info? 188 with
 |none=>simp[hq]at hi
 |some i=>
  simp[hq]at hi;refine wpList_buildSlice c _ 188 1 _ d (ptA f) i _ Tryz.underlying125 hq hi.1 (by rw[hi.2.1];decide) (by rw[hi.2.1];decide) ?_ h;simp only[List.map_toArray,List.map_cons,List.map_nil,g];exact QhZ f _ _ hi.2.1 rfl
theorem Q5x (w:World) (f:Pt):ownL Q1T 188 (w.alloc (.cells (ptA f) 188)) w.heap.size (.slice (some ⟨w.heap.size,0,none⟩) 1 1) [f]:=
 ⟨by simp[Q1T,QaY],.inr ⟨w.heap.size,1,ptA f,rfl,Kaq _,heap_alloc_new w _,by simp,by unfold maxLen;omega,by rw[Qcc];rfl,by simp[Q1T,ptA];exact List.take_of_length_le (by rw[QaY];exact Kaq _)⟩⟩
theorem Q0v {C:Nat} {w W:World} {B:Nat} (h:Below C w W) (hB:C<=B) (x y z:Value):Below C w (setP W B x y z):=((h.setCell (p:=⟨B,0,none⟩) hB _).setCell (p:=⟨B,1,none⟩) hB _).setCell (p:=⟨B,2,none⟩) hB _
theorem Q6T {C:Nat} {w:World} {o:Option Addr} {a:List Pt} (h:RdL Q1T C w o a):RdL Q1T C w o (a.take 2):=by
 rcases h with h|⟨b,off,k,f,r⟩
 ·left;rw[h];rfl
 ·refine .inr ⟨b,off,k,f,fun i hi j g=>?_⟩
  have c:i < 2:=by simp at hi;omega
  have h2:i < a.length:=by simp at hi;omega
  have e:(a.take 2).getD i Q1T.d=a.getD i Q1T.d:=by simp[KFq,List.getElem?_take,c]
  rw[e];exact r i h2 j g
abbrev Q6p (key:Int) (vb vr:Value):Value:=.agg #[.int .i64 key,vb,vr]
theorem Qim (key:Int) (ob:Option Addr) (nb T:Nat) (B:Option Addr) (F:Nat) (o:Option Addr) (cap:Nat) (l:List Bk) (w:World) (U:RdL Q1T w.heap.size w B ([]:List Pt)) (hc:0<=F) (hn:B=none->F=0) (V:RdK w.heap.size w o l) (H:l.length<=1048576) (Y:Q1D key=true) (Z:Q0b l=true):
  Calls Tryz.prog 68 #[Q6p key (.slice ob nb T) (.slice B 0 F),.slice o l.length cap] w fun e w'=> ∃o2 c2,e=.returned (Q6p key (.slice o l.length cap) (.slice o2 ((Q2y key l::([]:List Pt).take 2).length) c2))/\ownL Q1T 188 w' w.heap.size (.slice o2 ((Q2y key l::([]:List Pt).take 2).length) c2) (Q2y key l::([]:List Pt).take 2)/\Below w.heap.size w w':=by
 obtain⟨W0,m⟩:∃W,((w.alloc (.cells #[.int .i64 key,.slice ob nb T,.slice B 0 F] 127)).alloc (.cells #[.int .i64 0,.slice none 0 0,.slice none 0 0] 127))=W:=⟨_,rfl⟩;have p:=alb0v0v2 m;have d:=Q02 p;clear p;have q:=alz0v0v2 m;obtain⟨C,D,E⟩:=alc3v0v2 m;have c:=alz0v1v2 m;obtain⟨x,y,z⟩:=alc3v1v2 m;obtain⟨g,i,j⟩:=alf3v1v2 m;have aa:=c;have P:=Q02 (Q1z key o cap l W0 ((V.kept d.out (Kaq _)).le d.out.size) H Y Z);have HG:=Q02 (show RdL Q1T w.heap.size w B ([]:List Pt)from Q6T U);clear V U Y Z;obtain⟨f,X⟩:∃f,Q2y key l=f:=⟨_,rfl⟩
 rw[X]at P ⊢;clear X;go_enter Tryz.func68,Tryz.ntmps68;go_wp2_with fail;refine(P.out).mono ?_;rintro e A ⟨rfl,n⟩;replace C:=bC n C q;replace D:=bC n D q;replace E:=bC n E q;replace q:=Kbq q n.size;replace x:=bC n x c;replace y:=bC n y c;replace z:=bC n z c;replace g:=bF n g c;replace i:=bF n i c;replace j:=bF n j c;replace c:=Kbq c n.size;replace d:=Q02 (d.out.trans (n.mono d.out.size));clear n;have I:=d.out.size;obtain⟨J,r⟩:∃W,A.alloc (.cells (ptA f) 188)=W:=⟨_,rfl⟩;have a:=alb0v0v1 r
 have N:=Q02 (show ownL Q1T 188 J A.heap.size (.slice (some ⟨A.heap.size,0,none⟩) 1 1) [f]by rw[<-r];exact Q5x A f);have t:A.heap.size<=J.heap.size:=a.size;have u:=c;replace C:=bC a C q;replace D:=bC a D q;replace E:=bC a E q;replace q:=Kbq q a.size;replace x:=bC a x c;replace y:=bC a y c;replace z:=bC a z c;replace g:=bF a g c;replace i:=bF a i c;replace j:=bF a j c;replace c:=Kbq c a.size;replace d:=Q02 (d.out.trans (a.mono d.out.size));clear a
 go_wp2_with (first|(refine Q22 rfl (.tmp 9) rfl f rfl ?_;rw[r])|(at_builtin;refine Q07 Qiv rfl (.tmp 11) (.tmp 18) rfl A.heap.size _ [f] rfl N.out B F J.heap.size ([]:List Pt) 0 rfl rfl hn ((HG.out.kept d.out (Kaq _)).le d.out.size) (by simp) t ?_));intro v6 w6 s G _;obtain⟨o6,R,e6,_⟩:=ownL.open (L:=Q1T) s;subst e6
 have b:Below A.heap.size J w6:=KBq.mono t|>.grown G t (fun k h=>(N.out.lt k h).1)
 have O:=Q02 s;clear s G N;replace C:=bC b C (show _ < _ by omega);replace D:=bC b D (show _ < _ by omega);replace E:=bC b E (show _ < _ by omega);replace x:=bC b x (show _ < _ by omega);replace g:=bF b g (show _ < _ by omega);replace y:=bC b y (show _ < _ by omega);replace i:=bF b i (show _ < _ by omega);replace z:=bC b z (show _ < _ by omega);replace j:=bF b j (show _ < _ by omega);have M:=Q02 (d.out.trans (b.mono I));clear b d;go_wp2
 refine bodyPost_ret (v:=Q6p key (.slice o l.length cap) (.slice o6 ([f]++([]:List Pt)).length R)) (by simp[results,Tryz.results68,go_sem,x,y,z]) rfl ⟨o6,R,rfl, ?_,Q0v M.out (Nat.le_succ _) _ _ _⟩;exact Q04 (Q0j (Q0j (Q0j O.out u 0 _) u 1 _) u 2 _) I
theorem Qig (key:Int) (ob:Option Addr) (nb U:Nat) (C:Option Addr) (G:Nat) (o:Option Addr) (cap:Nat) (l:List Bk) (w:World) (a:Pt) (V:RdL Q1T w.heap.size w C ([a]:List Pt)) (hc:1<=G) (hn:C=none->G=0) (X:RdK w.heap.size w o l) (I:l.length<=1048576) (Z:Q1D key=true) (hl:Q0b l=true):
  Calls Tryz.prog 68 #[Q6p key (.slice ob nb U) (.slice C 1 G),.slice o l.length cap] w fun e w'=> ∃o2 c2,e=.returned (Q6p key (.slice o l.length cap) (.slice o2 ((Q2y key l::([a]:List Pt).take 2).length) c2))/\ownL Q1T 188 w' w.heap.size (.slice o2 ((Q2y key l::([a]:List Pt).take 2).length) c2) (Q2y key l::([a]:List Pt).take 2)/\Below w.heap.size w w':=by
 obtain⟨W0,n⟩:∃W,((w.alloc (.cells #[.int .i64 key,.slice ob nb U,.slice C 1 G] 127)).alloc (.cells #[.int .i64 0,.slice none 0 0,.slice none 0 0] 127))=W:=⟨_,rfl⟩;have q:=alb0v0v2 n;have g:=Q02 q;clear q;have r:=alz0v0v2 n;obtain⟨D,E,F⟩:=alc3v0v2 n;have d:=alz0v1v2 n;obtain⟨y,z,A⟩:=alc3v1v2 n;obtain⟨i,j,m⟩:=alf3v1v2 n;have aa:=d;have R:=Q02 (Q1z key o cap l W0 ((X.kept g.out (Kaq _)).le g.out.size) I Z hl);have HG:=Q02 (show RdL Q1T w.heap.size w C ([a]:List Pt)from Q6T V);clear X V Z hl;obtain⟨f,Y⟩:∃f,Q2y key l=f:=⟨_,rfl⟩
 rw[Y]at R ⊢;clear Y;go_enter Tryz.func68,Tryz.ntmps68;go_wp2_with fail;refine(R.out).mono ?_;rintro e B ⟨rfl,p⟩;replace D:=bC p D r;replace E:=bC p E r;replace F:=bC p F r;replace r:=Kbq r p.size;replace y:=bC p y d;replace z:=bC p z d;replace A:=bC p A d;replace i:=bF p i d;replace j:=bF p j d;replace m:=bF p m d;replace d:=Kbq d p.size;replace g:=Q02 (g.out.trans (p.mono g.out.size));clear p;have J:=g.out.size;obtain⟨M,s⟩:∃W,B.alloc (.cells (ptA f) 188)=W:=⟨_,rfl⟩;have b:=alb0v0v1 s
 have O:=Q02 (show ownL Q1T 188 M B.heap.size (.slice (some ⟨B.heap.size,0,none⟩) 1 1) [f]by rw[<-s];exact Q5x B f);have u:B.heap.size<=M.heap.size:=b.size;have x:=d;replace D:=bC b D r;replace E:=bC b E r;replace F:=bC b F r;replace r:=Kbq r b.size;replace y:=bC b y d;replace z:=bC b z d;replace A:=bC b A d;replace i:=bF b i d;replace j:=bF b j d;replace m:=bF b m d;replace d:=Kbq d b.size;replace g:=Q02 (g.out.trans (b.mono g.out.size));clear b
 go_wp2_with (first|(refine Q22 rfl (.tmp 9) rfl f rfl ?_;rw[s])|(at_builtin;refine Q07 Qiv rfl (.tmp 11) (.tmp 18) rfl B.heap.size _ [f] rfl O.out C G M.heap.size ([a]:List Pt) 1 rfl rfl hn ((HG.out.kept g.out (Kaq _)).le g.out.size) (by simp) u ?_));intro v6 w6 t H _;obtain⟨o6,T,e6,_⟩:=ownL.open (L:=Q1T) t;subst e6
 have c:Below B.heap.size M w6:=KBq.mono u|>.grown H u (fun k h=>(O.out.lt k h).1)
 have P:=Q02 t;clear t H O;replace D:=bC c D (show _ < _ by omega);replace E:=bC c E (show _ < _ by omega);replace F:=bC c F (show _ < _ by omega);replace y:=bC c y (show _ < _ by omega);replace i:=bF c i (show _ < _ by omega);replace z:=bC c z (show _ < _ by omega);replace j:=bF c j (show _ < _ by omega);replace A:=bC c A (show _ < _ by omega);replace m:=bF c m (show _ < _ by omega);have N:=Q02 (g.out.trans (c.mono J));clear c g;go_wp2
 refine bodyPost_ret (v:=Q6p key (.slice o l.length cap) (.slice o6 ([f]++([a]:List Pt)).length T)) (by simp[results,Tryz.results68,go_sem,y,z,A]) rfl ⟨o6,T,rfl, ?_,Q0v N.out (Nat.le_succ _) _ _ _⟩;exact Q04 (Q0j (Q0j (Q0j P.out x 0 _) x 1 _) x 2 _) J
theorem Qio (key:Int) (ob:Option Addr) (nb V:Nat) (D:Option Addr) (H:Nat) (o:Option Addr) (cap:Nat) (l:List Bk) (w:World) (a b:Pt) (X:RdL Q1T w.heap.size w D ([a,b]:List Pt)) (hc:2<=H) (hn:D=none->H=0) (Y:RdK w.heap.size w o l) (J:l.length<=1048576) (hk:Q1D key=true) (hl:Q0b l=true):
  Calls Tryz.prog 68 #[Q6p key (.slice ob nb V) (.slice D 2 H),.slice o l.length cap] w fun e w'=> ∃o2 c2,e=.returned (Q6p key (.slice o l.length cap) (.slice o2 ((Q2y key l::([a,b]:List Pt).take 2).length) c2))/\ownL Q1T 188 w' w.heap.size (.slice o2 ((Q2y key l::([a,b]:List Pt).take 2).length) c2) (Q2y key l::([a,b]:List Pt).take 2)/\Below w.heap.size w w':=by
 obtain⟨W0,p⟩:∃W,((w.alloc (.cells #[.int .i64 key,.slice ob nb V,.slice D 2 H] 127)).alloc (.cells #[.int .i64 0,.slice none 0 0,.slice none 0 0] 127))=W:=⟨_,rfl⟩;have r:=alb0v0v2 p;have i:=Q02 r;clear r;have s:=alz0v0v2 p;obtain⟨E,F,G⟩:=alc3v0v2 p;have g:=alz0v1v2 p;obtain⟨z,A,B⟩:=alc3v1v2 p;obtain⟨j,m,n⟩:=alf3v1v2 p;have aa:=g;have T:=Q02 (Q1z key o cap l W0 ((Y.kept i.out (Kaq _)).le i.out.size) J hk hl);have HG:=Q02 (show RdL Q1T w.heap.size w D ([a,b]:List Pt)from Q6T X);clear Y X hk hl;obtain⟨f,Z⟩:∃f,Q2y key l=f:=⟨_,rfl⟩
 rw[Z]at T ⊢;clear Z;go_enter Tryz.func68,Tryz.ntmps68;go_wp2_with fail;refine(T.out).mono ?_;rintro e C ⟨rfl,q⟩;replace E:=bC q E s;replace F:=bC q F s;replace G:=bC q G s;replace s:=Kbq s q.size;replace z:=bC q z g;replace A:=bC q A g;replace B:=bC q B g;replace j:=bF q j g;replace m:=bF q m g;replace n:=bF q n g;replace g:=Kbq g q.size;replace i:=Q02 (i.out.trans (q.mono i.out.size));clear q;have M:=i.out.size;obtain⟨N,t⟩:∃W,C.alloc (.cells (ptA f) 188)=W:=⟨_,rfl⟩;have c:=alb0v0v1 t
 have P:=Q02 (show ownL Q1T 188 N C.heap.size (.slice (some ⟨C.heap.size,0,none⟩) 1 1) [f]by rw[<-t];exact Q5x C f);have x:C.heap.size<=N.heap.size:=c.size;have y:=g;replace E:=bC c E s;replace F:=bC c F s;replace G:=bC c G s;replace s:=Kbq s c.size;replace z:=bC c z g;replace A:=bC c A g;replace B:=bC c B g;replace j:=bF c j g;replace m:=bF c m g;replace n:=bF c n g;replace g:=Kbq g c.size;replace i:=Q02 (i.out.trans (c.mono i.out.size));clear c
 go_wp2_with (first|(refine Q22 rfl (.tmp 9) rfl f rfl ?_;rw[t])|(at_builtin;refine Q07 Qiv rfl (.tmp 11) (.tmp 18) rfl C.heap.size _ [f] rfl P.out D H N.heap.size ([a,b]:List Pt) 2 rfl rfl hn ((HG.out.kept i.out (Kaq _)).le i.out.size) (by simp) x ?_));intro v6 w6 u I _;obtain⟨o6,U,e6,_⟩:=ownL.open (L:=Q1T) u;subst e6
 have d:Below C.heap.size N w6:=KBq.mono x|>.grown I x (fun k h=>(P.out.lt k h).1)
 have R:=Q02 u;clear u I P;replace E:=bC d E (show _ < _ by omega);replace F:=bC d F (show _ < _ by omega);replace G:=bC d G (show _ < _ by omega);replace z:=bC d z (show _ < _ by omega);replace j:=bF d j (show _ < _ by omega);replace A:=bC d A (show _ < _ by omega);replace m:=bF d m (show _ < _ by omega);replace B:=bC d B (show _ < _ by omega);replace n:=bF d n (show _ < _ by omega);have O:=Q02 (i.out.trans (d.mono M));clear d i;go_wp2
 refine bodyPost_ret (v:=Q6p key (.slice o l.length cap) (.slice o6 ([f]++([a,b]:List Pt)).length U)) (by simp[results,Tryz.results68,go_sem,z,A,B]) rfl ⟨o6,U,rfl, ?_,Q0v O.out (Nat.le_succ _) _ _ _⟩;exact Q04 (Q0j (Q0j (Q0j R.out y 0 _) y 1 _) y 2 _) M
theorem Qiq (key:Int) (ob:Option Addr) (nb X:Nat) (E:Option Addr) (I:Nat) (o:Option Addr) (cap:Nat) (l:List Bk) (w:World) (a b c:Pt) (Y:RdL Q1T w.heap.size w E ([a,b,c]:List Pt)) (hc:3<=I) (hn:E=none->I=0) (Z:RdK w.heap.size w o l) (M:l.length<=1048576) (hk:Q1D key=true) (hl:Q0b l=true):
  Calls Tryz.prog 68 #[Q6p key (.slice ob nb X) (.slice E 3 I),.slice o l.length cap] w fun e w'=> ∃o2 c2,e=.returned (Q6p key (.slice o l.length cap) (.slice o2 ((Q2y key l::([a,b,c]:List Pt).take 2).length) c2))/\ownL Q1T 188 w' w.heap.size (.slice o2 ((Q2y key l::([a,b,c]:List Pt).take 2).length) c2) (Q2y key l::([a,b,c]:List Pt).take 2)/\Below w.heap.size w w':=by
 obtain⟨W0,q⟩:∃W,((w.alloc (.cells #[.int .i64 key,.slice ob nb X,.slice E 3 I] 127)).alloc (.cells #[.int .i64 0,.slice none 0 0,.slice none 0 0] 127))=W:=⟨_,rfl⟩;have s:=alb0v0v2 q;have j:=Q02 s;clear s;have t:=alz0v0v2 q;obtain⟨F,G,H⟩:=alc3v0v2 q;have i:=alz0v1v2 q;obtain⟨A,B,C⟩:=alc3v1v2 q;obtain⟨m,n,p⟩:=alf3v1v2 q;have aa:=i;have U:=Q02 (Q1z key o cap l W0 ((Z.kept j.out (Kaq _)).le j.out.size) M hk hl);have HG:=Q02 (show RdL Q1T w.heap.size w E ([a,b]:List Pt)from Q6T Y);clear Z Y hk hl;obtain⟨f,hf⟩:∃f,Q2y key l=f:=⟨_,rfl⟩
 rw[hf]at U ⊢;clear hf;go_enter Tryz.func68,Tryz.ntmps68;go_wp2_with fail;refine(U.out).mono ?_;rintro e D ⟨rfl,r⟩;replace F:=bC r F t;replace G:=bC r G t;replace H:=bC r H t;replace t:=Kbq t r.size;replace A:=bC r A i;replace B:=bC r B i;replace C:=bC r C i;replace m:=bF r m i;replace n:=bF r n i;replace p:=bF r p i;replace i:=Kbq i r.size;replace j:=Q02 (j.out.trans (r.mono j.out.size));clear r;have N:=j.out.size;obtain⟨O,u⟩:∃W,D.alloc (.cells (ptA f) 188)=W:=⟨_,rfl⟩;have d:=alb0v0v1 u
 have R:=Q02 (show ownL Q1T 188 O D.heap.size (.slice (some ⟨D.heap.size,0,none⟩) 1 1) [f]by rw[<-u];exact Q5x D f);have y:D.heap.size<=O.heap.size:=d.size;have z:=i;replace F:=bC d F t;replace G:=bC d G t;replace H:=bC d H t;replace t:=Kbq t d.size;replace A:=bC d A i;replace B:=bC d B i;replace C:=bC d C i;replace m:=bF d m i;replace n:=bF d n i;replace p:=bF d p i;replace i:=Kbq i d.size;replace j:=Q02 (j.out.trans (d.mono j.out.size));clear d
 go_wp2_with (first|(refine Q22 rfl (.tmp 9) rfl f rfl ?_;rw[u])|(at_builtin;refine Q07 Qiv rfl (.tmp 11) (.tmp 18) rfl D.heap.size _ [f] rfl R.out E I O.heap.size ([a,b]:List Pt) 2 rfl rfl hn ((HG.out.kept j.out (Kaq _)).le j.out.size) (by simp) y ?_));intro v6 w6 x J _;obtain⟨o6,V,e6,_⟩:=ownL.open (L:=Q1T) x;subst e6
 have g:Below D.heap.size O w6:=KBq.mono y|>.grown J y (fun k h=>(R.out.lt k h).1)
 have T:=Q02 x;clear x J R;replace F:=bC g F (show _ < _ by omega);replace G:=bC g G (show _ < _ by omega);replace H:=bC g H (show _ < _ by omega);replace A:=bC g A (show _ < _ by omega);replace m:=bF g m (show _ < _ by omega);replace B:=bC g B (show _ < _ by omega);replace n:=bF g n (show _ < _ by omega);replace C:=bC g C (show _ < _ by omega);replace p:=bF g p (show _ < _ by omega);have P:=Q02 (j.out.trans (g.mono N));clear g j;go_wp2
 refine bodyPost_ret (v:=Q6p key (.slice o l.length cap) (.slice o6 ([f]++([a,b]:List Pt)).length V)) (by simp[results,Tryz.results68,go_sem,A,B,C]) rfl ⟨o6,V,rfl, ?_,Q0v P.out (Nat.le_succ _) _ _ _⟩;exact Q04 (Q0j (Q0j (Q0j T.out z 0 _) z 1 _) z 2 _) N
theorem Q9L (key:Int) (k:Option Addr) (j i:Nat) (h:Option Addr) (g:Nat) (o:Option Addr) (cap:Nat) (l:List Bk) (w:World) (f:List Pt) (t:f.length<=3) (m:RdL Q1T w.heap.size w h f) (p:f.length<=g) (s:h=none->g=0) (n:RdK w.heap.size w o l) (d:l.length<=1048576) (q:Q1D key=true) (r:Q0b l=true):
  Calls Tryz.prog 68 #[Q6p key (.slice k j i) (.slice h f.length g),.slice o l.length cap] w fun e v=> ∃u c2,e=.returned (Q6p key (.slice o l.length cap) (.slice u ((Q2y key l::f.take 2).length) c2))/\ownL Q1T 188 v w.heap.size (.slice u ((Q2y key l::f.take 2).length) c2) (Q2y key l::f.take 2)/\Below w.heap.size w v:=by
 match f,t with
 |[],_=>exact Qim key k j i h g o cap l w m p s n d q r
 |[a],_=>exact Qig key k j i h g o cap l w a m p s n d q r
 |[a,b],_=>exact Qio key k j i h g o cap l w a b m p s n d q r
 |[a,b,c],_=>exact Qiq key k j i h g o cap l w a b c m p s n d q r
theorem Qg8 {W:World} {g:Nat} {f:Pt} (a:W.heap[g]? =some (.cells (ptA f) 188 (0,0))):W.rangeAt g 0 (ptL f):=fun j v hv=>by
 rw[Nat.zero_add,cell_of_row _ _ j (ptA f) _ (0,0) a]
 simpa[ptA]using hv
theorem Q1q {w c:World} {b o:Nat} {cs:List Value} (h:w.rangeAt b o cs) (d:Below w.heap.size w c) (a:b < w.heap.size):c.rangeAt b o cs:=fun j v hv=>(d.cell (p:=⟨b,o+j,none⟩) a).trans (h j v hv)
theorem Q7r {w:World} {b o B:Nat} {cs:List Value} (h:w.rangeAt b o cs) (hne:b≠B) (j:Nat) (u:Value):(w.setCell ⟨B,j,none⟩ u).rangeAt b o cs:=fun i v hv=>(Q1h hne).trans (h i v hv)
theorem Q59 {w f:World} {b o:Nat} {cs:List Value} {r:Option Nat} (h:w.rangeAt b o cs) (g:w.grownBy f r) (a:b < w.heap.size) (c:some b≠r):f.rangeAt b o cs:=fun j v hv=>by
 have d:=h j v hv;have h2:=g.block b a c;simp only[World.cell?,h2]at d ⊢;exact d
theorem Q2O (W:World) (B:Nat) (x y z:Value):(setP W B x y z).heap.size=W.heap.size:=by simp[World.setCell]
theorem Qj5 {a W:World} {B:Nat} {key:Int} {b:Option Addr} {c2:Nat} {l:List Bk} {n p q:Value} (i:W.heap[B]? =some (.cells #[n,p,q] 29 (0,0))) (m:Below a.heap.size a W) (h:a.heap.size<=B) (k:Q1e W a.heap.size (.slice b l.length c2) l):
  ∃B' j g,Value.pointer (some ⟨B,0,none⟩)=.pointer (some ⟨B',0,none⟩)/\Hid ((setP W B (.int .i64 key) (.slice b l.length c2) (.slice none 0 0)).heap[B']? =some (.cells #[.int .i64 key,.slice j l.length g,.slice none 0 0] 29 (0,0)))/\Hid (Below a.heap.size a (setP W B (.int .i64 key) (.slice b l.length c2) (.slice none 0 0)))/\a.heap.size<=B'/\B' < (setP W B (.int .i64 key) (.slice b l.length c2) (.slice none 0 0)).heap.size/\Hid (Q1e (setP W B (.int .i64 key) (.slice b l.length c2) (.slice none 0 0)) a.heap.size (.slice j l.length g) l):=by
 have c:=Q05 i 0 (.int .i64 key);have d:=Q05 c 1 (.slice b l.length c2);have f:=Q05 d 2 (.slice none 0 0);exact⟨B,b,c2,rfl,f,Q0v m h _ _ _,h,(KEq f),Q0p (Q0p (Q0p k i Q8b 0 _) c Q8b 1 _) d Q8b 2 _⟩
theorem Qi9 {a W:World} {key:Int} {b:Option Addr} {c2:Nat} {l:List Bk} (c:Below a.heap.size a W) (g:Q1e W a.heap.size (.slice b l.length c2) l):
  ∃B' f d,Value.pointer (some ⟨W.heap.size,0,none⟩)=.pointer (some ⟨B',0,none⟩)/\Hid ((W.alloc (.cells #[.int .i64 key,.slice b l.length c2,.slice none 0 0] 29)).heap[B']? =some (.cells #[.int .i64 key,.slice f l.length d,.slice none 0 0] 29 (0,0)))/\Hid (Below a.heap.size a (W.alloc (.cells #[.int .i64 key,.slice b l.length c2,.slice none 0 0] 29)))/\a.heap.size<=B'/\B' < (W.alloc (.cells #[.int .i64 key,.slice b l.length c2,.slice none 0 0] 29)).heap.size/\Hid (Q1e (W.alloc (.cells #[.int .i64 key,.slice b l.length c2,.slice none 0 0] 29)) a.heap.size (.slice f l.length d) l):=
 ⟨W.heap.size,b,c2,rfl,World.alloc_heap_new W _,c.alloc c.size _,c.size,by simp,Q03 g (KBq.alloc (Kaq _) _)⟩
theorem Rw.grow {α:Type} {Q:Nat->Nat->World->Value->α->Prop} {d:α} {c:List α} {a b:Nat} {w k:World} {hs:List Hd} {L H:Nat->Nat} {r:Option Nat} (f:Stps Q) (h:Rw Q d c a b w hs L H) (j:w.grownBy k r) (l:∀i,i < c.length->∀g,r=some g->g < L i\/H i<=g):Rw Q d c a b k hs L H:=by
 cases r with
 |none=>exact h.step f (Stp.grown (lo:=0) (hi:=0) j (fun b e=>by cases e)) (fun i _=> .inl (Kcq _))
 |some g=>exact h.step f (Stp.grown (lo:=g) (hi:=g+1) j (fun b e=>by injection e with e;omega)) (fun i hi=>by have:=l i hi g rfl;omega)
theorem Q7m {w:World} {o:Option Addr} {n c:Nat} {T:TypeId}:RdL Q0E (w.alloc (.cells #[.slice o n c] T)).heap.size (w.alloc (.cells #[.slice o n c] T)) (some ⟨w.heap.size,0,none⟩) [(o,n,c)]:=
 .inr ⟨w.heap.size,0,rfl,by simp,fun i hi j b=>by
  have a:i=0:=by simpa using hi
  subst a
  match j,b with
  |0,_=>simp[Q0E]⟩
theorem RdL.range {w:World} {b off:Nat} {a:List Pt} (h:∀i,i < a.length->∀j,j < Q1T.k->w.cell? ⟨b,off+i * Q1T.k+j,none⟩=(Q1T.cs (a.getD i Q1T.d))[j]?) (i:Nat) (hi:i < a.length):w.rangeAt b (off+i * 24) (ptL (a.getD i ptZ)):=fun j v hv=>by
 have c:j < 24:=by have:=(List.getElem?_eq_some_iff.1 hv).1;rw[QaY]at this;exact this
 exact(h i hi j c).trans hv
theorem Qib {B:Nat} {w wc wr:World} {g:Option Addr} {c:List Pt} (h:RdL Q1T w.heap.size w g c) (l:Below w.heap.size w wc) (s:Stp B (B+1) wc wr) (q:w.heap.size<=B):RdL Q1T w.heap.size wr g c:=by
 rcases h with h|⟨b,off,n,a,r⟩
 ·exact .inl h
 ·refine .inr ⟨b,off,n,a,fun i hi j m=>?_⟩
  have f:=(l.cell (p:=⟨b,off+i * Q1T.k+j,none⟩) a).trans (r i hi j m);have t:(Q1T.cs (c.getD i Q1T.d)).length=Q1T.k:=Q1T.len _;rw[KGq (by omega)]at f ⊢;exact s.cellP f (.inl (show b < B by omega))
theorem QcA {a hi c:Nat} {wr:World} {d:Option Addr} {hs:List Hd} {L H:Nat->Nat} {b:List Pt} {n:Nat} (f:n=b.length) (h:Rw InT [] ((b.map Q41).take n) a hi wr hs L H) (g:ownL Q0E 51 wr a (.slice d n c) hs):ownL Q0E 51 wr a (.slice d n c) hs/\Rw InT [] (b.map Q41) a hi wr hs L H:=by
 rw[f,show b.length=(b.map Q41).length by simp,List.take_length]at h;exact⟨g,h⟩
theorem QhQ {oQ:Option Addr} {n cQ:Nat} {L H:Nat->Nat} {fs:List Pt} (hn:n=fs.length) (h:Qhe (.slice oQ n cQ) n L H):Qhe (.slice oQ n cQ) (fs.map Q41).length L H:=by
 rw[List.length_map,<-hn];exact h
theorem Q33 (W:World) (B:Nat) (x y z:Value):Stp B (B+1) W (setP W B x y z):=((Q0w W B 0 x).trans (Q0w _ B 1 y)).trans (Q0w _ B 2 z)
theorem QgR (a:List Pt) (i:Nat) (h:i < a.length):(a.map Q41).take (i+1)=(a.map Q41).take i++[Q41 (a.getD i ptZ)]:=by
 have b:i < (a.map Q41).length:=by rw[List.length_map];exact h
 rw[List.take_succ_eq_append_getElem b];simp[h]
theorem Rw.more {a p:World} {b b0 l2 n:Nat} {hs:List Hd} {L H:Nat->Nat} {d:List (List (List Int))} {x:List (List Int)} {u m:Option Addr} {f t r:Nat} {O:Obj} (h:Rw InT [] d b b0 a hs L H) (l:d.length=n) (w:b0<=l2) (hm:b<=l2) (y:l2<=a.heap.size) (q:InT l2 a.heap.size a (.slice u t r) x) (c:Qhe (.slice m n f) n L H) (j:∀g,(Value.slice m n f).ownBlock=some g->g < b0) (s:(a.alloc O).grownBy p (Value.slice m n f).ownBlock):
  Rw InT [] (d++[x]) b p.heap.size p (hs++[(u,t,r)]) (fun i=>if i < n then L i else l2) (fun i=>if i < n then H i else a.heap.size):=by
 subst l;have v:=h.snoc w hm y q;have h2:=v.kept InT.stp ((Below.refl a.heap.size a).alloc (Kaq _) O);have k:=s.size;rw[World.size_alloc]at k;refine(h2.grow InT.stp s (fun i hi g e=>?_)).mono (Kaq _) (by omega)
 by_cases hi':i < d.length
 ·simp only[hi',if_true];exact c i hi' g e
 ·simp only[hi',if_false];have:=j g e;omega
theorem Q6O {B:Nat} {wc b c:World} {O:Obj} {r:Option Nat} (s:Stp B (B+1) wc b) (a:(b.alloc O).grownBy c r) (i:∀g,r=some g->wc.heap.size<=g):Stp B (B+1) wc c:=by
 have hs:=s.size;have d:=a.size;rw[World.size_alloc]at d;refine⟨a.os.trans s.os,a.tape.trans s.tape,a.output.trans s.output,by omega,fun k f h=>?_⟩;exact(a.block k (by simp;omega) (fun e=>by have:=i k e.symm;omega)).trans ((Below.heap_alloc b O k (by omega)).trans (s.block k f h))
theorem InPm.mono {lo a hi:Nat} {w:World} {v:Value} {m:Pm} (h:InPm lo hi w v m) (d:a<=lo):InPm a hi w v m:=by
 obtain⟨g,i,b,e,j,f,c,h2⟩:=h;exact⟨g,i,b,e,by omega,f,InRow.mono c d (Kaq _),h2⟩
theorem QiD:(119:TypeId)≠51:=by decide
theorem Q9s {c:World} {b0 l2:Nat} {L H:Nat->Nat} {n:Nat} {k j:Option Addr} {f d:Nat} {O:Obj} (b:Qhe (.slice k n f) n L H) (l:∀i,i < n->H i<=b0) (p:b0<=l2) (q:l2<=c.heap.size) (h:∀g,(Value.slice k n f).ownBlock=some g->g < b0) (a:(Value.slice j (n+1) d).ownBlock=(Value.slice k n f).ownBlock\/(Value.slice j (n+1) d).ownBlock=some (c.alloc O).heap.size):
  Qhe (.slice j (n+1) d) (n+1) (fun i=>if i < n then L i else l2) (fun i=>if i < n then H i else c.heap.size):=fun i hi g e=>by
 rcases a with a|a
 ·rw[a]at e
  by_cases hi':i < n
  ·simp only[hi',if_true];exact b i hi' g e
  ·simp only[hi',if_false];have:=h g e;omega
 ·rw[a,World.size_alloc]at e
  have m:c.heap.size+1=g:=Option.some.inj e
  by_cases hi':i < n
  ·simp only[hi',if_true];have:=l i hi';omega
  ·simp only[hi',if_false];omega
theorem QfT (key:Int) (o:Option Addr) (cap:Nat) (l:List Bk) (oR:Option Addr) (cR:Nat) (fs:List Pt) (n:Nat) (a7:n=fs.length) (w:World) (hR:RdK w.heap.size w o l) (hn:o=none->cap=0) (a6:l.length<=1048576) (hG:RdL Q1T w.heap.size w oR fs) (bL:n<=1048576):
  Calls Tryz.prog 69 #[Q6p key (.slice o l.length cap) (.slice oR n cR)] w fun e w'=> ∃v,e=.returned v/\InPm w.heap.size w'.heap.size w' v ⟨key,l,fs.map Q41⟩/\Below w.heap.size w w':=by
 have aK:=Q02 a7;clear a7;obtain⟨t,ac⟩:∃W,((w.alloc (.cells #[.int .i64 key,.slice o l.length cap,.slice oR n cR] 127)).alloc (.cells #[.int .i64 0,.slice none 0 0,.slice none 0 0] 29))=W:=⟨_,rfl⟩;have aB:=alb0v0v2 ac;have HB:=Q02 aB;clear aB;have zz:=alz0v0v2 ac;obtain⟨z0,z1,z2⟩:=alc3v0v2 ac;have zr:=alz0v1v2 ac;obtain⟨r0,r1,r2⟩:=alc3v1v2 ac;obtain⟨ay,az,aA⟩:=alf3v1v2 ac;have bf:=Q02 (show t.heap[w.heap.size+1]? =some (.cells #[.int .i64 0,.slice none 0 0,.slice none 0 0] 29 (0,0))by rw[<-ac];exact Q1P w _ _ _);have bq:=zr;have bH:=zz
 have a0:=Q02 (fun W (y:Below t.heap.size t W)=>Q1K o cap l W ((hR.kept (HB.out.trans (y.mono HB.out.size)) (Kaq _)).le (Kdq HB.out.size y.size)) hn a6);have HG:=Q02 hG;clear hR hG;go_enter Tryz.func69,Tryz.ntmps69;go_upto_region 1 with fail
 go_cut [3]from 6 to 11 (fun s3 wx=> ∃B o2 c2,s3=.pointer (some ⟨B,0,none⟩)/\Hid (wx.heap[B]? =some (.cells #[.int .i64 key,.slice o2 l.length c2,.slice none 0 0] 29 (0,0)))/\Hid (Below t.heap.size t wx)/\t.heap.size<=B/\B < wx.heap.size/\Hid (Q1e wx t.heap.size (.slice o2 l.length c2) l))
 case first=>
  go_region_held3 (fun w'=>w'.cell? ⟨w.heap.size,0,none⟩=some (.int .i64 key)/\w'.cell? ⟨w.heap.size,1,none⟩=some (.slice o l.length cap)) (first|with_reducible exact⟨aF,aG⟩|with_reducible exact⟨z0,z1⟩|with_reducible exact⟨Q06 aF zz,Q06 aG zz⟩|go_keep) (first|(go_at_call 119;have aC:=a0.out t.drew (KHq KBq);with_reducible refine aC.mono ?_;clear aC;rintro e x0 ⟨v2,rfl,V,y⟩;have T:Below t.heap.size t x0:=Below.trans (show Below t.heap.size t t.drew from(KHq KBq)) (y.mono (by simp));have bu:=T.size;obtain⟨o2,c2,e2,_⟩:=ownL.open (L:=Q16) V;subst e2;have V:=Q04 V (show t.heap.size<=_ by(try simp));have aF:=bC T z0 zz;have aG:=bC T z1 zz;clear y)|(go_at_call 119;have aC:=a0.out (t.alloc (.cells #[.int .i64 0,.slice none 0 0,.slice none 0 0] 29)).drew (KHq (KBq.alloc (Kaq _) _));with_reducible refine aC.mono ?_;clear aC;rintro e x0 ⟨v2,rfl,V,y⟩;have T:Below t.heap.size t x0:=Below.trans (show Below t.heap.size t (t.alloc (.cells #[.int .i64 0,.slice none 0 0,.slice none 0 0] 29)).drew from(KHq (KBq.alloc (Kaq _) _))) (y.mono (by simp));have bu:=T.size;obtain⟨o2,c2,e2,_⟩:=ownL.open (L:=Q16) V;subst e2;have V:=Q04 V (show t.heap.size<=_ by(try simp));have aF:=bC T z0 zz;have aG:=bC T z1 zz;have Z:=Q34 y;have bG:=(KEq Z);have bk:=Q00 Z 0 _ rfl;have bn:=Q01 Z 0;have bl:=Q00 Z 1 _ rfl;have bo:=Q01 Z 1;have bm:=Q00 Z 2 _ rfl;have bp:=Q01 Z 2;clear y))
  all_goals (go_wp2_with fail;go_meet)
  all_goals first
   |with_reducible exact Qj5 Z T (Kaq _) V
   |with_reducible exact Qi9 T V
 case rest=>
  obtain⟨B,o2,c2,rfl,bh,a4,bI,aX,a5⟩:=hcut;have y:=a4.out;have bj:=y.size;have aZ:=Q02 (y.block _ bq);clear a4;replace z0:=bC y z0 zz;replace z1:=bC y z1 zz;replace z2:=bC y z2 zz;replace zz:=Kbq zz y.size;replace r0:=bC y r0 zr;replace r1:=bC y r1 zr;replace r2:=bC y r2 zr;replace ay:=bF y ay zr;replace az:=bF y az zr;replace aA:=bF y aA zr;replace zr:=Kbq zr y.size;replace HB:=Q02 (HB.out.trans (y.mono HB.out.size));clear y;have bg:=Q02 ((aZ.out).trans bf.out);have aY:=HB
  have be:=Q02 (fun b (e:(Value.slice o2 l.length c2).ownBlock=some b)=>(a5.out.lt b e).2);have bE:=z2;have bA:=r0;have bB:=r1;have bD:=r2;have bv:=ay;have bw:=az;have bx:=aA;clear z0 z1 r0 r1 r2 ay az aA;go_wp2
  go_loopw [15] (fun iv wr=> ∃(i:Nat) (hs:List Hd) (L H:Nat->Nat) (R:Option Addr) (M:Nat),i<=n/\iv=.int .i64 (i:Int)/\Hid (wr.heap[B]? =some (.cells #[.int .i64 key,.slice o2 l.length c2,.slice R i M] 29 (0,0)))/\Hid (ownL Q0E 51 wr wc.heap.size (.slice R i M) hs)/\Hid (Rw InT [] ((fs.map Q41).take i) wc.heap.size wr.heap.size wr hs L H)/\Hid (Qhe (.slice R i M) i L H)/\Hid (Q1e wr t.heap.size (.slice o2 l.length c2) l)/\wc.heap.size<=wr.heap.size/\Hid (Stp B (B+1) wc wr))
   (fun iv _=>n - (intOf iv).toNat)
  case atStart=>exact⟨0,[],fun _=> 0,fun _=> 0,none,0,Kcq _,rfl,bh.out,KLq _ _ _ _,by rw[List.take_zero];exact Rw.nil _ _ _ _ _ _ _,fun i hi=>absurd hi (KMq _),a5.out,Kaq _,Stp.refl _⟩
  case round=>
   obtain⟨i,hs,L,H,R,M,bM,rfl,aH,ao,ar,C,aW,bi,av⟩:=hrel
   have bN:B≠w.heap.size:=by omega
   have bJ:B≠w.heap.size+1:=by omega
   have bb:=Q02 (fun (p:Addr) u (hp:p.block < t.heap.size) (h:wc.cell? p=some u)=>av.out.cellP h (by omega))
   by_cases hlt:i < n
   ·skip
    have bz:(i:Int) < (n:Int):=by omega
    skip
    have aP:i < fs.length:=by rw[<-aK.out];exact hlt
    have a1:=Q02 (show RdL Q1T w.heap.size wr oR fs from Qib HG.out aY.out av.out (show w.heap.size<=B by omega))
    rcases a1.out with hh|⟨b,off,rfl,bK,aT⟩
    ·rw[hh]at aP;exact absurd aP (KMq _)
    have a2:=Q02 (RdL.range aT i aP);have aM:=Q02 (QgR fs i aP);clear aT a1;obtain⟨f,hf⟩:∃f,fs.getD i ptZ=f:=⟨_,rfl⟩;rw[hf]at a2 aM;clear hf;obtain⟨W2,aO⟩:∃W,wr.alloc (.cells (ptA f) 188)=W:=⟨_,rfl⟩;have ad:=alb0v0v1 aO
    have a8:W2.heap[wr.heap.size]? =some (.cells (ptA f) 188 (0,0)):=by rw[<-aO];exact World.alloc_heap_new wr _
    have aQ:=(ad.block B (by omega)).trans aH.out;have aU:=(KEq aQ);have aL:=Q02 (show W2.rangeAt wr.heap.size 0 (ptL f)from Qg8 a8);clear a8;have p2:W2.cell? ⟨B,2,none⟩=some (.slice R i M):=Q00 aQ 2 _ rfl;have a3:=Q02 aQ;have ap:=Q02 (Q03 ao.out ad);have au:=Q02 (ar.out.kept InT.stp ad);have aR:=Q02 (Q03 aW.out ad);have aS:=Q02 (av.out.trans (Stp.of ad));have ak:wr.heap.size<=W2.heap.size:=ad.size;have x:=Q02 (fun g (e:(Value.slice R i M).ownBlock=some g)=>(ao.out.lt g e).2)
    have aV:=Q02 (fun j (hj:j < i)=>(ar.out.bd j (by rw[List.length_take,List.length_map];omega)).2);have aJ:=Q02 (show((fs.map Q41).take i).length=i by rw[List.length_take,List.length_map];omega);clear ad aQ ao ar aW;go_wp2_with (first|(refine wpList_load_mid rfl 188 (.tmp 17) rfl b (off+i * 24) rfl (ptL f) _ a2.out ptU rfl ptI ?_)|(refine Q0M rfl (.tmp 5) (.tmp 18) rfl wr.heap.size f ptZ rfl rfl (World.alloc_heap_new wr _) ?_;rw[World.setRow_alloc_new,aO]))
    skip
    have ai:=Q02 (show hs.length=i by have:=au.out.len;rw[aJ.out]at this;exact this);have aj:=Q02 (fun g (e:(Value.slice R i M).ownBlock=some g)=>(ap.out.lt g e).1);refine wp_region_held_drew (S:=fun w'=>w'.rangeAt wr.heap.size 0 (ptL f)) (by kernel_rfl) aL.out (fun hHeld=>?_);refine wpAnyH_take (i:=2) (oi:=_) (v:=ptv f) rfl (by kernel_rfl) (by kernel_rfl) (by kernel_rfl) (fun _ _ _ h=>h) (yieldsIf_load_mid (by rfl) _ _ rfl wr.heap.size 0 rfl (ptL f) _ (fun w h=>h) ptU rfl ptI) hHeld ?_
    try simp only[Act.put,List.setIfInBounds_toArray,List.set_cons_zero,List.set_cons_succ]
    refine wpAnyH_take (i:=0) (oi:=_) (v:=.pointer (some ⟨B,2,none⟩)) rfl (by kernel_rfl) (by kernel_rfl) (by kernel_rfl) (fun _ _ _ h=>h) (Or.inl ⟨by rfl,fun w _=>by go_simp⟩) hHeld ?_
    try simp only[Act.put,List.setIfInBounds_toArray,List.set_cons_zero,List.set_cons_succ]
    have bt:W2.drew.rangeAt wr.heap.size 0 (ptL f):=aL.out;have a9:=alz0v0v1 aO;refine wpAnyH_ready (rs:=[1,3]) (by kernel_rfl) (by simp) ?_;refine AllReadyH.cons rfl (fun K hK=>?_) ?_
    ·skip
     go_simp
     refine hK.out _ _ bt (fun hHeld=>?_);clear hK K
     try simp only[Act.put,List.setIfInBounds_toArray,List.set_cons_zero,List.set_cons_succ]
     refine wpAnyH_ready (rs:=[3]) (by kernel_rfl) (by simp) ?_;refine AllReadyH.cons rfl (fun K hK=>?_) ?_
     ·skip
      go_simp
      go_at_call 120;refine(Qad f _).mono ?_;rintro e c ⟨v4,rfl,G,a⟩;replace a:Below W2.heap.size W2 c:=(KHq KBq).trans a;replace G:InT W2.heap.size c.heap.size c v4 (Q41 f):=G;obtain⟨P,J,e4,_⟩:=RiT.rd (InT.ri G);rw[Q3W]at e4;subst e4;have U:=(a.block B aU).trans a3.out;have N:=(KEq U);have p4:c.cell? ⟨B,2,none⟩=some (.slice R i M):=Q00 U 2 _ rfl
      have bs:∀O,(c.alloc O).cell? ⟨B,2,none⟩=some (.slice R i M):=(fun O=>((Below.refl c.heap.size c).alloc (Kaq _) O).cell (p:=⟨B,2,none⟩) N|>.trans p4)
      have af:=a.size;have D:=Q02 (Q03 ap.out a);have ag:=Q02 (au.out.kept InT.stp a);have A:=Q02 (Q03 aR.out a);have ah:=Q02 (aS.out.trans (Stp.of a));have aI:=Q02 G;have I:c.rangeAt wr.heap.size 0 (ptL f):=Q1q aL.out a a9;have aN:=Q02 U;clear G a U;go_wp2_with fail;refine hK.out _ _ I (fun hHeld=>?_);clear hK K
      try simp only[Act.put,List.setIfInBounds_toArray,List.set_cons_zero,List.set_cons_succ]
      refine wpAnyH_ready (rs:=[4]) (by kernel_rfl) (by simp) ?_;refine AllReadyH.cons rfl (fun K hK=>?_) ?_
      ·skip
       go_simp
       refine hK.out _ _ (Q1q I ((Below.refl c.heap.size c).alloc (Kaq _) (.cells #[.slice P 8 J] 51)) (by omega)) (fun hHeld=>?_);clear hK K
       try simp only[Act.put,List.setIfInBounds_toArray,List.set_cons_zero,List.set_cons_succ]
       refine wpAnyH_ready (rs:=[5]) (by kernel_rfl) (by simp) ?_;refine AllReadyH.cons rfl (fun K hK=>?_) ?_
       ·skip
        refine Q0n Q5Z rfl (.tmp 20) (.tmp 23) rfl wc.heap.size (.slice R i M) hs rfl (D.out.alloc (.cells #[.slice P 8 J] 51)) (some ⟨c.heap.size,0,none⟩) 1 _ [(P,8,J)] 1 rfl rfl (by simp) Q7m (by rw[ai.out];simp;omega) (by simp;omega) ?_;intro v8 m F r aa;obtain⟨k,d,e8,_⟩:=ownL.open (L:=Q0E) F;have aD:(hs++[((P,8,J):Hd)]).length=i+1:=(by rw[List.length_append,ai.out];rfl);rw[aD]at e8;subst e8;have s:=(r.block B (by simp;omega) (fun e=>by have:=x.out B e.symm;have:=aj.out B e.symm;omega)).trans ((Below.heap_alloc _ _ _ N).trans aN.out)
        have p8:m.cell? ⟨B,2,none⟩=some (.slice R i M):=Q00 s 2 _ rfl;have f8:=Q01 s 2;have ab:m.rangeAt wr.heap.size 0 (ptL f):=Q59 (Q1q I ((Below.refl c.heap.size c).alloc (Kaq _) _) (by omega)) r (by simp;omega) (fun e=>by have:=x.out _ e.symm;omega);have E:=Q02 s;have am:=Q02 F;have z:=Q02 r;have al:=Q02 aa;clear F r aa s;refine hK.out _ _ ab (fun hHeld=>?_);clear hK K
        try simp only[Act.put,List.setIfInBounds_toArray,List.set_cons_zero,List.set_cons_succ]
        refine wpAnyH_take (i:=6) (oi:=_) (v:=.pointer (some ⟨B,2,none⟩)) rfl (by kernel_rfl) (by kernel_rfl) (by kernel_rfl) (fun _ _ _ h=>h) (Or.inl ⟨by rfl,fun w _=>by go_simp⟩) hHeld ?_
        try simp only[Act.put,List.setIfInBounds_toArray,List.set_cons_zero,List.set_cons_succ]
        refine wpAnyH_ready (rs:=[7]) (by kernel_rfl) (by simp) ?_;refine AllReadyH.cons rfl (fun K hK=>?_) ?_
        ·skip
         go_simp
         refine hK.out _ _ (Q7r ab (by omega) _ _) (fun hHeld=>?_);clear hK K
         try simp only[Act.put,List.setIfInBounds_toArray,List.set_cons_zero,List.set_cons_succ]
         refine wpAnyH_done (by kernel_rfl) ?_ _;have ax:Hid ((m.setCell ⟨B,2,none⟩ (.slice k (i+1) d)).heap[B]? =some (.cells #[.int .i64 key,.slice o2 l.length c2,.slice k (i+1) d] 29 (0,0))):=Q05 E.out 2 _;have an:Hid (ownL Q0E 51 (m.setCell ⟨B,2,none⟩ (.slice k (i+1) d)) wc.heap.size (.slice k (i+1) d) (hs++[(P,8,J)])):=Q0p am.out E.out Qa4 2 _;have q:=Rw.more ag.out aJ.out ak (show wc.heap.size<=W2.heap.size by omega) af aI.out C.out x.out z.out;rw[<-aM.out]at q
         have aq:Hid (Rw InT [] ((fs.map Q41).take (i+1)) wc.heap.size (m.setCell ⟨B,2,none⟩ (.slice k (i+1) d)).heap.size (m.setCell ⟨B,2,none⟩ (.slice k (i+1) d)) (hs++[(P,8,J)]) _ _):=(q.step InT.stp (Q0w m B 2 (.slice k (i+1) d)) (fun j hj=> .inl (Kdq (show B+1<=wc.heap.size from aX) (q.bd j hj).1))).mono (Kaq _) (by simp);have aw:=Q02 (Q9s C.out aV.out ak af x.out al.out)
         have X:Hid (Q1e (m.setCell ⟨B,2,none⟩ (.slice k (i+1) d)) t.heap.size (.slice o2 l.length c2) l):=Q0p (World.ownsRow.kept (World.ownsRow.alloc A.out _) z.out (Q2B A.out D.out QiD)) E.out Q8b 2 _;have Y:=Q02 ((Q6O ah.out z.out (fun g e=>aj.out g e)).trans (Q0w m B 2 (.slice k (i+1) d)))
         have aE:wc.heap.size<=m.heap.size:=by have:=Y.out.size;simpa using this
         clear q;go_wp2;go_roundw
         case rel=>exact⟨i+1,_,_,_,k,d,by omega,by go_num,ax.out,an.out,aq.out,aw.out,X.out,by simpa using aE,Y.out⟩
         case measure=>simp[intOf];omega
        exact AllReadyH.nil
       exact AllReadyH.nil
      exact AllReadyH.nil
     exact AllReadyH.nil
    refine AllReadyH.cons rfl (fun K hK=>?_) ?_
    ·skip
     go_simp
     go_at_call 120;refine(Qad f _).mono ?_;rintro e c ⟨v4,rfl,G,a⟩;replace a:Below W2.heap.size W2 c:=(KHq KBq).trans a;replace G:InT W2.heap.size c.heap.size c v4 (Q41 f):=G;obtain⟨P,J,e4,_⟩:=RiT.rd (InT.ri G);rw[Q3W]at e4;subst e4;have U:=(a.block B aU).trans a3.out;have N:=(KEq U);have p4:c.cell? ⟨B,2,none⟩=some (.slice R i M):=Q00 U 2 _ rfl
     have bs:∀O,(c.alloc O).cell? ⟨B,2,none⟩=some (.slice R i M):=(fun O=>((Below.refl c.heap.size c).alloc (Kaq _) O).cell (p:=⟨B,2,none⟩) N|>.trans p4)
     have af:=a.size;have D:=Q02 (Q03 ap.out a);have ag:=Q02 (au.out.kept InT.stp a);have A:=Q02 (Q03 aR.out a);have ah:=Q02 (aS.out.trans (Stp.of a));have aI:=Q02 G;have I:c.rangeAt wr.heap.size 0 (ptL f):=Q1q aL.out a a9;have aN:=Q02 U;clear G a U;go_wp2_with fail;refine hK.out _ _ I (fun hHeld=>?_);clear hK K
     try simp only[Act.put,List.setIfInBounds_toArray,List.set_cons_zero,List.set_cons_succ]
     refine wpAnyH_ready (rs:=[1,4]) (by kernel_rfl) (by simp) ?_;refine AllReadyH.cons rfl (fun K hK=>?_) ?_
     ·skip
      go_simp
      refine hK.out _ _ I (fun hHeld=>?_);clear hK K
      try simp only[Act.put,List.setIfInBounds_toArray,List.set_cons_zero,List.set_cons_succ]
      refine wpAnyH_ready (rs:=[4]) (by kernel_rfl) (by simp) ?_;refine AllReadyH.cons rfl (fun K hK=>?_) ?_
      ·skip
       go_simp
       refine hK.out _ _ (Q1q I ((Below.refl c.heap.size c).alloc (Kaq _) (.cells #[.slice P 8 J] 51)) (by omega)) (fun hHeld=>?_);clear hK K
       try simp only[Act.put,List.setIfInBounds_toArray,List.set_cons_zero,List.set_cons_succ]
       refine wpAnyH_ready (rs:=[5]) (by kernel_rfl) (by simp) ?_;refine AllReadyH.cons rfl (fun K hK=>?_) ?_
       ·skip
        refine Q0n Q5Z rfl (.tmp 20) (.tmp 23) rfl wc.heap.size (.slice R i M) hs rfl (D.out.alloc (.cells #[.slice P 8 J] 51)) (some ⟨c.heap.size,0,none⟩) 1 _ [(P,8,J)] 1 rfl rfl (by simp) Q7m (by rw[ai.out];simp;omega) (by simp;omega) ?_;intro v8 m F r aa;obtain⟨k,d,e8,_⟩:=ownL.open (L:=Q0E) F;have aD:(hs++[((P,8,J):Hd)]).length=i+1:=(by rw[List.length_append,ai.out];rfl);rw[aD]at e8;subst e8;have s:=(r.block B (by simp;omega) (fun e=>by have:=x.out B e.symm;have:=aj.out B e.symm;omega)).trans ((Below.heap_alloc _ _ _ N).trans aN.out)
        have p8:m.cell? ⟨B,2,none⟩=some (.slice R i M):=Q00 s 2 _ rfl;have f8:=Q01 s 2;have ab:m.rangeAt wr.heap.size 0 (ptL f):=Q59 (Q1q I ((Below.refl c.heap.size c).alloc (Kaq _) _) (by omega)) r (by simp;omega) (fun e=>by have:=x.out _ e.symm;omega);have E:=Q02 s;have am:=Q02 F;have z:=Q02 r;have al:=Q02 aa;clear F r aa s;refine hK.out _ _ ab (fun hHeld=>?_);clear hK K
        try simp only[Act.put,List.setIfInBounds_toArray,List.set_cons_zero,List.set_cons_succ]
        refine wpAnyH_take (i:=6) (oi:=_) (v:=.pointer (some ⟨B,2,none⟩)) rfl (by kernel_rfl) (by kernel_rfl) (by kernel_rfl) (fun _ _ _ h=>h) (Or.inl ⟨by rfl,fun w _=>by go_simp⟩) hHeld ?_
        try simp only[Act.put,List.setIfInBounds_toArray,List.set_cons_zero,List.set_cons_succ]
        refine wpAnyH_ready (rs:=[7]) (by kernel_rfl) (by simp) ?_;refine AllReadyH.cons rfl (fun K hK=>?_) ?_
        ·skip
         go_simp
         refine hK.out _ _ (Q7r ab (by omega) _ _) (fun hHeld=>?_);clear hK K
         try simp only[Act.put,List.setIfInBounds_toArray,List.set_cons_zero,List.set_cons_succ]
         refine wpAnyH_done (by kernel_rfl) ?_ _;have ax:Hid ((m.setCell ⟨B,2,none⟩ (.slice k (i+1) d)).heap[B]? =some (.cells #[.int .i64 key,.slice o2 l.length c2,.slice k (i+1) d] 29 (0,0))):=Q05 E.out 2 _;have an:Hid (ownL Q0E 51 (m.setCell ⟨B,2,none⟩ (.slice k (i+1) d)) wc.heap.size (.slice k (i+1) d) (hs++[(P,8,J)])):=Q0p am.out E.out Qa4 2 _;have q:=Rw.more ag.out aJ.out ak (show wc.heap.size<=W2.heap.size by omega) af aI.out C.out x.out z.out;rw[<-aM.out]at q
         have aq:Hid (Rw InT [] ((fs.map Q41).take (i+1)) wc.heap.size (m.setCell ⟨B,2,none⟩ (.slice k (i+1) d)).heap.size (m.setCell ⟨B,2,none⟩ (.slice k (i+1) d)) (hs++[(P,8,J)]) _ _):=(q.step InT.stp (Q0w m B 2 (.slice k (i+1) d)) (fun j hj=> .inl (Kdq (show B+1<=wc.heap.size from aX) (q.bd j hj).1))).mono (Kaq _) (by simp);have aw:=Q02 (Q9s C.out aV.out ak af x.out al.out)
         have X:Hid (Q1e (m.setCell ⟨B,2,none⟩ (.slice k (i+1) d)) t.heap.size (.slice o2 l.length c2) l):=Q0p (World.ownsRow.kept (World.ownsRow.alloc A.out _) z.out (Q2B A.out D.out QiD)) E.out Q8b 2 _;have Y:=Q02 ((Q6O ah.out z.out (fun g e=>aj.out g e)).trans (Q0w m B 2 (.slice k (i+1) d)))
         have aE:wc.heap.size<=m.heap.size:=by have:=Y.out.size;simpa using this
         clear q;go_wp2;go_roundw
         case rel=>exact⟨i+1,_,_,_,k,d,by omega,by go_num,ax.out,an.out,aq.out,aw.out,X.out,by simpa using aE,Y.out⟩
         case measure=>simp[intOf];omega
        exact AllReadyH.nil
       exact AllReadyH.nil
      exact AllReadyH.nil
     refine AllReadyH.cons rfl (fun K hK=>?_) ?_
     ·skip
      go_simp
      refine hK.out _ _ (Q1q I ((Below.refl c.heap.size c).alloc (Kaq _) (.cells #[.slice P 8 J] 51)) (by omega)) (fun hHeld=>?_);clear hK K
      try simp only[Act.put,List.setIfInBounds_toArray,List.set_cons_zero,List.set_cons_succ]
      refine wpAnyH_ready (rs:=[1]) (by kernel_rfl) (by simp) ?_;refine AllReadyH.cons rfl (fun K hK=>?_) ?_
      ·skip
       go_simp
       refine hK.out _ _ (Q1q I ((Below.refl c.heap.size c).alloc (Kaq _) (.cells #[.slice P 8 J] 51)) (by omega)) (fun hHeld=>?_);clear hK K
       try simp only[Act.put,List.setIfInBounds_toArray,List.set_cons_zero,List.set_cons_succ]
       refine wpAnyH_ready (rs:=[5]) (by kernel_rfl) (by simp) ?_;refine AllReadyH.cons rfl (fun K hK=>?_) ?_
       ·skip
        refine Q0n Q5Z rfl (.tmp 20) (.tmp 23) rfl wc.heap.size (.slice R i M) hs rfl (D.out.alloc (.cells #[.slice P 8 J] 51)) (some ⟨c.heap.size,0,none⟩) 1 _ [(P,8,J)] 1 rfl rfl (by simp) Q7m (by rw[ai.out];simp;omega) (by simp;omega) ?_;intro v8 m F r aa;obtain⟨k,d,e8,_⟩:=ownL.open (L:=Q0E) F;have aD:(hs++[((P,8,J):Hd)]).length=i+1:=(by rw[List.length_append,ai.out];rfl);rw[aD]at e8;subst e8;have s:=(r.block B (by simp;omega) (fun e=>by have:=x.out B e.symm;have:=aj.out B e.symm;omega)).trans ((Below.heap_alloc _ _ _ N).trans aN.out)
        have p8:m.cell? ⟨B,2,none⟩=some (.slice R i M):=Q00 s 2 _ rfl;have f8:=Q01 s 2;have ab:m.rangeAt wr.heap.size 0 (ptL f):=Q59 (Q1q I ((Below.refl c.heap.size c).alloc (Kaq _) _) (by omega)) r (by simp;omega) (fun e=>by have:=x.out _ e.symm;omega);have E:=Q02 s;have am:=Q02 F;have z:=Q02 r;have al:=Q02 aa;clear F r aa s;refine hK.out _ _ ab (fun hHeld=>?_);clear hK K
        try simp only[Act.put,List.setIfInBounds_toArray,List.set_cons_zero,List.set_cons_succ]
        refine wpAnyH_take (i:=6) (oi:=_) (v:=.pointer (some ⟨B,2,none⟩)) rfl (by kernel_rfl) (by kernel_rfl) (by kernel_rfl) (fun _ _ _ h=>h) (Or.inl ⟨by rfl,fun w _=>by go_simp⟩) hHeld ?_
        try simp only[Act.put,List.setIfInBounds_toArray,List.set_cons_zero,List.set_cons_succ]
        refine wpAnyH_ready (rs:=[7]) (by kernel_rfl) (by simp) ?_;refine AllReadyH.cons rfl (fun K hK=>?_) ?_
        ·skip
         go_simp
         refine hK.out _ _ (Q7r ab (by omega) _ _) (fun hHeld=>?_);clear hK K
         try simp only[Act.put,List.setIfInBounds_toArray,List.set_cons_zero,List.set_cons_succ]
         refine wpAnyH_done (by kernel_rfl) ?_ _;have ax:Hid ((m.setCell ⟨B,2,none⟩ (.slice k (i+1) d)).heap[B]? =some (.cells #[.int .i64 key,.slice o2 l.length c2,.slice k (i+1) d] 29 (0,0))):=Q05 E.out 2 _;have an:Hid (ownL Q0E 51 (m.setCell ⟨B,2,none⟩ (.slice k (i+1) d)) wc.heap.size (.slice k (i+1) d) (hs++[(P,8,J)])):=Q0p am.out E.out Qa4 2 _;have q:=Rw.more ag.out aJ.out ak (show wc.heap.size<=W2.heap.size by omega) af aI.out C.out x.out z.out;rw[<-aM.out]at q
         have aq:Hid (Rw InT [] ((fs.map Q41).take (i+1)) wc.heap.size (m.setCell ⟨B,2,none⟩ (.slice k (i+1) d)).heap.size (m.setCell ⟨B,2,none⟩ (.slice k (i+1) d)) (hs++[(P,8,J)]) _ _):=(q.step InT.stp (Q0w m B 2 (.slice k (i+1) d)) (fun j hj=> .inl (Kdq (show B+1<=wc.heap.size from aX) (q.bd j hj).1))).mono (Kaq _) (by simp);have aw:=Q02 (Q9s C.out aV.out ak af x.out al.out)
         have X:Hid (Q1e (m.setCell ⟨B,2,none⟩ (.slice k (i+1) d)) t.heap.size (.slice o2 l.length c2) l):=Q0p (World.ownsRow.kept (World.ownsRow.alloc A.out _) z.out (Q2B A.out D.out QiD)) E.out Q8b 2 _;have Y:=Q02 ((Q6O ah.out z.out (fun g e=>aj.out g e)).trans (Q0w m B 2 (.slice k (i+1) d)))
         have aE:wc.heap.size<=m.heap.size:=by have:=Y.out.size;simpa using this
         clear q;go_wp2;go_roundw
         case rel=>exact⟨i+1,_,_,_,k,d,by omega,by go_num,ax.out,an.out,aq.out,aw.out,X.out,by simpa using aE,Y.out⟩
         case measure=>simp[intOf];omega
        exact AllReadyH.nil
       exact AllReadyH.nil
      exact AllReadyH.nil
     exact AllReadyH.nil
    exact AllReadyH.nil
   ·skip
    have e:i=n:=by omega
    subst e;have ae:=av.out.box bg.out (.inl (show w.heap.size+1 < B by omega));have r0:wr.cell? ⟨w.heap.size+1,0,none⟩=some (.int .i64 0):=Q00 ae 0 _ rfl;have ay:=Q01 ae 0;have r1:wr.cell? ⟨w.heap.size+1,1,none⟩=some (.slice none 0 0):=Q00 ae 1 _ rfl;have az:=Q01 ae 1;have r2:wr.cell? ⟨w.heap.size+1,2,none⟩=some (.slice none 0 0):=Q00 ae 2 _ rfl;have aA:=Q01 ae 2;have p0:wr.cell? ⟨B,0,none⟩=some (.int .i64 key):=Q00 aH.out 0 _ rfl;have p1:wr.cell? ⟨B,1,none⟩=some (.slice o2 l.length c2):=Q00 aH.out 1 _ rfl;have p2:wr.cell? ⟨B,2,none⟩=some (.slice R i M):=Q00 aH.out 2 _ rfl
    have bc:Hid (InPm t.heap.size wr.heap.size wr (plv key (.slice o2 l.length c2) (.slice R i M)) ⟨key,l,fs.map Q41⟩):=⟨_,_,wc.heap.size,rfl,bj,bi,⟨aW.out,be.out⟩,⟨hs,L,H,InRow.of (QcA aK.out ar.out ao.out).1,(QcA aK.out ar.out ao.out).2,QhQ aK.out C.out⟩⟩;have ba:=Q02 (aY.out.trans (av.out.below (show w.heap.size<=B by omega) (by omega)));clear ae;go_wp2;refine bodyPost_ret (v:=plv key (.slice o2 l.length c2) (.slice R i M)) (by simp[results,Tryz.results69,go_sem,r0,r1,r2]) rfl ⟨_,rfl, ?_,Q0v ba.out (Nat.le_succ _) _ _ _⟩;rw[Q2O]
    exact InPm.mono (bc.out.step (Q33 wr (w.heap.size+1) _ _ _) (.inl (by omega))) (by omega)
theorem Q5n (key:Int) (o:Option Addr) (cap:Nat) (l:List Bk) (d:Option Addr) (g:Nat) (a:List Pt) (w:World) (i:RdK w.heap.size w o l) (j:o=none->cap=0) (b:l.length<=1048576) (h:RdL Q1T w.heap.size w d a) (c:a.length<=1048576):
  Calls Tryz.prog 69 #[Q6p key (.slice o l.length cap) (.slice d a.length g)] w fun e f=> ∃v,e=.returned v/\InPm w.heap.size f.heap.size f v ⟨key,l,a.map Q41⟩/\Below w.heap.size w f:=QfT key o cap l d g a a.length rfl w i j b h c
theorem Qiu:AppOk Q2m 47 3:=⟨Tryz.underlying47,⟨_,_,Qbl,rfl,by decide⟩,by decide,fun a u hu=>by
 have:u=.int .i64 a:=by simpa[Q2m]using hu
 subst this;rfl⟩
theorem QiI:AppOk Q0E 51 47:=⟨Tryz.underlying51,⟨_,_,Q6W,rfl,by decide⟩,by decide,fun a u hu=>by
 have:u=.slice a.1 a.2.1 a.2.2:=by simpa[Q0E]using hu
 subst this;rfl⟩
def RcV {α:Type} (L:Lay α) (lo hi:Nat) (w:World) (v:Value) (l:List α):Prop:=RiV L lo hi w v l/\Qi3 v
abbrev RcT:=RiRows (RcV Q2m) []
abbrev RcR:=RiRows RcT []
theorem RcI.mon:Monos (RcV Q2m):=⟨fun h h1 h2=>⟨RiV.mono h.1 h1 h2,h.2⟩⟩
theorem RcI.stp:Stps (RcV Q2m):=⟨fun h s hd=>⟨RiV.step h.1 s hd,h.2⟩⟩
theorem RcT.mon:Monos RcT:=RiRows.mono RcI.mon
theorem RcT.stp:Stps RcT:=RiRows.step RcI.stp
theorem RcR.mon:Monos RcR:=RiRows.mono RcT.mon
theorem RcR.stp:Stps RcR:=RiRows.step RcT.stp
theorem RiRows.map {α:Type} {Q Q':Nat->Nat->World->Value->α->Prop} {d:α} (f:∀{lo hi:Nat} {w:World} {v:Value} {x:α},Q lo hi w v x->Q' lo hi w v x) {lo hi:Nat} {w:World} {v:Value} {a:List α} (h:RiRows Q d lo hi w v a):RiRows Q' d lo hi w v a:=by
 obtain⟨hs,b,c,h2⟩:=h;exact⟨hs,b,c,fun i hi=>f (h2 i hi)⟩
theorem RiRows.at {α:Type} {Q:Nat->Nat->World->Value->α->Prop} {d:α} {a C:Nat} {w:World} {o:Option Addr} {n c:Nat} {f:List α} (h:RiRows Q d a C w (.slice o n c) f) (p:C<=w.heap.size) (i:Nat) (hi:i < f.length):∃b off u,o=some ⟨b,off,none⟩/\b < C/\w.cell? ⟨b,off+i,none⟩=some u/\Q a C w u (f.getD i d):=by
 obtain⟨hs,g,j,h2⟩:=h;obtain⟨q,m,e,r⟩:=j.open;injection e with e1 e2 e3;subst e1
 rcases r with r|⟨b,off,l,k,r⟩
 ·subst r;simp at g;omega
 ·exact⟨b,off,hv hs i,l,k,RdL.head r i (by omega),h2 i hi⟩
theorem RcT.len {lo hi:Nat} {w:World} {v:Value} {ll:List (List Int)} (h:RcT lo hi w v ll):∃o c,v=.slice o ll.length c:=by
 obtain⟨hs,h0,⟨o,c,e,_⟩,_⟩:=h;exact⟨o,c,by rw[e,h0]⟩
theorem RcV.opn {lo hi:Nat} {w:World} {v:Value} {l:List Int} (h:RcV Q2m lo hi w v l):∃o c,v=.slice o l.length c/\RdL Q2m hi w o l/\(o=none->c=0):=by
 obtain⟨o,c,e,r⟩:=RiV.open h.1;exact⟨o,c,e,r,fun a=>h.2 l.length c (by rw[e,a])⟩
theorem Qed {α:Type} {L:Lay α} (w:World) (O:Obj) (e:TypeId):ownL L e ((w.alloc O).alloc (.cells #[] e)) (w.heap.size+1) (.slice (some ⟨w.heap.size+1,0,none⟩) 0 0) ([]:List α):=by
 have h:=Q3q (L:=L) (w.alloc O) e;rw[World.size_alloc]at h;exact h
def GTabs (w:World) (base:Nat) (hs:List Hd) (lll:List (List (List Int))):Prop:=hs.length=lll.length/\∀i,i < lll.length->∃o3 c3 hs8,hs.getD i (none,0,0)=(o3,(lll.getD i []).length,c3)/\ownL Q0E 47 w base (.slice o3 (lll.getD i []).length c3) hs8/\Tab (fun q=>(lll.getD i []).getD q []) (lll.getD i []).length w base hs8
theorem GTabs.nil (w:World) (base:Nat):GTabs w base [] []:=⟨rfl,fun i h=>absurd h (KMq _)⟩
theorem GTabs.kept {w c:World} {base:Nat} {hs:List Hd} {R:List (List (List Int))} (h:GTabs w base hs R) (b:Below w.heap.size w c):GTabs c base hs R:=
 ⟨h.1,fun i hi=>by obtain⟨g,d,a,e,f,h2⟩:=h.2 i hi;exact⟨g,d,a,e,Q03 f b,h2.kept b⟩⟩
theorem GTabs.other {w f:World} {base g l:Nat} {hs:List Hd} {R:List (List (List Int))} {d:Value} {n:List Value} (h:GTabs w base hs R) (h2:w.ownsRow g 51 1 d l n) (b:w.grownBy f d.ownBlock):GTabs f base hs R:=
 ⟨h.1,fun i hi=>by obtain⟨m,j,a,e,c,k⟩:=h.2 i hi;exact⟨m,j,a,e,World.ownsRow.kept c b (Q2n c h2 QiL),k.other h2 Qj6 b⟩⟩
theorem GTabs.putB {w:World} {base:Nat} {hs:List Hd} {R:List (List (List Int))} {B:Nat} {c:Array Value} (h:GTabs w base hs R) (b:w.heap[B]? =some (.cells c 29 (0,0))) (j:Nat) (u:Value):GTabs (w.setCell ⟨B,j,none⟩ u) base hs R:=
 ⟨h.1,fun i hi=>by obtain⟨k,d,a,e,f,h2⟩:=h.2 i hi;exact⟨k,d,a,e,Q0p f b QiG j u,h2.grown (Q0H w B j u) (fun q g=>Q1R (h2.row q g) b QiY)⟩⟩
theorem GTabs.snoc {w:World} {base:Nat} {hs a:List Hd} {R:List (List (List Int))} {ll:List (List Int)} {c:Option Addr} {b:Nat} (h:GTabs w base hs R) (k:ownL Q0E 47 w base (.slice c ll.length b) a) (h2:Tab (fun q=>ll.getD q []) ll.length w base a):GTabs w base (hs++[(c,ll.length,b)]) (R++[ll]):=by
 have g:=h.1;refine⟨by simp[g],fun i hi=>?_⟩
 by_cases hi':i < R.length
 ·have d:(R++[ll]).getD i []=R.getD i []:=by rw[KFq,List.getElem?_append_left hi',<-KFq]
  have f:(hs++[(c,ll.length,b)]).getD i (none,0,0)=hs.getD i (none,0,0):=by rw[KFq,List.getElem?_append_left (by omega),<-KFq]
  rw[d,f];exact h.2 i hi'
 ·have j:i=R.length:=by simp at hi;omega
  subst j
  have d:(R++[ll]).getD R.length []=ll:=by simp
  have f:(hs++[(c,ll.length,b)]).getD R.length (none,0,0)=(c,ll.length,b):=by rw[<-g];simp
  rw[d,f];exact⟨c,b,a,rfl,k,h2⟩
theorem GTabs.rc {w:World} {base:Nat} {hs:List Hd} {R:List (List (List Int))} {o:Option Addr} {n c:Nat} (h:GTabs w base hs R) (k:ownL Q0E 51 w base (.slice o n c) hs):RcR base w.heap.size w (.slice o n c) R:=by
 refine⟨hs,h.1,InRow.ri (InRow.of k),fun i hi=>?_⟩;obtain⟨l,d,a,e,g,h2⟩:=h.2 i hi
 have f:hv hs i=.slice l (R.getD i []).length d:=by unfold hv;rw[e]
 rw[f];exact⟨a,h2.len,InRow.ri (InRow.of g),fun j b=>⟨InRow.ri (InRow.of (h2.row j b)),InRow.cap (InRow.of (h2.row j b))⟩⟩
theorem RcR.ri {lo hi:Nat} {w:World} {v:Value} {R:List (List (List Int))} (h:RcR lo hi w v R):RiR lo hi w v R:=RiRows.map (fun q=>RiRows.map (fun r=>r.1) q) h
theorem GTabs.ri {w:World} {base:Nat} {hs:List Hd} {R:List (List (List Int))} {o:Option Addr} {n c:Nat} (h:GTabs w base hs R) (a:ownL Q0E 51 w base (.slice o n c) hs):RiR base w.heap.size w (.slice o n c) R:=RcR.ri (h.rc a)
theorem GTabs.mono {w:World} {base b:Nat} {hs:List Hd} {R:List (List (List Int))} (h:GTabs w base hs R) (c:b<=base):GTabs w b hs R:=
 ⟨h.1,fun i hi=>by obtain⟨g,d,a,e,f,h2⟩:=h.2 i hi;exact⟨g,d,a,e,Q04 f c,Tab.mono h2 c⟩⟩
theorem Qf1 (R:List (List (List Int))) (i:Nat) (h:i < R.length):R.take (i+1)=R.take i++[R.getD i []]:=by
 rw[List.take_succ_eq_append_getElem h];simp[h]
theorem QbV (key:Int) (o:Option Addr) (cap:Nat) (l:List Bk) (oR:Option Addr) (cR:Nat) (d:List (List (List Int))) (n:Nat) (aZ:n=d.length) (w:World) (hR:RdK w.heap.size w o l) (hn:o=none->cap=0) (bE:l.length<=1048576) (hG:RcR 0 w.heap.size w (.slice oR n cR) d) (hf:n<=1048576) (hx:∀i,i < d.length->(d.getD i []).length<=1048576) (hy:∀i,i < d.length->∀j,j < (d.getD i []).length->((d.getD i []).getD j []).length<=1048576):
  Calls Tryz.prog 165 #[plv key (.slice o l.length cap) (.slice oR n cR)] w fun e w'=> ∃A c2 D C hs,e=.returned (plv key (.slice A l.length c2) (.slice D n C))/\Q1e w' w.heap.size (.slice A l.length c2) l/\ownL Q0E 51 w' w.heap.size (.slice D n C) hs/\GTabs w' w.heap.size hs d/\Below w.heap.size w w':=by
 have aJ:=Q02 aZ;clear aZ;obtain⟨a,F⟩:∃W,((w.alloc (.cells #[.int .i64 key,.slice o l.length cap,.slice oR n cR] 29)).alloc (.cells #[.int .i64 0,.slice none 0 0,.slice none 0 0] 29))=W:=⟨_,rfl⟩;have T:=alb0v0v2 F;have HB:=Q02 T;clear T;have N:=alz0v0v2 F;obtain⟨z0,z1,z2⟩:=alc3v0v2 F;have zr:=alz0v1v2 F;obtain⟨r0,r1,r2⟩:=alc3v1v2 F;obtain⟨ab,ac,ad⟩:=alf3v1v2 F;have bi:=Q02 (show a.heap[w.heap.size+1]? =some (.cells #[.int .i64 0,.slice none 0 0,.slice none 0 0] 29 (0,0))by rw[<-F];exact Q1P w _ _ _);have bz:=zr;have a7:=N
 have aq:=Q02 (fun W (E:Below a.heap.size a W)=>(hR.kept (HB.out.trans (E.mono HB.out.size)) (Kaq _)));have HG:=Q02 hG;have HX:=Q02 hx;have HY:=Q02 hy;clear hR hG hx hy;have bQ:=HB.out.size;go_enter Tryz.func165,Tryz.ntmps165;go_upto_region 1 with fail
 go_cut [3]from 7 to 13 (fun s3 wx=> ∃B A c2,s3=.pointer (some ⟨B,0,none⟩)/\Hid (wx.heap[B]? =some (.cells #[.int .i64 key,.slice A l.length c2,.slice none 0 0] 29 (0,0)))/\Hid (Below a.heap.size a wx)/\a.heap.size<=B/\B < wx.heap.size/\Hid (Q1e wx a.heap.size (.slice A l.length c2) l))
 case first=>
  go_region_held3 (fun w'=>w'.cell? ⟨w.heap.size,0,none⟩=some (.int .i64 key)/\w'.cell? ⟨w.heap.size,1,none⟩=some (.slice o l.length cap)) (first|with_reducible exact⟨I,J⟩|with_reducible exact⟨z0,z1⟩|with_reducible exact⟨Q06 I (show w.heap.size < _ by omega),Q06 J (show w.heap.size < _ by omega)⟩|go_keep) (first|(have t:ownL Q16 119 (a.alloc (.cells #[] 119)).drew a.heap.size (.slice (some ⟨a.heap.size,0,none⟩) 0 0) ([]:List Bk):=Q3q a _;have y:Below a.heap.size a (a.alloc (.cells #[] 119)).drew:=KHq (KBq.alloc (Kaq _) _);refine Q0n Q3U rfl _ _ rfl a.heap.size (.slice (some ⟨a.heap.size,0,none⟩) 0 0) ([]:List Bk) rfl t o cap w.heap.size l l.length rfl rfl hn (aq.out _ y) (by simp;omega) (by(try simp) <;> omega) ?_;intro v8 Y f c _;have s:Below a.heap.size a Y:=y.grown c (by(try simp) <;> omega) (fun k h=>by simp[Value.ownBlock]at h;omega);have a8:=s.size;obtain⟨A,c2,e2,_⟩:=ownL.open (L:=Q16) f;subst e2;have af:Q1e Y a.heap.size (.slice A l.length c2) l:=f;have I:=bC s z0 N;have J:=bC s z1 N;clear f c y t)|(have t:ownL Q16 119 ((a.alloc (.cells #[] 119)).alloc (.cells #[.int .i64 0,.slice none 0 0,.slice none 0 0] 29)).drew a.heap.size (.slice (some ⟨a.heap.size,0,none⟩) 0 0) ([]:List Bk):=World.ownsRow.alloc (Q3q a _) _;have y:Below a.heap.size a ((a.alloc (.cells #[] 119)).alloc (.cells #[.int .i64 0,.slice none 0 0,.slice none 0 0] 29)).drew:=KHq ((KBq.alloc (Kaq _) _).alloc (by simp) _);refine Q0n Q3U rfl _ _ rfl a.heap.size (.slice (some ⟨a.heap.size,0,none⟩) 0 0) ([]:List Bk) rfl t o cap w.heap.size l l.length rfl rfl hn (aq.out _ y) (by simp;omega) (by(try simp) <;> omega) ?_;intro v8 Y f c _;have s:Below a.heap.size a Y:=y.grown c (by(try simp) <;> omega) (fun k h=>by simp[Value.ownBlock]at h;omega);have a8:=s.size;obtain⟨A,c2,e2,_⟩:=ownL.open (L:=Q16) f;subst e2;have af:Q1e Y a.heap.size (.slice A l.length c2) l:=f;have I:=bC s z0 N;have J:=bC s z1 N;have p:Y.heap[a.heap.size+1]? =some (.cells #[.int .i64 0,.slice none 0 0,.slice none 0 0] 29 (0,0)):=(c.block _ (by(try simp) <;> omega) (by simp[Value.ownBlock])).trans (Q1P a _ _ _);have az:=Q00 p 0 _ rfl;have aC:=Q01 p 0;have aA:=Q00 p 1 _ rfl;have aD:=Q01 p 1;have aB:=Q00 p 2 _ rfl;have aE:=Q01 p 2;clear f c y t)|(have t:ownL Q16 119 ((a.alloc (.cells #[.int .i64 0,.slice none 0 0,.slice none 0 0] 29)).alloc (.cells #[] 119)).drew a.heap.size (.slice (some ⟨a.heap.size+1,0,none⟩) 0 0) ([]:List Bk):=Q04 (Qed a _ _) (Nat.le_succ _);have y:Below a.heap.size a ((a.alloc (.cells #[.int .i64 0,.slice none 0 0,.slice none 0 0] 29)).alloc (.cells #[] 119)).drew:=KHq ((KBq.alloc (Kaq _) _).alloc (by simp) _);refine Q0n Q3U rfl _ _ rfl a.heap.size (.slice (some ⟨a.heap.size+1,0,none⟩) 0 0) ([]:List Bk) rfl t o cap w.heap.size l l.length rfl rfl hn (aq.out _ y) (by simp;omega) (by(try simp) <;> omega) ?_;intro v8 Y f c _;have s:Below a.heap.size a Y:=y.grown c (by(try simp) <;> omega) (fun k h=>by simp[Value.ownBlock]at h;omega);have a8:=s.size;obtain⟨A,c2,e2,_⟩:=ownL.open (L:=Q16) f;subst e2;have af:Q1e Y a.heap.size (.slice A l.length c2) l:=f;have I:=bC s z0 N;have J:=bC s z1 N;have p:Y.heap[a.heap.size]? =some (.cells #[.int .i64 0,.slice none 0 0,.slice none 0 0] 29 (0,0)):=(c.block _ (by(try simp) <;> omega) (by simp[Value.ownBlock])).trans (Q3P a _ _ _);have az:=Q00 p 0 _ rfl;have aC:=Q01 p 0;have aA:=Q00 p 1 _ rfl;have aD:=Q01 p 1;have aB:=Q00 p 2 _ rfl;have aE:=Q01 p 2;clear f c y t))
  all_goals (go_wp2_with fail;go_meet)
  all_goals first
   |with_reducible exact Qj5 p s (by omega) af
   |with_reducible exact Qi9 s af
 case rest=>
  obtain⟨B,A,c2,rfl,bq,aS,bK,bL,bs⟩:=hcut;have E:=aS.out;have bR:=E.size;have aG:=Q02 (E.block _ bz);clear aS;replace z0:=bC E z0 N;replace z1:=bC E z1 N;replace z2:=bC E z2 N;replace N:=Kbq N E.size;replace r0:=bC E r0 zr;replace r1:=bC E r1 zr;replace r2:=bC E r2 zr;replace ab:=bF E ab zr;replace ac:=bF E ac zr;replace ad:=bF E ad zr;replace zr:=Kbq zr E.size;replace HB:=Q02 (HB.out.trans (E.mono HB.out.size));clear E;have bk:=Q02 ((aG.out).trans bi.out);have bd:=HB;have a5:=z2;have bS:w.heap.size < a.heap.size:=a7
  clear z0 z1 r0 r1 r2 ab ac ad z2;go_wp2
  go_loopw [4] (fun iv wr=> ∃(i:Nat) (hs:List Hd) (D:Option Addr) (C:Nat),i<=n/\iv=.int .i64 (i:Int)/\Hid (wr.heap[B]? =some (.cells #[.int .i64 key,.slice A l.length c2,.slice D i C] 29 (0,0)))/\Hid (ownL Q0E 51 wr wc.heap.size (.slice D i C) hs)/\Hid (GTabs wr wc.heap.size hs (d.take i))/\Hid (Q1e wr a.heap.size (.slice A l.length c2) l)/\wc.heap.size<=wr.heap.size/\Hid (Stp B (B+1) wc wr))
   (fun iv _=>n - (intOf iv).toNat)
  case atStart=>exact⟨0,[],none,0,Kcq _,rfl,bq.out,KLq _ _ _ _,by rw[List.take_zero];exact GTabs.nil _ _,bs.out,Kaq _,Stp.refl _⟩
  case round=>
   rename World=>wo
   obtain⟨i,hs,D,C,bM,rfl,Z,ap,am,ao,a3,aa⟩:=hrel;have ak:=Q02 (bd.out.trans (aa.out.below (show w.heap.size<=B by omega) (by omega)));have zq:wo.cell? ⟨w.heap.size,2,none⟩=some (.slice oR n cR):=aa.out.cellP a5 (.inl (show w.heap.size < B by omega))
   have a6:w.heap.size < wo.heap.size:=by omega
   by_cases hlt:i < n
   ·skip
    have bH:(i:Int) < (n:Int):=by omega
    have ae:i < d.length:=by rw[<-aJ.out];exact hlt
    obtain⟨b,off,u,rfl,bt,ah,U⟩:=HG.out.at (Kaq _) i ae;obtain⟨o3,c3,rfl⟩:=RcT.len U;have au:wo.cell? ⟨b,off+i,none⟩=some (.slice o3 (d.getD i []).length c3):=bC ak.out ah bt;have aN:=Q02 U;have aP:=Q02 (Qf1 d i ae);have aQ:=Q02 (HX.out i ae);have aR:=Q02 (HY.out i ae);clear ah U;obtain⟨ll,aY⟩:∃ll,d.getD i []=ll:=⟨_,rfl⟩;rw[aY]at au aN aP aQ aR;clear aY;obtain⟨m,hm⟩:∃m,ll.length=m:=⟨_,rfl⟩;rw[hm]at au;have HM:=Q02 hm
    have bP:m<=1048576:=by rw[<-hm];exact aQ.out
    clear hm
    have bu:b < wo.heap.size:=by omega
    go_wp2
    go_loopw [5,6] (fun tv kv wq=> ∃(k:Nat) (V:List Hd),k<=m/\kv=.int .i64 (k:Int)/\Hid (ownL Q0E 47 wq wo.heap.size tv V)/\Hid (Tab (fun q=>ll.getD q []) k wq wo.heap.size V)/\Hid (Below wo.heap.size wo wq))
     (fun _ kv _=>m - (intOf kv).toNat)
    case atStart=>exact⟨0,[],Kcq _,rfl,KLq _ _ _ _,Tab.nil _ _ _,KBq⟩
    case round=>
     rename World=>wq
     rename_i tv _
     obtain⟨k,V,bN,rfl,HO,HT,x⟩:=hrel;have a2:=x.out.size;have bA:=bC x.out zq a6;have bw:=bC x.out au bu;have ag:=Q02 (ak.out.trans (x.out.mono (show w.heap.size<=wo.heap.size by omega)))
     by_cases hlk:k < m
     ·skip
      have bG:(k:Int) < (m:Int):=by omega
      obtain⟨b2,bJ,u2,e2,aV,ai,aj⟩:=aN.out.at (Kaq _) k (by rw[HM.out];exact hlk);subst e2;obtain⟨o9,c9,rfl,M,bv⟩:=RcV.opn aj;have ar:=bC ag.out ai aV;have aM:=Q02 (M.kept ag.out (Kaq _));have a4:=aR.out k (by rw[HM.out];exact hlk);clear ai aj M;obtain⟨row,ax⟩:∃row,ll.getD k []=row:=⟨_,rfl⟩;rw[ax]at ar aM a4;have bl:=Q02 ax;clear ax;obtain⟨r9,M⟩:∃r,row.length=r:=⟨_,rfl⟩;rw[M]at ar a4;have an:=Q02 M;clear M;obtain⟨W1,aU⟩:∃W,wq.alloc (.cells #[] 3)=W:=⟨_,rfl⟩;have G:=alb0v0v1 aU
      have be:=Q02 (show ownL Q2m 3 W1 wq.heap.size (.slice (some ⟨wq.heap.size,0,none⟩) 0 0) ([]:List Int)by rw[<-aU];exact Q3q wq _);have a1:=G.size;have bT:=bC G bA (by omega);have bB:=bC G bw (by omega);have bD:=bC G ar (by omega);have bj:=Q02 (aM.out.kept G (by omega));have ba:=Q02 G;clear G;go_wp2_with (first|(at_builtin;refine Q07 Qiu rfl (.tmp 32) (.tmp 40) rfl wq.heap.size _ ([]:List Int) rfl be.out o9 c9 w.heap.size row r9 an.out.symm rfl bv bj.out (by rw[an.out];simp;omega) a1 ?_));intro v2 w2 aw aW _;obtain⟨X,P,e4,_⟩:=ownL.open (L:=Q2m) aw
      rw[an.out]at e4;subst e4;have R:Below wq.heap.size wq w2:=ba.out.grown aW a1 (fun g e=>by have e':wq.heap.size=g:=Option.some.inj e;omega);have bm:=Q02 ((HT.out.kept R).snoc HT.out.lt a2 (show Q9U w2 wq.heap.size (.slice X r9 P) (ll.getD k [])by rw[bl.out];exact aw));have aK:=Q02 (Q03 HO.out R);have aF:=Q02 (x.out.trans (R.mono a2));have bI:=R.size
      have aX:V.length<=1048576:=by rw[HT.out.len];omega
      clear aw aW R;go_wp2_with (first|(at_builtin;refine Q07 QiI rfl (.tmp 31) (.tmp 42) rfl wo.heap.size _ V rfl (World.ownsRow.alloc aK.out (.cells #[.slice X r9 P] 47)) (some ⟨w2.heap.size,0,none⟩) 1 _ [(X,r9,P)] 1 rfl rfl (by simp) Q7m (by simp;omega) (by simp;omega) ?_));intro v5 w5 a0 av _;have HA:=Q02 (World.ownsRow.alloc aK.out (.cells #[.slice X r9 P] 47));have bn:=Q02 (Tab.other (bm.out.kept (KBq.alloc (Kaq _) _)) HA.out QgY av);have bb:=Q02 ((aF.out.alloc aF.out.size _).grown av (by simp;omega) (fun k h=>(HA.out.lt k h).1));have bg:=Q02 a0
      clear av a0;go_wp2;go_roundw
      case rel=>exact⟨k+1,_,by omega,by go_num,bg.out,bn.out,bb.out⟩
      case measure=>simp[intOf];omega
     ·skip
      have e:k=m:=by omega
      subst e;obtain⟨X,P,e4,_⟩:=ownL.open (L:=Q0E) HO.out;rw[HT.out.len]at e4;subst e4;have ay:=(x.out.block B (by omega)).trans Z.out;have p2:wq.cell? ⟨B,2,none⟩=some (.slice D i C):=Q00 ay 2 _ rfl;have bo:=Q02 ay;have aH:=Q02 (show hs.length=i by have:=am.out.1;rw[List.length_take]at this;omega);have aI:=Q02 (fun g (e:(Value.slice D i C).ownBlock=some g)=>ap.out.lt g e);have O:=Q02 (Q03 ap.out x.out)
      have bO:hs.length<=1048576:=by rw[aH.out];omega
      have bc:Hid (∀g,(Value.slice D i C).ownBlock=some g->g≠B):=fun g e=>by have:=aI.out g e;omega
      clear ay;go_wp2_with (first|(at_builtin;refine Q07 Q5Z rfl (.tmp 45) (.tmp 47) rfl wc.heap.size (.slice D i C) hs rfl (World.ownsRow.alloc O.out (.cells #[.slice X k P] 51)) (some ⟨wq.heap.size,0,none⟩) 1 _ [(X,k,P)] 1 rfl rfl (by simp) Q7m (by simp;omega) (by simp;omega) ?_));intro v8 w8 f c _;obtain⟨o8,c8,e8,_⟩:=ownL.open (L:=Q0E) f
      have aX:(hs++[((X,k,P):Hd)]).length=i+1:=by rw[List.length_append,aH.out];rfl
      rw[aX]at e8;subst e8;have H:=(c.block B (by simp;omega) (fun e=>bc.out B e.symm rfl)).trans ((Below.heap_alloc _ _ _ (by omega)).trans bo.out);have p8:w8.cell? ⟨B,2,none⟩=some (.slice D i C):=Q00 H 2 _ rfl;have f8:=Q01 H 2;have a9:=Q02 (World.ownsRow.alloc O.out (.cells #[.slice X k P] 51))
      have aT:GTabs w8 wc.heap.size (hs++[(X,k,P)]) (d.take (i+1)):=by
       rw[aP.out];have h1:=(am.out.kept x.out).snoc (ll:=ll) (Q04 (by rw[HM.out];exact HO.out) a3) (Tab.mono (by rw[HM.out];exact HT.out) a3);rw[HM.out]at h1;exact(h1.kept ((Below.refl wq.heap.size wq).alloc (Kaq _) _)).other a9.out c
      have bp:Hid ((w8.setCell ⟨B,2,none⟩ (.slice o8 (i+1) c8)).heap[B]? =some (.cells #[.int .i64 key,.slice A l.length c2,.slice o8 (i+1) c8] 29 (0,0))):=Q05 H 2 _;have bh:=Q02 (Q0p (B:=B) f H Qa4 2 (.slice o8 (i+1) c8));have bf:=Q02 (aT.putB H 2 (.slice o8 (i+1) c8));have aL:=Q02 (Q0p (World.ownsRow.kept (World.ownsRow.alloc (Q03 ao.out x.out) (.cells #[.slice X k P] 51)) c (Q2B (Q03 ao.out x.out) O.out QiD)) H Q8b 2 (.slice o8 (i+1) c8))
      have aO:=Q02 ((Q6O (aa.out.trans (Stp.of x.out)) c (fun g e=>(aI.out g e).1)).trans (Q0w w8 B 2 (.slice o8 (i+1) c8)))
      have bx:wc.heap.size<=w8.heap.size:=by have:=aO.out.size;simpa using this
      clear f c H aT;go_wp2;go_roundw
      case rel=>exact⟨i+1,_,o8,c8,by omega,by go_num,bp.out,bh.out,bf.out,aL.out,by simpa using bx,aO.out⟩
      case measure=>simp[intOf];omega
   ·skip
    have e:i=n:=by omega
    subst e;have z:=aa.out.box bk.out (.inl (show w.heap.size+1 < B by omega));have r0:wo.cell? ⟨w.heap.size+1,0,none⟩=some (.int .i64 0):=Q00 z 0 _ rfl;have ab:=Q01 z 0;have r1:wo.cell? ⟨w.heap.size+1,1,none⟩=some (.slice none 0 0):=Q00 z 1 _ rfl;have ac:=Q01 z 1;have r2:wo.cell? ⟨w.heap.size+1,2,none⟩=some (.slice none 0 0):=Q00 z 2 _ rfl;have ad:=Q01 z 2;have p0:wo.cell? ⟨B,0,none⟩=some (.int .i64 key):=Q00 Z.out 0 _ rfl;have p1:wo.cell? ⟨B,1,none⟩=some (.slice A l.length c2):=Q00 Z.out 1 _ rfl;have p2:wo.cell? ⟨B,2,none⟩=some (.slice D i C):=Q00 Z.out 2 _ rfl
    have al:Hid (Q1e (setP wo (w.heap.size+1) (.int .i64 key) (.slice A l.length c2) (.slice D i C)) w.heap.size (.slice A l.length c2) l/\ownL Q0E 51 (setP wo (w.heap.size+1) (.int .i64 key) (.slice A l.length c2) (.slice D i C)) w.heap.size (.slice D i C) hs/\GTabs (setP wo (w.heap.size+1) (.int .i64 key) (.slice A l.length c2) (.slice D i C)) w.heap.size hs d):=by
     have g1:=Q05 z 0 (.int .i64 key);have g2:=Q05 g1 1 (.slice A l.length c2)
     have hg:GTabs wo wc.heap.size hs d:=by have h:=am.out;rw[aJ.out,List.take_length]at h;exact h
     exact⟨Q04 (Q0p (Q0p (Q0p ao.out z Q8b 0 _) g1 Q8b 1 _) g2 Q8b 2 _) (by omega),Q04 (Q0p (Q0p (Q0p ap.out z Qa4 0 _) g1 Qa4 1 _) g2 Qa4 2 _) (by omega),GTabs.mono (((hg.putB z 0 _).putB g1 1 _).putB g2 2 _) (by omega)⟩
    clear z;go_wp2;refine bodyPost_ret (v:=plv key (.slice A l.length c2) (.slice D i C)) (by simp[results,Tryz.results165,go_sem,r0,r1,r2]) rfl ⟨A,c2,D,C,hs,rfl,al.out.1,al.out.2.1,al.out.2.2,Q0v ak.out (Nat.le_succ _) _ _ _⟩
theorem GTabs.pm {w:World} {lo base:Nat} {key:Int} {l:List Bk} {hs:List Hd} {a:List (List (List Int))} {c d:Option Addr} {c2 n b:Nat} (f:Q1e w base (.slice c l.length c2) l) (h2:ownL Q0E 51 w base (.slice d n b) hs) (g:GTabs w base hs a):RiPm base w.heap.size w (plv key (.slice c l.length c2) (.slice d n b)) ⟨key,l,a⟩:=⟨_,_,rfl,InRow.ri (InRow.of f),GTabs.ri g h2⟩
def pm0:Pm:=⟨0,[],[]⟩
def Q2Z (key:Int) (l:List Bk):List (List Int):=Q3z (fun b=>Q14 key b l) 8
theorem Q1G (key:Int) (l:List Bk):(Q2Z key l).length=8:=Q1m _ _
theorem Q71 (key:Int) (l:List Bk) (j:Nat):((Q2Z key l).getD j []).length<=2:=by
 by_cases h:j < 8
 ·unfold Q2Z;rw[Q2f _ _ _ h];exact Q9Y key j l
 ·rw[KFq,List.getElem?_eq_none (by rw[Q1G];omega)];simp
theorem QhW (key:Int) (l:List Bk):szT (Q2Z key l)<=16:=by
 have h:=Q55 (Qih (Q2Z key l)) 2 (fun i=>Q71 key l i) (Q2Z key l).length;unfold szT;rw[Q1G]at h ⊢;omega
theorem Tab.congr {R R':Nat->List Int} {k:Nat} {w:World} {base:Nat} {hs:List Hd} (h:Tab R k w base hs) (e:∀i,i < k->R i=R' i):Tab R' k w base hs:=⟨h.len,fun i hi=>by rw[<-e i hi];exact h.row i hi,h.apart⟩
theorem Qb8 {key:Int} {l:List Bk} {w:World} {base:Nat} {hs:List Hd} (h:Tab (fun b=>Q14 key b l) 8 w base hs):Tab (fun q=>(Q2Z key l).getD q []) (Q2Z key l).length w base hs:=by
 rw[Q1G];exact h.congr (fun i hi=>by unfold Q2Z;rw[Q2f _ _ _ hi])
def Q17 (key:Int) (R:List (List Bk)):List (List (List Int)):=R.map (Q2Z key)
theorem Q2X (key:Int) (R:List (List Bk)) (i:Nat) (h:i < R.length):(Q17 key R).getD i []=Q2Z key (R.getD i []):=by simp[Q17,h]
theorem Q7k (key:Int) (l:List Bk) (R:List (List Bk)) (c:l.length<=1048576) (f:R.length<=3):Q2q ⟨key,l,Q17 key R⟩:=by
 have a:(Q17 key R).length=R.length:=by simp[Q17]
 have d:∀i,Qbu (Q17 key R) i<=16:=fun i=>by
  by_cases h:i < R.length
  ·unfold Qbu;rw[Q2X _ _ _ h];exact QhW key _
  ·unfold Qbu;rw[KFq,List.getElem?_eq_none (by rw[a];omega)];exact Kcq _
 refine⟨c,by show(Q17 key R).length<=_;omega, ?_,fun i hi=>?_,fun i hi j g=>?_⟩
 ·have h:=Q55 (Qbu (Q17 key R)) 16 d (Q17 key R).length
  show QdI (Qbu (Q17 key R)) (Q17 key R).length<=1048576
  rw[a]at h ⊢;omega
 ·have b:i < R.length:=by rw[<-a];exact hi
  show((Q17 key R).getD i []).length<=_
  rw[Q2X _ _ _ b,Q1G];omega
 ·have b:i < R.length:=by rw[<-a];exact hi
  show(((Q17 key R).getD i []).getD j []).length<=_
  rw[Q2X _ _ _ b];have:=Q71 key (R.getD i []) j;omega
def Q8d (key:Int):Pm:=if Q1D key=true then⟨key,[],Q17 key [[]]⟩else pm0
theorem Qc6 (key:Int):Q2q (Q8d key):=by
 unfold Q8d
 split
 ·exact Q7k key [] [[]] (by simp) (by simp)
 ·exact⟨by simp[pm0],by simp[pm0],by simp[pm0,szR,QdI],fun i hi=>absurd hi (KMq _),fun i hi=>absurd hi (KMq _)⟩
theorem Q9T (lo hi:Nat) (w:World) (h:lo<=hi):InPm lo hi w (plv 0 (.slice none 0 0) (.slice none 0 0)) pm0:=⟨_,_,lo,rfl,Kaq _,h,⟨KLq _ _ _ _,fun b e=>by cases e⟩,⟨[],fun _=> 0,fun _=> 0,⟨KLq _ _ _ _,fun b e=>by cases e⟩,Rw.nil _ _ _ _ _ _ _,fun i h=>absurd h (KMq _)⟩⟩
theorem Q7f (key:Int) (w:World):
  Calls Tryz.prog 97 #[.int .i64 key] w fun e B=> ∃v,e=.returned (.tuple #[v,.bool (Q1D key)])/\InPm w.heap.size B.heap.size B v (Q8d key)/\Below w.heap.size w B:=by
 have f:=Q02 (fun W=>Q0T key W);have g:=Q02 (show Q8d key=if Q1D key=true then⟨key,[],Q17 key [[]]⟩else pm0 from rfl);obtain⟨F,n⟩:∃W,(w.alloc (.cells #[.int .i64 0,.slice none 0 0,.slice none 0 0] 29))=W:=⟨_,rfl⟩;have c:=alb0v0v1 n;have d:=Q02 c;clear c;have b:=alz0v0v1 n;obtain⟨q,r,s⟩:=alc3v0v1 n;obtain⟨j,k,m⟩:=alf3v0v1 n;have M:=b
 cases hk:Q1D key with
 |false=>
  rw[hk]at f g;go_enter Tryz.func97,Tryz.ntmps97;go_wp2_with fail;refine(f.out _).mono ?_;rintro e _ ⟨rfl,rfl⟩;go_wp2;refine bodyPost_ret (v:=.tuple #[plv 0 (.slice none 0 0) (.slice none 0 0),.bool false]) (by simp[results,Tryz.results97,go_sem,q,r,s]) rfl ⟨_,rfl, ?_,Q0v d.out (Kaq _) _ _ _⟩;rw[g.out,if_neg (by simp)];exact Q9T _ _ _ (Q0v d.out (Kaq _) _ _ _).size
 |true=>
  have C:=Q02 hk;rw[hk]at f g;clear hk;go_enter Tryz.func97,Tryz.ntmps97;go_wp2_with fail;refine(f.out _).mono ?_;rintro e _ ⟨rfl,rfl⟩;have E:=Q02 (Q9L key none 0 0 none 0 none 0 [] F [] (by simp) (.inl rfl) (by simp) (fun _=>rfl) (.inl rfl) (by simp) C.out rfl);go_wp2_with fail;refine(E.out).mono ?_;rintro e O ⟨N,c2,rfl,x,a⟩;have A:=Q02 x;have I:=a.size;clear x;replace q:=bC a q b;replace r:=bC a r b;replace s:=bC a s b;replace j:=bF a j b;replace k:=bF a k b;replace m:=bF a m b;replace b:=Kbq b a.size
  replace d:=Q02 (d.out.trans (a.mono d.out.size));clear a;have D:=Q02 (Q5n key none 0 [] N c2 (Q2y key []::([]:List Pt).take 2) O (.inl rfl) (fun _=>rfl) (by simp) (ownL.rds (L:=Q1T) A.out) (by simp));go_wp2_with fail;refine(D.out).mono ?_;rintro e P ⟨R,rfl,u,a⟩;have t:=Q02 u;have J:=a.size;clear u;obtain⟨z,y,p,i,H⟩:∃(z:Option Addr) (y:Nat) (p:Option Addr) (i:Nat),R=plv key (.slice z 0 y) (.slice p 1 i):=t.out.opn;subst H;replace q:=bC a q b;replace r:=bC a r b;replace s:=bC a s b;replace j:=bF a j b
  replace k:=bF a k b;replace m:=bF a m b;replace b:=Kbq b a.size;replace d:=Q02 (d.out.trans (a.mono d.out.size));clear a;go_wp2;refine bodyPost_ret (v:=.tuple #[plv key (.slice z 0 y) (.slice p 1 i),.bool true]) (by simp[results,Tryz.results97,go_sem,q,r,s]) rfl ⟨_,rfl, ?_,Q0v d.out (Kaq _) _ _ _⟩;rw[g.out,if_pos trivial,Q2O];have h:=t.out.step (Q33 P w.heap.size (.int .i64 key) (.slice z 0 y) (.slice p 1 i)) (.inl (by omega))
  have G:(Q2y key []::([]:List Pt).take 2).map Q41=Q17 key [[]]:=by simp[Q17,Q2Z,Q92 key (l:=[]) rfl]
  rw[G]at h;exact InPm.mono h (by omega)
abbrev Q1Q (W:World) (R:Nat) (x0 x1 x2 x3 x4 x5 x6:Value):World:=((((((W.setCell ⟨R,0,none⟩ x0).setCell ⟨R,1,none⟩ x1).setCell ⟨R,2,none⟩ x2).setCell ⟨R,3,none⟩ x3).setCell ⟨R,4,none⟩ x4).setCell ⟨R,5,none⟩ x5).setCell ⟨R,6,none⟩ x6
theorem Q0U (W:World) (R:Nat) (a b c d f g h:Value):Stp R (R+1) W (Q1Q W R a b c d f g h):=((((((Q0w W R 0 a).trans (Q0w _ R 1 b)).trans (Q0w _ R 2 c)).trans (Q0w _ R 3 d)).trans (Q0w _ R 4 f)).trans (Q0w _ R 5 g)).trans (Q0w _ R 6 h)
theorem Q0y (W:World) (R:Nat) (x0 x1 x2 x3 x4 x5 x6:Value):(Q1Q W R x0 x1 x2 x3 x4 x5 x6).heap.size=W.heap.size:=by simp[World.setCell]
theorem Q0r {C:Nat} {w W:World} {R:Nat} (h:Below C w W) (a:C<=R) (b c d f g i j:Value):Below C w (Q1Q W R b c d f g i j):=((((((h.setCell (p:=⟨R,0,none⟩) a _).setCell (p:=⟨R,1,none⟩) a _).setCell (p:=⟨R,2,none⟩) a _).setCell (p:=⟨R,3,none⟩) a _).setCell (p:=⟨R,4,none⟩) a _).setCell (p:=⟨R,5,none⟩) a _).setCell (p:=⟨R,6,none⟩) a _
theorem Qa6 {a b d f:Nat} {w:World} {v:Value} {m:Pm} (h:InPm a b w v m) (g:d<=a) (h2:b<=f):InPm d f w v m:=by
 obtain⟨k,l,c,e,n,p,i,j⟩:=h;exact⟨k,l,c,e,by omega,by omega,InRow.mono i g (Kaq _),InRows.mono.go j (Kaq _) h2⟩
theorem QeN {a b b':Nat} {w:World} {v:Value} {m:List Sl} (h2:b<=b') (h:InTb a b w v m):InTb a b' w v m:=by
 obtain⟨vl,e,i1⟩:=h;exact⟨vl,e,InRow.mono i1 (Kaq _) h2⟩
def Q0x (m:Jm):Pm:=if Q0f m.key m.l m.safe=true then⟨m.key,Q0i m.l m.l.length,Q17 m.key (Q1f m.l m.l.length)⟩else pm0
theorem Q81 (cs:List Cd):∀n,(Q1f cs n).length<=3
 |0=>by simp[Q1f]
 |n+1=>by rw[Q1f,List.length_take];omega
theorem Q3u (m:Jm):Q2q (Q0x m):=by
 unfold Q0x
 split
 ·next h=>exact Q7k m.key _ _ (by have:=(Q4b h).2;omega) (Q81 _ _)
 ·exact⟨by simp[pm0],by simp[pm0],by simp[pm0,szR,QdI],fun i hi=>absurd hi (KMq _),fun i hi=>absurd hi (KMq _)⟩
theorem Qfa {w:World} {base:Nat} {key:Int} {hs:List Hd} {R:List (List Bk)} (h:PTabs w base key hs R):GTabs w base hs (Q17 key R):=by
 refine⟨by rw[h.1];simp[Q17],fun i hi=>?_⟩
 have a:i < R.length:=by simpa[Q17]using hi
 obtain⟨f,c,b,e,d,h2⟩:=h.2 i a;rw[Q2X _ _ _ a];exact⟨f,c,b,by rw[Q1G];exact e,by rw[Q1G];exact d,Qb8 h2⟩
def Q69 (cs:List Cd) (a:Nat):Nat->List (List Bk)
 |0=> []
 |j+1=>Q0i cs (a+j)::Q69 cs a j
theorem Q2k (cs:List Cd) (a:Nat):∀j,(Q69 cs a j).length=j
 |0=>rfl
 |j+1=>by simp[Q69,Q2k cs a j]
theorem Qd8 (cs:List Cd) (a j:Nat) (key:Int) (b:j<=2):Q2y key (Q0i cs (a+j))::((Q69 cs a j).map (Q2y key)).take 2=(Q69 cs a (j+1)).map (Q2y key):=by
 rw[List.take_of_length_le (by rw[List.length_map,Q2k];exact b)]
 rfl
theorem Q7C (cs:List Cd):∀n,Q1f cs (n+2)=[Q0i cs (n+2),Q0i cs (n+1),Q0i cs n]
 |0=>rfl
 |n+1=>by rw[Q1f,Q7C cs n];rfl
theorem QcK (cs:List Cd) (n:Nat):Q1f cs n=Q69 cs (n+1 - 3) (n+1 - (n+1 - 3)):=by
 match n with
 |0=>rfl
 |1=>rfl
 |n+2=>
  rw[Q7C,show n+2+1 - 3=n by omega,show n+2+1 - n=3 by omega];simp[Q69]
theorem QbZ {cs:List Cd} {a:Nat} (h:∀q,q < cs.length+1->Q0b (Q0i cs q)=true):∀j,a+j<=cs.length+1->∀l∈Q69 cs a j,Q0b l=true
 |0,_=>fun l b=>by simp[Q69]at b
 |j+1,hj=>fun l b=>by
  rcases List.mem_cons.1 b with rfl|b
  ·exact h _ (by omega)
  ·exact QbZ h j (by omega) l b
theorem Qfy {key:Int} {L:List (List Bk)} (h:∀l∈L,Q0b l=true):(L.map (Q2y key)).map Q41=Q17 key L:=by
 rw[List.map_map];exact List.map_congr_left (fun l hl=>Q92 key (h l hl))
theorem Q2P {key safe:Int} {cs:List Cd} (h:Q0f key cs safe=true):∀q,q < cs.length+1->Q0b (Q0i cs q)=true/\(Q0i cs q).length<=100:=fun q c=>by
 obtain⟨l,a⟩:=Q6f (Q1y h) (show q<=cs.length by omega);have b:=Q4v q l (by omega) a;have h2:=(Q0K h).2.1;unfold Q0i;rw[a];exact⟨b.1,by simp only[Option.getD_some];omega⟩
def bvS (hs:List Hd) (a:Nat):Nat->Value
 |0=> .slice none 0 0
 |j+1=>hv hs (a+j)
theorem Qg0 (hs:List Hd) (a:Nat):∀(j n:Nat),1<=j->a+(j - 1)=n->bvS hs a j=hv hs n
 |0,n,h,_=>absurd h (by omega)
 |j+1,n,_,h=>by
  rw[<-h]
  rfl
theorem Q5G {α:Type} {L:Lay α} {T:TypeId} {w:World} {base:Nat} {o:Option Addr} {n c:Nat} {a:List α} (h:ownL L T w base (.slice o n c) a):a.length<=c/\(o=none->c=0):=by
 rcases h.2 with⟨e,d⟩|⟨g,cap,b,e,_,_,f,_⟩
 ·injection e with e1 e2 e3
  exact⟨by omega,fun _=>e3⟩
 ·injection e with e1 e2 e3
  exact⟨by omega,fun h=>by rw[h]at e1;cases e1⟩
theorem Q3I (v:Value) (m:Jm) (w:World) (hR:RdJm w.heap.size w v m) (aL:capJm v) (hf:Q6L m):
  Calls Tryz.prog 28 #[v] w fun e w'=> ∃v',e=.returned (.tuple #[v',.bool (Q0f m.key m.l m.safe)])/\InPm w.heap.size w'.heap.size w' v' (Q0x m)/\Below w.heap.size w w':=by
 have aJ:=hR;obtain⟨vl,rfl,⟨o,c,rfl,r⟩⟩:=aJ;clear aL hR;obtain⟨key,l,safe⟩:=m;dsimp only at *;have y:=Q02 (show Q0x ⟨key,l,safe⟩=if Q0f key l safe=true then⟨key,Q0i l l.length,Q17 key (Q1f l l.length)⟩else pm0 from rfl);have aa:=Q02 (fun h:Q0f key l safe=true=>And.intro (Q0K h) (And.intro (Q1y h) (And.intro (Q2P h) (Q3u ⟨key,l,safe⟩))));unfold Q6L at hf;dsimp only at hf;obtain⟨W0,p⟩:∃W,((w.alloc (.cells #[.int .i64 key,.slice o l.length c,.int .i64 safe] 25)).alloc (.cells #[.int .i64 0,.slice none 0 0,.slice none 0 0] 29))=W:=⟨_,rfl⟩;have F:=alb0v0v2 p;have D:=Q02 F
 clear F;have I:=alz0v0v2 p;obtain⟨z0,z1,z2⟩:=alc3v0v2 p;have k:=alz0v1v2 p;obtain⟨Y,Z,r2⟩:=alc3v1v2 p;obtain⟨z,A,B⟩:=alf3v1v2 p;have aE:=Q02 (show W0.heap[w.heap.size+1]? =some (.cells #[.int .i64 0,.slice none 0 0,.slice none 0 0] 29 (0,0))by rw[<-p];exact Q1P w _ _ _);have aQ:=k;have O:=Q02 (Q8a key safe o c l W0 ((r.kept D.out (Kaq _)).le D.out.size) hf);clear r
 cases hj:Q0f key l safe with
 |false=>
  rw[hj]at O y;clear aa hj;go_enter Tryz.func28,Tryz.ntmps28;go_wp2_with fail;refine(O.out).mono ?_;rintro e f ⟨v9,rfl,_,b⟩;replace z0:=bC b z0 I;replace z1:=bC b z1 I;replace z2:=bC b z2 I;replace I:=Kbq I b.size;replace Y:=bC b Y k;replace Z:=bC b Z k;replace r2:=bC b r2 k;replace z:=bF b z k;replace A:=bF b A k;replace B:=bF b B k;replace k:=Kbq k b.size;replace D:=Q02 (D.out.trans (b.mono D.out.size));clear b;go_wp2
  refine bodyPost_ret (v:=.tuple #[plv 0 (.slice none 0 0) (.slice none 0 0),.bool false]) (by simp[results,Tryz.results28,go_sem,Y,Z,r2]) rfl ⟨_,rfl, ?_,Q0v D.out (Nat.le_succ _) _ _ _⟩;rw[y.out,if_neg (by simp)];exact Q9T _ _ _ (Q0v D.out (Nat.le_succ _) _ _ _).size
 |true=>
  obtain⟨⟨hk,hl,h0,h1⟩,ax,ay,aM⟩:=aa.out hj;have ae:=Q02 ay;have HK:=Q02 hk;rw[hj]at O y;clear aa hj ay hk aM ax;go_enter Tryz.func28,Tryz.ntmps28;go_wp2_with fail;refine(O.out).mono ?_;rintro e f ⟨v9,rfl,G,b⟩;obtain⟨hs,av,U⟩:=G (by simp);have E:=Q02 av;have ad:=Q02 U;have a6:=b.size;have aj:=Q02 ((b.block _ aQ).trans aE.out);clear G av U;replace z0:=bC b z0 I;replace z1:=bC b z1 I;replace z2:=bC b z2 I;replace I:=Kbq I b.size;replace Y:=bC b Y k;replace Z:=bC b Z k;replace r2:=bC b r2 k;replace z:=bF b z k
  replace A:=bF b A k;replace B:=bF b B k;replace k:=Kbq k b.size;replace D:=Q02 (D.out.trans (b.mono D.out.size));clear b;have ab:=Q02 ad.out.len;obtain⟨g9,c9,e9⟩:=Q2S E.out (by rw[ab.out];omega);subst e9;have aK:hs.length<=c9:=(Q5G E.out).1;have aN:g9 < f.heap.size:=(E.out.lt g9 rfl).2;have a5:W0.heap.size<=g9:=(E.out.lt g9 rfl).1;obtain⟨N,hN⟩:∃N,hs.length=N:=⟨_,rfl⟩;have HN:=Q02 (show N=l.length+1 by rw[<-hN];exact ab.out);have aW:=Q02 hN;rw[hN]at aK ⊢
  have aY:1<=N:=by have:=HN.out;omega
  clear hN;obtain⟨a,ha⟩:∃a,N - 3=a:=⟨_,rfl⟩
  have a3:a < N:=by omega
  have aR:(a:Int) < (N:Int):=by omega
  have a4:¬(c9=a):=by omega
  have aT:(a:Int)<=(c9:Int):=by omega
  have aS:(a:Int)<=(N:Int):=by omega
  have aP:max (0:Int) ((N:Int) - 3)=(a:Int):=by omega
  have HA:=Q02 ha
  have aI:N<=101:=by have:=HN.out;omega
  clear ha;go_wp2;obtain⟨W1,P⟩:∃W,f.alloc (.cells #[.int .i64 key,.slice none 0 0,.slice none 0 0] 127)=W:=⟨_,rfl⟩;rw[P];have az:=alx0v0v1 P;have ao:=alb0v0v1 P;have an:=Q02 az;have C:f.heap.size < W1.heap.size:=(KEq an.out);have aB:=Q02 ao;clear az ao P z0 z1 z2 Y Z r2 z A B;obtain⟨M,hM⟩:∃M,N - a=M:=⟨_,rfl⟩;rw[hM];have HM:=Q02 hM
  have aX:M<=3:=by have:=HA.out;omega
  have aH:1<=M:=by omega
  have aZ:a+M=N:=by omega
  clear hM aP
  go_loopw [27] (fun iv wr=> ∃(j:Nat) (oR:Option Addr) (cR:Nat) (ob:Option Addr) (nb cb:Nat),j<=M/\iv=.int .i64 (j:Int)/\Hid (wr.heap[f.heap.size]? =some (.cells #[.int .i64 key,.slice ob nb cb,.slice oR j cR] 127 (0,0)))/\Hid (bvS hs a j=.slice ob nb cb)/\Hid (ownL Q1T 188 wr W1.heap.size (.slice oR j cR) ((Q69 l a j).map (Q2y key)))/\Hid (Stp f.heap.size (f.heap.size+1) W1 wr)/\W1.heap.size<=wr.heap.size)
   (fun iv _=>M - (intOf iv).toNat)
  case atStart=>exact⟨0,none,0,none,0,0,Kcq _,rfl,an.out,rfl,KLq _ _ _ _,Stp.refl _,Kaq _⟩
  case round=>
   obtain⟨j,oR,cR,ob,nb,cb,hj,rfl,J,aD,ac,am,ah⟩:=hrel;have g:=Q02 (aB.out.trans (am.out.below (Kaq _) (KIq C)));have p0:wr.cell? ⟨f.heap.size,0,none⟩=some (.int .i64 key):=Q00 J.out 0 _ rfl;have p1:wr.cell? ⟨f.heap.size,1,none⟩=some (.slice ob nb cb):=Q00 J.out 1 _ rfl;have p2:wr.cell? ⟨f.heap.size,2,none⟩=some (.slice oR j cR):=Q00 J.out 2 _ rfl;have u:=Q5G ac.out;rw[List.length_map,Q2k]at u
   by_cases hlt:j < M
   ·skip
    have aU:(j:Int) < (M:Int):=by omega
    have ag:a+j < l.length+1:=by have:=HN.out;omega
    have d:=ad.out.row (a+j) ag;obtain⟨oK,cK,V,rK⟩:=ownL.open (L:=Q16) d;have X:=Q4B (V ▸ d);have aq:=bC g.out (Q2T E.out (a+j) (by rw[ab.out];exact ag)) aN;rw[V]at aq;have ak:=Q02 V;have x:=ae.out (a+j) ag;have hw:=Q9L key ob nb cb oR cR oK cK (Q0i l (a+j)) wr ((Q69 l a j).map (Q2y key)) (by rw[List.length_map,Q2k];omega) (ownL.rds (L:=Q1T) ac.out) (by rw[List.length_map,Q2k];exact u.1) u.2 ((rK.kept g.out (Kaq _)).le (Kdq (KIq C) ah)) (by omega) HK.out x.1;rw[Qd8 l a j key (by omega)]at hw
    simp only[List.length_map,Q2k]at hw;have HW:=Q02 hw;clear hw x rK d V;obtain⟨nk,au⟩:∃n,(Q0i l (a+j)).length=n:=⟨_,rfl⟩;rw[au]at aq HW ak;clear au;go_wp2_with fail;refine HW.out.mono ?_;rintro e v2 ⟨o2,c2,rfl,aA,R⟩;have aV:=R.size;have i:=(R.block _ (show f.heap.size < wr.heap.size by omega)).trans J.out;have a0:v2.cell? ⟨f.heap.size,0,none⟩=some (.int .i64 key):=Q00 i 0 _ rfl;have f0:=Q01 i 0;have a1:v2.cell? ⟨f.heap.size,1,none⟩=some (.slice ob nb cb):=Q00 i 1 _ rfl;have f1:=Q01 i 1
    have a2:v2.cell? ⟨f.heap.size,2,none⟩=some (.slice oR j cR):=Q00 i 2 _ rfl;have f2:=Q01 i 2;have aF:Hid ((setP v2 f.heap.size (.int .i64 key) (.slice oK nk cK) (.slice o2 (j+1) c2)).heap[f.heap.size]? =some (.cells #[.int .i64 key,.slice oK nk cK,.slice o2 (j+1) c2] 127 (0,0))):=Q05 (Q05 (Q05 i 0 _) 1 _) 2 _;have HO9':=Q02 (Q0j (Q0j (Q0j (Q04 aA ah) C 0 (.int .i64 key)) C 1 (.slice oK nk cK)) C 2 (.slice o2 (j+1) c2));have HS9':=Q02 ((am.out.trans (Stp.of R)).trans (Q33 v2 f.heap.size (.int .i64 key) (.slice oK nk cK) (.slice o2 (j+1) c2)))
    have U:W1.heap.size<=v2.heap.size:=by omega
    clear aA R i p0 p1 p2;go_wp2;go_roundw
    case rel=>exact⟨j+1,o2,c2,oK,nk,cK,by omega,by go_num,aF.out,ak.out,HO9'.out,HS9'.out,by simpa using U⟩
    case measure=>simp[intOf];omega
   ·skip
    have e:j=M:=by omega
    subst e
    have aO:a+(j - 1)=l.length:=by have:=HN.out;omega
    have d:=ad.out.row l.length (by omega);obtain⟨oK,cK,V,rK⟩:=ownL.open (L:=Q16) d;have X:=Q4B (V ▸ d);have ap:=Qg0 hs a j l.length aH aO;rw[aD.out,V]at ap;injection ap with e1 e2 e3;subst e1 e2 e3;have x:=ae.out l.length (by omega);have hp:=Q5n key ob cb (Q0i l l.length) oR cR ((Q69 l a j).map (Q2y key)) wr ((rK.kept g.out (Kaq _)).le (Kdq (KIq C) ah)) X (by omega) (ownL.rds (L:=Q1T) ac.out) (by rw[List.length_map,Q2k];omega);rw[Qfy (QbZ (fun q hq=>(ae.out q hq).1) j (by have:=HN.out;omega))]at hp;simp only[List.length_map,Q2k]at hp
    have H:Q69 l a j=Q1f l l.length:=by rw[QcK,<-HN.out,HA.out,HM.out]
    rw[H]at hp;have HP:=Q02 hp;clear hp H d V rK x;obtain⟨sv,x⟩:∃s,Q0i l l.length=s:=⟨_,rfl⟩;rw[x]at HP y p1;obtain⟨rg,aw⟩:∃s,Q17 key (Q1f l l.length)=s:=⟨_,rfl⟩;rw[aw]at HP y;clear x aw;go_wp2_with fail;refine HP.out.mono ?_;rintro e v3 ⟨v9,rfl,ar,T⟩;have al:=Q02 ar;have a7:=T.size;clear ar;obtain⟨o9,aG,ai,af,e9⟩:∃(o9:Option Addr) (c9:Nat) (ai:Option Addr) (af:Nat),v9=plv key (.slice o9 sv.length c9) (.slice ai rg.length af):=al.out.opn;subst e9
    have t:=(T.block _ (show w.heap.size+1 < wr.heap.size by omega)).trans ((g.out.block _ (show w.heap.size+1 < f.heap.size by omega)).trans aj.out);have Y:v3.cell? ⟨w.heap.size+1,0,none⟩=some (.int .i64 0):=Q00 t 0 _ rfl;have z:=Q01 t 0;have Z:v3.cell? ⟨w.heap.size+1,1,none⟩=some (.slice none 0 0):=Q00 t 1 _ rfl;have A:=Q01 t 1;have r2:v3.cell? ⟨w.heap.size+1,2,none⟩=some (.slice none 0 0):=Q00 t 2 _ rfl;have B:=Q01 t 2;have aC:=Q02 ((D.out.trans (g.out.mono D.out.size)).trans (T.mono (by omega)));clear T t;go_wp2
    refine bodyPost_ret (v:=.tuple #[plv key (.slice o9 sv.length aG) (.slice ai rg.length af),.bool true]) (by simp[results,Tryz.results28,go_sem,Y,Z,r2]) rfl ⟨_,rfl, ?_,Q0v aC.out (Nat.le_succ _) _ _ _⟩;rw[y.out,if_pos trivial,Q2O];exact InPm.mono (al.out.step (Q33 v3 (w.heap.size+1) _ _ _) (.inl (by omega))) (by omega)
def RcPm (lo hi:Nat) (w:World) (v:Value) (m:Pm):Prop:=∃vb vr,v=plv m.key vb vr/\RiV Q16 lo hi w vb m.l/\Qi3 vb/\RcR lo hi w vr m.ring/\Qi3 vr
theorem InT.rc {lo hi:Nat} {w:World} {v:Value} {ll:List (List Int)} (h:InT lo hi w v ll):RcT lo hi w v ll:=InRows.ri RcI.mon (fun q=>⟨InRow.ri q,InRow.cap q⟩) h
theorem InR.rc {lo hi:Nat} {w:World} {v:Value} {ll:List (List (List Int))} (h:InR lo hi w v ll):RcR lo hi w v ll:=InRows.ri RcT.mon (fun q=>InT.rc q) h
theorem InPm.rc {lo hi:Nat} {w:World} {v:Value} {m:Pm} (h:InPm lo hi w v m):RcPm 0 hi w v m:=by
 obtain⟨f,g,d,e,i,c,a,h2⟩:=h;obtain⟨hs,L,H,b,_⟩:=id h2;exact⟨f,g,e,(InRow.ri a).mono (Kcq _) c,InRow.cap a,RcR.mon.go (InR.rc h2) (Kcq _) (Kaq _),InRow.cap b⟩
theorem RcPm.le {lo C D:Nat} {w:World} {v:Value} {m:Pm} (h:RcPm lo C w v m) (a:C<=D):RcPm lo D w v m:=by
 obtain⟨f,g,e,b,h2,c,d⟩:=h;exact⟨f,g,e,b.mono (Kaq _) a,h2,RcR.mon.go c (Kaq _) a,d⟩
theorem RcPm.kept {lo C D:Nat} {w b:World} {v:Value} {m:Pm} (h:RcPm lo C w v m) (a:Below D w b) (j:C<=D):RcPm lo C b v m:=by
 obtain⟨g,i,e,c,h2,d,f⟩:=h;have s:Stp C (w.heap.size+C) w b:=⟨a.os,a.tape,a.output,a.size,fun k l n=>a.block k (by omega)⟩;exact⟨g,i,e,c.step s (.inr (Kaq _)),h2,RcR.stp.go d s (.inr (Kaq _)),f⟩
theorem RcPm.mono {a b c d:Nat} {w:World} {v:Value} {m:Pm} (h:RcPm a b w v m) (f:c<=a) (g:b<=d):RcPm c d w v m:=by
 obtain⟨l,n,e,i,h2,j,k⟩:=h;exact⟨l,n,e,i.mono f g,h2,RcR.mon.go j f g,k⟩
theorem RcPm.step {a b lo hi:Nat} {w d:World} {v:Value} {m:Pm} (h:RcPm a b w v m) (s:Stp lo hi w d) (c:hi<=a\/b<=lo):RcPm a b d v m:=by
 obtain⟨j,k,e,f,h2,g,i⟩:=h;exact⟨j,k,e,f.step s c,h2,RcR.stp.go g s c,i⟩
theorem Q70 {w:World} {base:Nat} {key:Int} {l:List Bk} {hs:List Hd} {a:List (List (List Int))} {f g:Option Addr} {b c2 n c:Nat} (i:b=l.length) (d:Q1e w base (.slice f b c2) l) (h2:ownL Q0E 51 w base (.slice g n c) hs) (h:GTabs w base hs a):RcPm base w.heap.size w (plv key (.slice f b c2) (.slice g n c)) ⟨key,l,a⟩:=by
 subst i;exact⟨_,_,rfl,InRow.ri (InRow.of d),InRow.cap (InRow.of d),GTabs.rc h h2,InRow.cap (InRow.of h2)⟩
theorem QdY {w:World} {base:Nat} {key:Int} {l:List Bk} {d:Option Addr} {a c2:Nat} (f:a=l.length) (b:Q1e w base (.slice d a c2) l):RcPm base w.heap.size w (plv key (.slice d a c2) (.slice none 0 0)) ⟨key,l,[]⟩:=by
 subst f;exact⟨_,_,rfl,InRow.ri (InRow.of b),InRow.cap (InRow.of b),⟨[],rfl,⟨none,0,rfl,.inl rfl⟩,fun i h=>absurd h (KMq _)⟩,fun n c e=>by injection e with _ _ e3;exact e3.symm⟩
theorem RcPm.opn {lo hi:Nat} {w:World} {v:Value} {m:Pm} (h:RcPm lo hi w v m):∃(o:Option Addr) (c:Nat) (b:Option Addr) (a:Nat),v=plv m.key (.slice o m.l.length c) (.slice b m.ring.length a):=by
 obtain⟨g,i,e,⟨o,c,d,_⟩,_,h2,_⟩:=h;obtain⟨b,a,f⟩:=RiR.len (RcR.ri h2);exact⟨o,c,b,a,by rw[e,d,f]⟩
theorem RcPm.rd {lo hi:Nat} {w:World} {v:Value} {m:Pm} (h:RcPm lo hi w v m):Q4P hi w v m:=by
 obtain⟨b,c,e,a,_,h2,_⟩:=h;exact⟨b,c,e,a.mono (Kcq _) (Kaq _),RiR.mon.go (RcR.ri h2) (Kcq _) (Kaq _)⟩
theorem QcI (key:Int) (o:Option Addr) (cap:Nat) (l:List Bk) (g:Option Addr) (d:Nat) (a:List (List (List Int))) (n:Nat) (f:n=a.length) (w:World) (p:RdK w.heap.size w o l) (s:o=none->cap=0) (b:l.length<=1048576) (m:RcR 0 w.heap.size w (.slice g n d) a) (r:n<=1048576) (t:∀i,i < a.length->(a.getD i []).length<=1048576) (u:∀i,i < a.length->∀j,j < (a.getD i []).length->((a.getD i []).getD j []).length<=1048576):
  Calls Tryz.prog 165 #[plv key (.slice o l.length cap) (.slice g n d)] w fun e c=> ∃v,e=.returned v/\RcPm w.heap.size c.heap.size c v ⟨key,l,a⟩/\Below w.heap.size w c:=by
 refine(QbV key o cap l g d a n f w p s b m r t u).mono ?_;rintro e c ⟨y,c2,z,x,hs,rfl,h,h2,k,q⟩;exact⟨_,rfl,Q70 rfl h h2 k,q⟩
theorem Q5V {lo hi:Nat} {w:World} {v:Value} {m:Bm} (h:InBm lo hi w v m) (G:hi<=w.heap.size):∃(o:Option Addr) (c:Nat) (f:Option Addr) (b:Nat) (d:Option Addr) (a:Nat) (g:Option Addr) (i:Nat),v=Q0O m.j.key (.slice o m.j.l.length c) m.j.safe m.p.key (.slice f m.p.l.length b) (.slice d m.p.ring.length a) (.slice g m.t.length i)/\RdC w.heap.size w o m.j.l/\(o=none->c=0)/\Q4P w.heap.size w (plv m.p.key (.slice f m.p.l.length b) (.slice d m.p.ring.length a)) m.p/\RdS w.heap.size w g m.t:=by
 obtain⟨R,P,T,U,H,I,L,M,N,O,e,J,y,z,B⟩:=h;have A:=y.cap;obtain⟨E,s,o,c,k,C⟩:=y.rd;obtain⟨f,b,d,a,u⟩:=z.opn;obtain⟨F,x,g,i,r,D⟩:=B.rd;simp only[Value.agg.injEq,Array.mk.injEq,List.cons.injEq,and_true,true_and]at s u x;obtain⟨n,q⟩:=u;subst s k x r n q;exact⟨o,c,f,b,d,a,g,i,e,C.le (by omega),capJm.one A,z.rd.le (by omega),D.le (by omega)⟩
end Go.Proofs.YtpneolgdghbinaaGreat
