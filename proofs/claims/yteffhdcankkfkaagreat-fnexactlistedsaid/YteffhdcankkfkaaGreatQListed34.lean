/- Several texts in one: SPw2, SPn, SOwn4, SPNew, SBBox, ShBal3, SRepl, SRepl2, BalIn. -/
import Derived.Great.BuildSlice
import Derived.Test.YteffhdcankkfkaaGreatQListed33
namespace Go.Proofs.YteffhdcankkfkaaGreat
open Go.ChangeShapes Go.WideShapes Go.ChangeAt Go.RowKit Go.Joins
set_option linter.unusedVariables false
set_option linter.unusedSimpArgs false
set_option maxRecDepth 100000
set_option maxHeartbeats 40000000
def Q1O:Lay Pt:=⟨24,ptL,ptZ,fun _=>rfl⟩
theorem QgY:(Tryz.prog.info? 266).map (fun i=>(i.zero,i.size,i.bytes))=some (some (.agg #[.bool false,.int .i64 0,.int .i64 0,.bool false,.int .i64 0,.int .i64 0,.bool false,.int .i64 0,.int .i64 0,.bool false,.int .i64 0,.int .i64 0,.bool false,.int .i64 0,.int .i64 0,.bool false,.int .i64 0,.int .i64 0,.bool false,.int .i64 0,.int .i64 0,.bool false,.int .i64 0,.int .i64 0]),24,192):=by kernel_rfl
theorem Qhh (f:Pt):∀u∈Q1O.cs f,u.oneCell'=true:=fun v hv=>by
 have b:v∈ptL f:=hv;unfold ptL at b;simp only[List.mem_flatMap,QgK,List.mem_cons,List.not_mem_nil,or_false]at b;obtain⟨a,_,rfl|rfl|rfl⟩:=b <;> rfl
theorem Qil:AppOk Q1O 216 266:=⟨Tryz.underlying216,⟨_,_,QgY,rfl,by decide⟩,by decide,Qhh⟩
theorem QhS (f:Pt) (s:Nat) (z:Value) (hs:s=24) (a:z.cells.size=24):Instr.fill (fun i=>some (i * s,s)) ((Array.range (1 * s)).map (z.cells[· % z.cells.size]!)) [(0,ptv f)]=some (ptA f):=by
 subst hs;have h:=Great.fill_whole (s:=24) (by decide) [ptv f] ((Array.range (1 * 24)).map (z.cells[· % z.cells.size]!)) (fun v hv=>by simp at hv;subst hv;rfl) (by simp)
 simpa[ptv,Value.cells]using h
theorem Q1I {b:Array Oper} {rest:List Oper} {o:Oper} {a:Act} {w:World} {Q:Exit->Act->World->Prop} (c:o.guard=none) (x:Operand) (d:o.op=.buildSlice 216 1 #[(0,x)]) (f:Pt) (g:a.eval x=ptv f)
  (h:wpList Tryz.prog b Q rest (a.put o.dst (.slice (some ⟨w.heap.size,0,none⟩) 1 1)) (w.alloc (.cells (ptA f) 266))):wpList Tryz.prog b Q (o::rest) a w:=by
 have hi:=QgY
 cases hq:Tryz.prog.info? 266 with
 |none=>simp[hq]at hi
 |some i=>
  simp[hq]at hi;refine wpList_buildSlice c _ 266 1 _ d (ptA f) i _ Tryz.underlying216 hq hi.1 (by rw[hi.2.1];decide) (by rw[hi.2.1];decide) ?_ h;simp only[List.map_toArray,List.map_cons,List.map_nil,g];exact QhS f _ _ hi.2.1 rfl
theorem Q4N (w:World) (f:Pt):ownL Q1O 266 (w.alloc (.cells (ptA f) 266)) w.heap.size (.slice (some ⟨w.heap.size,0,none⟩) 1 1) [f]:=
 ⟨by simp[Q1O,Qbh],.inr ⟨w.heap.size,1,ptA f,rfl,Kaq _,heap_alloc_new w _,by simp,by unfold maxLen;omega,by rw[Qcl];rfl,by simp[Q1O,ptA];exact List.take_of_length_le (by rw[Qbh];exact Kaq _)⟩⟩
theorem Q0D {C:Nat} {w W:World} {B:Nat} (h:Below C w W) (hB:C<=B) (x y z:Value):Below C w (setP W B x y z):=((h.setCell (p:=⟨B,0,none⟩) hB _).setCell (p:=⟨B,1,none⟩) hB _).setCell (p:=⟨B,2,none⟩) hB _
theorem Q65 {C:Nat} {w:World} {o:Option Addr} {a:List Pt} (h:RdL Q1O C w o a):RdL Q1O C w o (a.take 2):=by
 rcases h with h|⟨b,c,l,g,r⟩
 ·left;rw[h];rfl
 ·refine .inr ⟨b,c,l,g,fun i hi j k=>?_⟩
  have f:i < 2:=by simp at hi;omega
  have h2:i < a.length:=by simp at hi;omega
  have e:(a.take 2).getD i Q1O.d=a.getD i Q1O.d:=by simp[KFq,List.getElem?_take,f]
  rw[e];exact r i h2 j k
abbrev Q5x (key:Int) (vb vr:Value):Value:=.agg #[.int .i64 key,vb,vr]
theorem Qi3 (key:Int) (ob:Option Addr) (nb U:Nat) (B:Option Addr) (F:Nat) (o:Option Addr) (cap:Nat) (l:List Bk) (w:World) (V:RdL Q1O w.heap.size w B ([]:List Pt)) (hc:0<=F) (hn:B=none->F=0) (X:RdK w.heap.size w o l) (H:l.length<=1048576) (Z:Q1S key=true) (hl:Q0d l=true):
  Calls Tryz.prog 134 #[Q5x key (.slice ob nb U) (.slice B 0 F),.slice o l.length cap] w fun e w'=> ∃o2 R,e=.returned (Q5x key (.slice o l.length cap) (.slice o2 ((Q2E key l::([]:List Pt).take 2).length) R))/\ownL Q1O 266 w' w.heap.size (.slice o2 ((Q2E key l::([]:List Pt).take 2).length) R) (Q2E key l::([]:List Pt).take 2)/\Below w.heap.size w w':=by
 obtain⟨W0,m⟩:∃W,((w.alloc (.cells #[.int .i64 key,.slice ob nb U,.slice B 0 F] 218)).alloc (.cells #[.int .i64 0,.slice none 0 0,.slice none 0 0] 218))=W:=⟨_,rfl⟩;have p:=alb0v0v2 m;have d:=Q00 p;clear p;have q:=alz0v0v2 m;obtain⟨C,D,E⟩:=alc3v0v2 m;have c:=alz0v1v2 m;obtain⟨x,y,z⟩:=alc3v1v2 m;obtain⟨g,i,j⟩:=alf3v1v2 m;have aa:=c;have P:=Q00 (Q1i key o cap l W0 ((X.kept d.out (Kaq _)).le d.out.size) H Z hl);have HG:=Q00 (show RdL Q1O w.heap.size w B ([]:List Pt)from Q65 V);clear X V Z hl;obtain⟨f,Y⟩:∃f,Q2E key l=f:=⟨_,rfl⟩
 rw[Y]at P ⊢;clear Y;go_enter Tryz.func134,Tryz.ntmps134;go_wp2_with fail;refine(P.out).mono ?_;rintro e A ⟨rfl,n⟩;replace C:=bC n C q;replace D:=bC n D q;replace E:=bC n E q;replace q:=Kbq q n.size;replace x:=bC n x c;replace y:=bC n y c;replace z:=bC n z c;replace g:=bF n g c;replace i:=bF n i c;replace j:=bF n j c;replace c:=Kbq c n.size;replace d:=Q00 (d.out.trans (n.mono d.out.size));clear n;have I:=d.out.size;obtain⟨J,r⟩:∃W,A.alloc (.cells (ptA f) 266)=W:=⟨_,rfl⟩;have a:=alb0v0v1 r
 have N:=Q00 (show ownL Q1O 266 J A.heap.size (.slice (some ⟨A.heap.size,0,none⟩) 1 1) [f]by rw[<-r];exact Q4N A f);have t:A.heap.size<=J.heap.size:=a.size;have u:=c;replace C:=bC a C q;replace D:=bC a D q;replace E:=bC a E q;replace q:=Kbq q a.size;replace x:=bC a x c;replace y:=bC a y c;replace z:=bC a z c;replace g:=bF a g c;replace i:=bF a i c;replace j:=bF a j c;replace c:=Kbq c a.size;replace d:=Q00 (d.out.trans (a.mono d.out.size));clear a
 go_wp2_with (first|(refine Q1I rfl (.tmp 9) rfl f rfl ?_;rw[r])|(at_builtin;refine Q08 Qil rfl (.tmp 11) (.tmp 18) rfl A.heap.size _ [f] rfl N.out B F J.heap.size ([]:List Pt) 0 rfl rfl hn ((HG.out.kept d.out (Kaq _)).le d.out.size) (by simp) t ?_));intro v6 w6 s G _;obtain⟨o6,T,e6,_⟩:=ownL.open (L:=Q1O) s;subst e6
 have b:Below A.heap.size J w6:=KBq.mono t|>.grown G t (fun k h=>(N.out.lt k h).1)
 have O:=Q00 s;clear s G N;replace C:=bC b C (show _ < _ by omega);replace D:=bC b D (show _ < _ by omega);replace E:=bC b E (show _ < _ by omega);replace x:=bC b x (show _ < _ by omega);replace g:=bF b g (show _ < _ by omega);replace y:=bC b y (show _ < _ by omega);replace i:=bF b i (show _ < _ by omega);replace z:=bC b z (show _ < _ by omega);replace j:=bF b j (show _ < _ by omega);have M:=Q00 (d.out.trans (b.mono I));clear b d;go_wp2
 refine bodyPost_ret (v:=Q5x key (.slice o l.length cap) (.slice o6 ([f]++([]:List Pt)).length T)) (by simp[results,Tryz.results134,go_sem,x,y,z]) rfl ⟨o6,T,rfl, ?_,Q0D M.out (Nat.le_succ _) _ _ _⟩;exact Q06 (Q0i (Q0i (Q0i O.out u 0 _) u 1 _) u 2 _) I
theorem Qic (key:Int) (ob:Option Addr) (nb V:Nat) (C:Option Addr) (G:Nat) (o:Option Addr) (cap:Nat) (l:List Bk) (w:World) (a:Pt) (X:RdL Q1O w.heap.size w C ([a]:List Pt)) (hc:1<=G) (hn:C=none->G=0) (Y:RdK w.heap.size w o l) (I:l.length<=1048576) (hk:Q1S key=true) (hl:Q0d l=true):
  Calls Tryz.prog 134 #[Q5x key (.slice ob nb V) (.slice C 1 G),.slice o l.length cap] w fun e w'=> ∃o2 T,e=.returned (Q5x key (.slice o l.length cap) (.slice o2 ((Q2E key l::([a]:List Pt).take 2).length) T))/\ownL Q1O 266 w' w.heap.size (.slice o2 ((Q2E key l::([a]:List Pt).take 2).length) T) (Q2E key l::([a]:List Pt).take 2)/\Below w.heap.size w w':=by
 obtain⟨W0,n⟩:∃W,((w.alloc (.cells #[.int .i64 key,.slice ob nb V,.slice C 1 G] 218)).alloc (.cells #[.int .i64 0,.slice none 0 0,.slice none 0 0] 218))=W:=⟨_,rfl⟩;have q:=alb0v0v2 n;have g:=Q00 q;clear q;have r:=alz0v0v2 n;obtain⟨D,E,F⟩:=alc3v0v2 n;have d:=alz0v1v2 n;obtain⟨y,z,A⟩:=alc3v1v2 n;obtain⟨i,j,m⟩:=alf3v1v2 n;have aa:=d;have R:=Q00 (Q1i key o cap l W0 ((Y.kept g.out (Kaq _)).le g.out.size) I hk hl);have HG:=Q00 (show RdL Q1O w.heap.size w C ([a]:List Pt)from Q65 X);clear Y X hk hl;obtain⟨f,Z⟩:∃f,Q2E key l=f:=⟨_,rfl⟩
 rw[Z]at R ⊢;clear Z;go_enter Tryz.func134,Tryz.ntmps134;go_wp2_with fail;refine(R.out).mono ?_;rintro e B ⟨rfl,p⟩;replace D:=bC p D r;replace E:=bC p E r;replace F:=bC p F r;replace r:=Kbq r p.size;replace y:=bC p y d;replace z:=bC p z d;replace A:=bC p A d;replace i:=bF p i d;replace j:=bF p j d;replace m:=bF p m d;replace d:=Kbq d p.size;replace g:=Q00 (g.out.trans (p.mono g.out.size));clear p;have J:=g.out.size;obtain⟨M,s⟩:∃W,B.alloc (.cells (ptA f) 266)=W:=⟨_,rfl⟩;have b:=alb0v0v1 s
 have O:=Q00 (show ownL Q1O 266 M B.heap.size (.slice (some ⟨B.heap.size,0,none⟩) 1 1) [f]by rw[<-s];exact Q4N B f);have u:B.heap.size<=M.heap.size:=b.size;have x:=d;replace D:=bC b D r;replace E:=bC b E r;replace F:=bC b F r;replace r:=Kbq r b.size;replace y:=bC b y d;replace z:=bC b z d;replace A:=bC b A d;replace i:=bF b i d;replace j:=bF b j d;replace m:=bF b m d;replace d:=Kbq d b.size;replace g:=Q00 (g.out.trans (b.mono g.out.size));clear b
 go_wp2_with (first|(refine Q1I rfl (.tmp 9) rfl f rfl ?_;rw[s])|(at_builtin;refine Q08 Qil rfl (.tmp 11) (.tmp 18) rfl B.heap.size _ [f] rfl O.out C G M.heap.size ([a]:List Pt) 1 rfl rfl hn ((HG.out.kept g.out (Kaq _)).le g.out.size) (by simp) u ?_));intro v6 w6 t H _;obtain⟨o6,U,e6,_⟩:=ownL.open (L:=Q1O) t;subst e6
 have c:Below B.heap.size M w6:=KBq.mono u|>.grown H u (fun k h=>(O.out.lt k h).1)
 have P:=Q00 t;clear t H O;replace D:=bC c D (show _ < _ by omega);replace E:=bC c E (show _ < _ by omega);replace F:=bC c F (show _ < _ by omega);replace y:=bC c y (show _ < _ by omega);replace i:=bF c i (show _ < _ by omega);replace z:=bC c z (show _ < _ by omega);replace j:=bF c j (show _ < _ by omega);replace A:=bC c A (show _ < _ by omega);replace m:=bF c m (show _ < _ by omega);have N:=Q00 (g.out.trans (c.mono J));clear c g;go_wp2
 refine bodyPost_ret (v:=Q5x key (.slice o l.length cap) (.slice o6 ([f]++([a]:List Pt)).length U)) (by simp[results,Tryz.results134,go_sem,y,z,A]) rfl ⟨o6,U,rfl, ?_,Q0D N.out (Nat.le_succ _) _ _ _⟩;exact Q06 (Q0i (Q0i (Q0i P.out x 0 _) x 1 _) x 2 _) J
theorem Qiv (key:Int) (ob:Option Addr) (nb X:Nat) (D:Option Addr) (H:Nat) (o:Option Addr) (cap:Nat) (l:List Bk) (w:World) (a b:Pt) (Y:RdL Q1O w.heap.size w D ([a,b]:List Pt)) (hc:2<=H) (hn:D=none->H=0) (Z:RdK w.heap.size w o l) (J:l.length<=1048576) (hk:Q1S key=true) (hl:Q0d l=true):
  Calls Tryz.prog 134 #[Q5x key (.slice ob nb X) (.slice D 2 H),.slice o l.length cap] w fun e w'=> ∃o2 U,e=.returned (Q5x key (.slice o l.length cap) (.slice o2 ((Q2E key l::([a,b]:List Pt).take 2).length) U))/\ownL Q1O 266 w' w.heap.size (.slice o2 ((Q2E key l::([a,b]:List Pt).take 2).length) U) (Q2E key l::([a,b]:List Pt).take 2)/\Below w.heap.size w w':=by
 obtain⟨W0,p⟩:∃W,((w.alloc (.cells #[.int .i64 key,.slice ob nb X,.slice D 2 H] 218)).alloc (.cells #[.int .i64 0,.slice none 0 0,.slice none 0 0] 218))=W:=⟨_,rfl⟩;have r:=alb0v0v2 p;have i:=Q00 r;clear r;have s:=alz0v0v2 p;obtain⟨E,F,G⟩:=alc3v0v2 p;have g:=alz0v1v2 p;obtain⟨z,A,B⟩:=alc3v1v2 p;obtain⟨j,m,n⟩:=alf3v1v2 p;have aa:=g;have T:=Q00 (Q1i key o cap l W0 ((Z.kept i.out (Kaq _)).le i.out.size) J hk hl);have HG:=Q00 (show RdL Q1O w.heap.size w D ([a,b]:List Pt)from Q65 Y);clear Z Y hk hl;obtain⟨f,hf⟩:∃f,Q2E key l=f:=⟨_,rfl⟩
 rw[hf]at T ⊢;clear hf;go_enter Tryz.func134,Tryz.ntmps134;go_wp2_with fail;refine(T.out).mono ?_;rintro e C ⟨rfl,q⟩;replace E:=bC q E s;replace F:=bC q F s;replace G:=bC q G s;replace s:=Kbq s q.size;replace z:=bC q z g;replace A:=bC q A g;replace B:=bC q B g;replace j:=bF q j g;replace m:=bF q m g;replace n:=bF q n g;replace g:=Kbq g q.size;replace i:=Q00 (i.out.trans (q.mono i.out.size));clear q;have M:=i.out.size;obtain⟨N,t⟩:∃W,C.alloc (.cells (ptA f) 266)=W:=⟨_,rfl⟩;have c:=alb0v0v1 t
 have P:=Q00 (show ownL Q1O 266 N C.heap.size (.slice (some ⟨C.heap.size,0,none⟩) 1 1) [f]by rw[<-t];exact Q4N C f);have x:C.heap.size<=N.heap.size:=c.size;have y:=g;replace E:=bC c E s;replace F:=bC c F s;replace G:=bC c G s;replace s:=Kbq s c.size;replace z:=bC c z g;replace A:=bC c A g;replace B:=bC c B g;replace j:=bF c j g;replace m:=bF c m g;replace n:=bF c n g;replace g:=Kbq g c.size;replace i:=Q00 (i.out.trans (c.mono i.out.size));clear c
 go_wp2_with (first|(refine Q1I rfl (.tmp 9) rfl f rfl ?_;rw[t])|(at_builtin;refine Q08 Qil rfl (.tmp 11) (.tmp 18) rfl C.heap.size _ [f] rfl P.out D H N.heap.size ([a,b]:List Pt) 2 rfl rfl hn ((HG.out.kept i.out (Kaq _)).le i.out.size) (by simp) x ?_));intro v6 w6 u I _;obtain⟨o6,V,e6,_⟩:=ownL.open (L:=Q1O) u;subst e6
 have d:Below C.heap.size N w6:=KBq.mono x|>.grown I x (fun k h=>(P.out.lt k h).1)
 have R:=Q00 u;clear u I P;replace E:=bC d E (show _ < _ by omega);replace F:=bC d F (show _ < _ by omega);replace G:=bC d G (show _ < _ by omega);replace z:=bC d z (show _ < _ by omega);replace j:=bF d j (show _ < _ by omega);replace A:=bC d A (show _ < _ by omega);replace m:=bF d m (show _ < _ by omega);replace B:=bC d B (show _ < _ by omega);replace n:=bF d n (show _ < _ by omega);have O:=Q00 (i.out.trans (d.mono M));clear d i;go_wp2
 refine bodyPost_ret (v:=Q5x key (.slice o l.length cap) (.slice o6 ([f]++([a,b]:List Pt)).length V)) (by simp[results,Tryz.results134,go_sem,z,A,B]) rfl ⟨o6,V,rfl, ?_,Q0D O.out (Nat.le_succ _) _ _ _⟩;exact Q06 (Q0i (Q0i (Q0i R.out y 0 _) y 1 _) y 2 _) M
theorem Qiy (key:Int) (ob:Option Addr) (nb Y:Nat) (E:Option Addr) (I:Nat) (o:Option Addr) (cap:Nat) (l:List Bk) (w:World) (a b c:Pt) (Z:RdL Q1O w.heap.size w E ([a,b,c]:List Pt)) (hc:3<=I) (hn:E=none->I=0) (hR:RdK w.heap.size w o l) (M:l.length<=1048576) (hk:Q1S key=true) (hl:Q0d l=true):
  Calls Tryz.prog 134 #[Q5x key (.slice ob nb Y) (.slice E 3 I),.slice o l.length cap] w fun e w'=> ∃o2 V,e=.returned (Q5x key (.slice o l.length cap) (.slice o2 ((Q2E key l::([a,b,c]:List Pt).take 2).length) V))/\ownL Q1O 266 w' w.heap.size (.slice o2 ((Q2E key l::([a,b,c]:List Pt).take 2).length) V) (Q2E key l::([a,b,c]:List Pt).take 2)/\Below w.heap.size w w':=by
 obtain⟨W0,q⟩:∃W,((w.alloc (.cells #[.int .i64 key,.slice ob nb Y,.slice E 3 I] 218)).alloc (.cells #[.int .i64 0,.slice none 0 0,.slice none 0 0] 218))=W:=⟨_,rfl⟩;have s:=alb0v0v2 q;have j:=Q00 s;clear s;have t:=alz0v0v2 q;obtain⟨F,G,H⟩:=alc3v0v2 q;have i:=alz0v1v2 q;obtain⟨A,B,C⟩:=alc3v1v2 q;obtain⟨m,n,p⟩:=alf3v1v2 q;have aa:=i;have U:=Q00 (Q1i key o cap l W0 ((hR.kept j.out (Kaq _)).le j.out.size) M hk hl);have HG:=Q00 (show RdL Q1O w.heap.size w E ([a,b]:List Pt)from Q65 Z);clear hR Z hk hl;obtain⟨f,hf⟩:∃f,Q2E key l=f:=⟨_,rfl⟩
 rw[hf]at U ⊢;clear hf;go_enter Tryz.func134,Tryz.ntmps134;go_wp2_with fail;refine(U.out).mono ?_;rintro e D ⟨rfl,r⟩;replace F:=bC r F t;replace G:=bC r G t;replace H:=bC r H t;replace t:=Kbq t r.size;replace A:=bC r A i;replace B:=bC r B i;replace C:=bC r C i;replace m:=bF r m i;replace n:=bF r n i;replace p:=bF r p i;replace i:=Kbq i r.size;replace j:=Q00 (j.out.trans (r.mono j.out.size));clear r;have N:=j.out.size;obtain⟨O,u⟩:∃W,D.alloc (.cells (ptA f) 266)=W:=⟨_,rfl⟩;have d:=alb0v0v1 u
 have R:=Q00 (show ownL Q1O 266 O D.heap.size (.slice (some ⟨D.heap.size,0,none⟩) 1 1) [f]by rw[<-u];exact Q4N D f);have y:D.heap.size<=O.heap.size:=d.size;have z:=i;replace F:=bC d F t;replace G:=bC d G t;replace H:=bC d H t;replace t:=Kbq t d.size;replace A:=bC d A i;replace B:=bC d B i;replace C:=bC d C i;replace m:=bF d m i;replace n:=bF d n i;replace p:=bF d p i;replace i:=Kbq i d.size;replace j:=Q00 (j.out.trans (d.mono j.out.size));clear d
 go_wp2_with (first|(refine Q1I rfl (.tmp 9) rfl f rfl ?_;rw[u])|(at_builtin;refine Q08 Qil rfl (.tmp 11) (.tmp 18) rfl D.heap.size _ [f] rfl R.out E I O.heap.size ([a,b]:List Pt) 2 rfl rfl hn ((HG.out.kept j.out (Kaq _)).le j.out.size) (by simp) y ?_));intro v6 w6 x J _;obtain⟨o6,X,e6,_⟩:=ownL.open (L:=Q1O) x;subst e6
 have g:Below D.heap.size O w6:=KBq.mono y|>.grown J y (fun k h=>(R.out.lt k h).1)
 have T:=Q00 x;clear x J R;replace F:=bC g F (show _ < _ by omega);replace G:=bC g G (show _ < _ by omega);replace H:=bC g H (show _ < _ by omega);replace A:=bC g A (show _ < _ by omega);replace m:=bF g m (show _ < _ by omega);replace B:=bC g B (show _ < _ by omega);replace n:=bF g n (show _ < _ by omega);replace C:=bC g C (show _ < _ by omega);replace p:=bF g p (show _ < _ by omega);have P:=Q00 (j.out.trans (g.mono N));clear g j;go_wp2
 refine bodyPost_ret (v:=Q5x key (.slice o l.length cap) (.slice o6 ([f]++([a,b]:List Pt)).length X)) (by simp[results,Tryz.results134,go_sem,A,B,C]) rfl ⟨o6,X,rfl, ?_,Q0D P.out (Nat.le_succ _) _ _ _⟩;exact Q06 (Q0i (Q0i (Q0i T.out z 0 _) z 1 _) z 2 _) N
theorem Qgr (key:Int) (k:Option Addr) (j i:Nat) (h:Option Addr) (g:Nat) (o:Option Addr) (cap:Nat) (l:List Bk) (w:World) (f:List Pt) (t:f.length<=3) (m:RdL Q1O w.heap.size w h f) (p:f.length<=g) (s:h=none->g=0) (n:RdK w.heap.size w o l) (d:l.length<=1048576) (q:Q1S key=true) (r:Q0d l=true):
  Calls Tryz.prog 134 #[Q5x key (.slice k j i) (.slice h f.length g),.slice o l.length cap] w fun e x=> ∃v u,e=.returned (Q5x key (.slice o l.length cap) (.slice v ((Q2E key l::f.take 2).length) u))/\ownL Q1O 266 x w.heap.size (.slice v ((Q2E key l::f.take 2).length) u) (Q2E key l::f.take 2)/\Below w.heap.size w x:=by
 match f,t with
 |[],_=>exact Qi3 key k j i h g o cap l w m p s n d q r
 |[a],_=>exact Qic key k j i h g o cap l w a m p s n d q r
 |[a,b],_=>exact Qiv key k j i h g o cap l w a b m p s n d q r
 |[a,b,c],_=>exact Qiy key k j i h g o cap l w a b c m p s n d q r
theorem Qg6 {W:World} {g:Nat} {f:Pt} (a:W.heap[g]? =some (.cells (ptA f) 266 (0,0))):W.rangeAt g 0 (ptL f):=fun j v hv=>by
 rw[Nat.zero_add,cell_of_row _ _ j (ptA f) _ (0,0) a]
 simpa[ptA]using hv
theorem Q1a {w c:World} {b o:Nat} {cs:List Value} (h:w.rangeAt b o cs) (d:Below w.heap.size w c) (a:b < w.heap.size):c.rangeAt b o cs:=fun j v hv=>(d.cell (p:=⟨b,o+j,none⟩) a).trans (h j v hv)
theorem Q6J {w:World} {b o B:Nat} {cs:List Value} (h:w.rangeAt b o cs) (hne:b≠B) (j:Nat) (u:Value):(w.setCell ⟨B,j,none⟩ u).rangeAt b o cs:=fun i v hv=>(Q0c hne).trans (h i v hv)
theorem Q49 {w f:World} {b o:Nat} {cs:List Value} {r:Option Nat} (h:w.rangeAt b o cs) (g:w.grownBy f r) (a:b < w.heap.size) (c:some b≠r):f.rangeAt b o cs:=fun j v hv=>by
 have d:=h j v hv;have h2:=g.block b a c;simp only[World.cell?,h2]at d ⊢;exact d
theorem Qab (W:World) (B:Nat) (x y z:Value):(setP W B x y z).heap.size=W.heap.size:=by simp[World.setCell]
theorem Qjc {a W:World} {B:Nat} {key:Int} {c:Option Addr} {b:Nat} {l:List Bk} {p q r:Value} (j:W.heap[B]? =some (.cells #[p,q,r] 29 (0,0))) (n:Below a.heap.size a W) (i:a.heap.size<=B) (m:Q1F W a.heap.size (.slice c l.length b) l):
  ∃B' k h,Value.pointer (some ⟨B,0,none⟩)=.pointer (some ⟨B',0,none⟩)/\Hid ((setP W B (.int .i64 key) (.slice c l.length b) (.slice none 0 0)).heap[B']? =some (.cells #[.int .i64 key,.slice k l.length h,.slice none 0 0] 29 (0,0)))/\Hid (Below a.heap.size a (setP W B (.int .i64 key) (.slice c l.length b) (.slice none 0 0)))/\a.heap.size<=B'/\B' < (setP W B (.int .i64 key) (.slice c l.length b) (.slice none 0 0)).heap.size/\Hid (Q1F (setP W B (.int .i64 key) (.slice c l.length b) (.slice none 0 0)) a.heap.size (.slice k l.length h) l):=by
 have d:=Q0p j 0 (.int .i64 key);have f:=Q0p d 1 (.slice c l.length b);have g:=Q0p f 2 (.slice none 0 0);exact⟨B,c,b,rfl,g,Q0D n i _ _ _,i,(KEq g),Q0I (Q0I (Q0I m j QdR 0 _) d QdR 1 _) f QdR 2 _⟩
theorem QiW {a W:World} {key:Int} {c:Option Addr} {b:Nat} {l:List Bk} (d:Below a.heap.size a W) (h:Q1F W a.heap.size (.slice c l.length b) l):
  ∃B' g f,Value.pointer (some ⟨W.heap.size,0,none⟩)=.pointer (some ⟨B',0,none⟩)/\Hid ((W.alloc (.cells #[.int .i64 key,.slice c l.length b,.slice none 0 0] 29)).heap[B']? =some (.cells #[.int .i64 key,.slice g l.length f,.slice none 0 0] 29 (0,0)))/\Hid (Below a.heap.size a (W.alloc (.cells #[.int .i64 key,.slice c l.length b,.slice none 0 0] 29)))/\a.heap.size<=B'/\B' < (W.alloc (.cells #[.int .i64 key,.slice c l.length b,.slice none 0 0] 29)).heap.size/\Hid (Q1F (W.alloc (.cells #[.int .i64 key,.slice c l.length b,.slice none 0 0] 29)) a.heap.size (.slice g l.length f) l):=
 ⟨W.heap.size,c,b,rfl,World.alloc_heap_new W _,d.alloc d.size _,d.size,by simp,Q0a h (KBq.alloc (Kaq _) _)⟩
theorem Rw.grow {α:Type} {Q:Nat->Nat->World->Value->α->Prop} {d:α} {xs:List α} {a b:Nat} {w j:World} {hs:List Hd} {L H:Nat->Nat} {r:Option Nat} (c:Stps Q) (h:Rw Q d xs a b w hs L H) (f:w.grownBy j r) (k:∀i,i < xs.length->∀g,r=some g->g < L i\/H i<=g):Rw Q d xs a b j hs L H:=by
 cases r with
 |none=>exact h.step c (Stp.grown (lo:=0) (hi:=0) f (fun b e=>by cases e)) (fun i _=> .inl (Kcq _))
 |some g=>exact h.step c (Stp.grown (lo:=g) (hi:=g+1) f (fun b e=>by injection e with e;omega)) (fun i hi=>by have:=k i hi g rfl;omega)
theorem QaP {w:World} {o:Option Addr} {n c:Nat} {T:TypeId}:RdL Q0q (w.alloc (.cells #[.slice o n c] T)).heap.size (w.alloc (.cells #[.slice o n c] T)) (some ⟨w.heap.size,0,none⟩) [(o,n,c)]:=
 .inr ⟨w.heap.size,0,rfl,by simp,fun i hi j b=>by
  have a:i=0:=by simpa using hi
  subst a
  match j,b with
  |0,_=>simp[Q0q]⟩
theorem RdL.range {w:World} {b a:Nat} {c:List Pt} (h:∀i,i < c.length->∀j,j < Q1O.k->w.cell? ⟨b,a+i * Q1O.k+j,none⟩=(Q1O.cs (c.getD i Q1O.d))[j]?) (i:Nat) (hi:i < c.length):w.rangeAt b (a+i * 24) (ptL (c.getD i ptZ)):=fun j v hv=>by
 have f:j < 24:=by have:=(List.getElem?_eq_some_iff.1 hv).1;rw[Qbh]at this;exact this
 exact(h i hi j f).trans hv
theorem Qir {B:Nat} {w wc wr:World} {l:Option Addr} {f:List Pt} (h:RdL Q1O w.heap.size w l f) (m:Below w.heap.size w wc) (s:Stp B (B+1) wc wr) (t:w.heap.size<=B):RdL Q1O w.heap.size wr l f:=by
 rcases h with h|⟨b,c,q,a,r⟩
 ·exact .inl h
 ·refine .inr ⟨b,c,q,a,fun i hi j n=>?_⟩
  have g:=(m.cell (p:=⟨b,c+i * Q1O.k+j,none⟩) a).trans (r i hi j n);have u:(Q1O.cs (f.getD i Q1O.d)).length=Q1O.k:=Q1O.len _;rw[KGq (by omega)]at g ⊢;exact s.cellP g (.inl (show b < B by omega))
theorem Qcj {a hi c:Nat} {wr:World} {d:Option Addr} {hs:List Hd} {L H:Nat->Nat} {b:List Pt} {n:Nat} (f:n=b.length) (h:Rw InT [] ((b.map Q41).take n) a hi wr hs L H) (g:ownL Q0q 206 wr a (.slice d n c) hs):ownL Q0q 206 wr a (.slice d n c) hs/\Rw InT [] (b.map Q41) a hi wr hs L H:=by
 rw[f,show b.length=(b.map Q41).length by simp,List.take_length]at h;exact⟨g,h⟩
theorem QhJ {oQ:Option Addr} {n cQ:Nat} {L H:Nat->Nat} {fs:List Pt} (hn:n=fs.length) (h:Qcx (.slice oQ n cQ) n L H):Qcx (.slice oQ n cQ) (fs.map Q41).length L H:=by
 rw[List.length_map,<-hn];exact h
theorem Q99 (W:World) (B:Nat) (x y z:Value):Stp B (B+1) W (setP W B x y z):=((Q0x W B 0 x).trans (Q0x _ B 1 y)).trans (Q0x _ B 2 z)
theorem Qgb (a:List Pt) (i:Nat) (h:i < a.length):(a.map Q41).take (i+1)=(a.map Q41).take i++[Q41 (a.getD i ptZ)]:=by
 have b:i < (a.map Q41).length:=by rw[List.length_map];exact h
 rw[List.take_succ_eq_append_getElem b];simp[h]
theorem Rw.more {a p:World} {b d l2 n:Nat} {hs:List Hd} {L H:Nat->Nat} {xs:List (List (List Int))} {x:List (List Int)} {u m:Option Addr} {f t r:Nat} {O:Obj} (h:Rw InT [] xs b d a hs L H) (l:xs.length=n) (w:d<=l2) (z:b<=l2) (y:l2<=a.heap.size) (q:InT l2 a.heap.size a (.slice u t r) x) (c:Qcx (.slice m n f) n L H) (j:∀g,(Value.slice m n f).ownBlock=some g->g < d) (s:(a.alloc O).grownBy p (Value.slice m n f).ownBlock):
  Rw InT [] (xs++[x]) b p.heap.size p (hs++[(u,t,r)]) (fun i=>if i < n then L i else l2) (fun i=>if i < n then H i else a.heap.size):=by
 subst l;have v:=h.snoc w z y q;have h2:=v.kept InT.stp ((Below.refl a.heap.size a).alloc (Kaq _) O);have k:=s.size;rw[World.size_alloc]at k;refine(h2.grow InT.stp s (fun i hi g e=>?_)).mono (Kaq _) (by omega)
 by_cases hi':i < xs.length
 ·simp only[hi',if_true];exact c i hi' g e
 ·simp only[hi',if_false];have:=j g e;omega
theorem Q9l {B:Nat} {wc b c:World} {O:Obj} {r:Option Nat} (s:Stp B (B+1) wc b) (a:(b.alloc O).grownBy c r) (i:∀g,r=some g->wc.heap.size<=g):Stp B (B+1) wc c:=by
 have hs:=s.size;have d:=a.size;rw[World.size_alloc]at d;refine⟨a.os.trans s.os,a.tape.trans s.tape,a.output.trans s.output,by omega,fun k f h=>?_⟩;exact(a.block k (by simp;omega) (fun e=>by have:=i k e.symm;omega)).trans ((Below.heap_alloc b O k (by omega)).trans (s.block k f h))
theorem InPm.mono {lo a hi:Nat} {w:World} {v:Value} {m:Pm} (h:InPm lo hi w v m) (d:a<=lo):InPm a hi w v m:=by
 obtain⟨g,i,b,e,j,f,c,h2⟩:=h;exact⟨g,i,b,e,by omega,f,InRow.mono c d (Kaq _),h2⟩
theorem QiQ:(259:TypeId)≠206:=by decide
theorem Q94 {c:World} {d l2:Nat} {L H:Nat->Nat} {n:Nat} {l k:Option Addr} {h f:Nat} {O:Obj} (b:Qcx (.slice l n h) n L H) (m:∀i,i < n->H i<=d) (q:d<=l2) (r:l2<=c.heap.size) (j:∀g,(Value.slice l n h).ownBlock=some g->g < d) (a:(Value.slice k (n+1) f).ownBlock=(Value.slice l n h).ownBlock\/(Value.slice k (n+1) f).ownBlock=some (c.alloc O).heap.size):
  Qcx (.slice k (n+1) f) (n+1) (fun i=>if i < n then L i else l2) (fun i=>if i < n then H i else c.heap.size):=fun i hi g e=>by
 rcases a with a|a
 ·rw[a]at e
  by_cases hi':i < n
  ·simp only[hi',if_true];exact b i hi' g e
  ·simp only[hi',if_false];have:=j g e;omega
 ·rw[a,World.size_alloc]at e
  have p:c.heap.size+1=g:=Option.some.inj e
  by_cases hi':i < n
  ·simp only[hi',if_true];have:=m i hi';omega
  ·simp only[hi',if_false];omega
theorem QgF (key:Int) (o:Option Addr) (cap:Nat) (l:List Bk) (oR:Option Addr) (cR:Nat) (fs:List Pt) (n:Nat) (a8:n=fs.length) (w:World) (hR:RdK w.heap.size w o l) (hn:o=none->cap=0) (a7:l.length<=1048576) (hG:RdL Q1O w.heap.size w oR fs) (bM:n<=1048576):
  Calls Tryz.prog 135 #[Q5x key (.slice o l.length cap) (.slice oR n cR)] w fun e w'=> ∃v,e=.returned v/\InPm w.heap.size w'.heap.size w' v ⟨key,l,fs.map Q41⟩/\Below w.heap.size w w':=by
 have aL:=Q00 a8;clear a8;obtain⟨t,ad⟩:∃W,((w.alloc (.cells #[.int .i64 key,.slice o l.length cap,.slice oR n cR] 218)).alloc (.cells #[.int .i64 0,.slice none 0 0,.slice none 0 0] 29))=W:=⟨_,rfl⟩;have aC:=alb0v0v2 ad;have HB:=Q00 aC;clear aC;have zz:=alz0v0v2 ad;obtain⟨z0,z1,z2⟩:=alc3v0v2 ad;have zr:=alz0v1v2 ad;obtain⟨r0,r1,r2⟩:=alc3v1v2 ad;obtain⟨az,aA,aB⟩:=alf3v1v2 ad;have bg:=Q00 (show t.heap[w.heap.size+1]? =some (.cells #[.int .i64 0,.slice none 0 0,.slice none 0 0] 29 (0,0))by rw[<-ad];exact Q2w w _ _ _);have br:=zr;have bI:=zz
 have a1:=Q00 (fun W (y:Below t.heap.size t W)=>Q1t o cap l W ((hR.kept (HB.out.trans (y.mono HB.out.size)) (Kaq _)).le (Kdq HB.out.size y.size)) hn a7);have HG:=Q00 hG;clear hR hG;go_enter Tryz.func135,Tryz.ntmps135;go_upto_region 1 with fail
 go_cut [3]from 6 to 11 (fun s3 wx=> ∃B o2 Z,s3=.pointer (some ⟨B,0,none⟩)/\Hid (wx.heap[B]? =some (.cells #[.int .i64 key,.slice o2 l.length Z,.slice none 0 0] 29 (0,0)))/\Hid (Below t.heap.size t wx)/\t.heap.size<=B/\B < wx.heap.size/\Hid (Q1F wx t.heap.size (.slice o2 l.length Z) l))
 case first=>
  go_region_held3 (fun w'=>w'.cell? ⟨w.heap.size,0,none⟩=some (.int .i64 key)/\w'.cell? ⟨w.heap.size,1,none⟩=some (.slice o l.length cap)) (first|with_reducible exact⟨aG,aH⟩|with_reducible exact⟨z0,z1⟩|with_reducible exact⟨Q0h aG zz,Q0h aH zz⟩|go_keep) (first|(go_at_call 182;have aD:=a1.out t.drew (KHq KBq);with_reducible refine aD.mono ?_;clear aD;rintro e x0 ⟨v2,rfl,V,y⟩;have T:Below t.heap.size t x0:=Below.trans (show Below t.heap.size t t.drew from(KHq KBq)) (y.mono (by simp));have bv:=T.size;obtain⟨o2,Z,e2,_⟩:=ownL.open (L:=Q0L) V;subst e2;have V:=Q06 V (show t.heap.size<=_ by(try simp));have aG:=bC T z0 zz;have aH:=bC T z1 zz;clear y)|(go_at_call 182;have aD:=a1.out (t.alloc (.cells #[.int .i64 0,.slice none 0 0,.slice none 0 0] 29)).drew (KHq (KBq.alloc (Kaq _) _));with_reducible refine aD.mono ?_;clear aD;rintro e x0 ⟨v2,rfl,V,y⟩;have T:Below t.heap.size t x0:=Below.trans (show Below t.heap.size t (t.alloc (.cells #[.int .i64 0,.slice none 0 0,.slice none 0 0] 29)).drew from(KHq (KBq.alloc (Kaq _) _))) (y.mono (by simp));have bv:=T.size;obtain⟨o2,Z,e2,_⟩:=ownL.open (L:=Q0L) V;subst e2;have V:=Q06 V (show t.heap.size<=_ by(try simp));have aG:=bC T z0 zz;have aH:=bC T z1 zz;have aa:=Q3J y;have bH:=(KEq aa);have bl:=Q02 aa 0 _ rfl;have bo:=Q04 aa 0;have bm:=Q02 aa 1 _ rfl;have bp:=Q04 aa 1;have bn:=Q02 aa 2 _ rfl;have bq:=Q04 aa 2;clear y))
  all_goals (go_wp2_with fail;go_meet)
  all_goals first
   |with_reducible exact Qjc aa T (Kaq _) V
   |with_reducible exact QiW T V
 case rest=>
  obtain⟨B,o2,Z,rfl,bi,a5,bJ,aY,a6⟩:=hcut;have y:=a5.out;have bk:=y.size;have a0:=Q00 (y.block _ br);clear a5;replace z0:=bC y z0 zz;replace z1:=bC y z1 zz;replace z2:=bC y z2 zz;replace zz:=Kbq zz y.size;replace r0:=bC y r0 zr;replace r1:=bC y r1 zr;replace r2:=bC y r2 zr;replace az:=bF y az zr;replace aA:=bF y aA zr;replace aB:=bF y aB zr;replace zr:=Kbq zr y.size;replace HB:=Q00 (HB.out.trans (y.mono HB.out.size));clear y;have bh:=Q00 ((a0.out).trans bg.out);have aZ:=HB
  have bf:=Q00 (fun b (e:(Value.slice o2 l.length Z).ownBlock=some b)=>(a6.out.lt b e).2);have bG:=z2;have bB:=r0;have bD:=r1;have bE:=r2;have bw:=az;have bx:=aA;have bz:=aB;clear z0 z1 r0 r1 r2 az aA aB;go_wp2
  go_loopw [15] (fun iv wr=> ∃(i:Nat) (hs:List Hd) (L H:Nat->Nat) (R:Option Addr) (M:Nat),i<=n/\iv=.int .i64 (i:Int)/\Hid (wr.heap[B]? =some (.cells #[.int .i64 key,.slice o2 l.length Z,.slice R i M] 29 (0,0)))/\Hid (ownL Q0q 206 wr wc.heap.size (.slice R i M) hs)/\Hid (Rw InT [] ((fs.map Q41).take i) wc.heap.size wr.heap.size wr hs L H)/\Hid (Qcx (.slice R i M) i L H)/\Hid (Q1F wr t.heap.size (.slice o2 l.length Z) l)/\wc.heap.size<=wr.heap.size/\Hid (Stp B (B+1) wc wr))
   (fun iv _=>n - (intOf iv).toNat)
  case atStart=>exact⟨0,[],fun _=> 0,fun _=> 0,none,0,Kcq _,rfl,bi.out,KLq _ _ _ _,by rw[List.take_zero];exact Rw.nil _ _ _ _ _ _ _,fun i hi=>absurd hi (KMq _),a6.out,Kaq _,Stp.refl _⟩
  case round=>
   obtain⟨i,hs,L,H,R,M,bN,rfl,aI,ap,au,C,aX,bj,aw⟩:=hrel
   have bO:B≠w.heap.size:=by omega
   have bK:B≠w.heap.size+1:=by omega
   have bc:=Q00 (fun (p:Addr) u (hp:p.block < t.heap.size) (h:wc.cell? p=some u)=>aw.out.cellP h (by omega))
   by_cases hlt:i < n
   ·skip
    have bA:(i:Int) < (n:Int):=by omega
    skip
    have aQ:i < fs.length:=by rw[<-aL.out];exact hlt
    have a2:=Q00 (show RdL Q1O w.heap.size wr oR fs from Qir HG.out aZ.out aw.out (show w.heap.size<=B by omega))
    rcases a2.out with hh|⟨b,bs,rfl,bL,aU⟩
    ·rw[hh]at aQ;exact absurd aQ (KMq _)
    have a3:=Q00 (RdL.range aU i aQ);have aN:=Q00 (Qgb fs i aQ);clear aU a2;obtain⟨f,hf⟩:∃f,fs.getD i ptZ=f:=⟨_,rfl⟩;rw[hf]at a3 aN;clear hf;obtain⟨W2,aP⟩:∃W,wr.alloc (.cells (ptA f) 266)=W:=⟨_,rfl⟩;have ae:=alb0v0v1 aP
    have a9:W2.heap[wr.heap.size]? =some (.cells (ptA f) 266 (0,0)):=by rw[<-aP];exact World.alloc_heap_new wr _
    have aR:=(ae.block B (by omega)).trans aI.out;have aV:=(KEq aR);have aM:=Q00 (show W2.rangeAt wr.heap.size 0 (ptL f)from Qg6 a9);clear a9;have p2:W2.cell? ⟨B,2,none⟩=some (.slice R i M):=Q02 aR 2 _ rfl;have a4:=Q00 aR;have aq:=Q00 (Q0a ap.out ae);have av:=Q00 (au.out.kept InT.stp ae);have aS:=Q00 (Q0a aX.out ae);have aT:=Q00 (aw.out.trans (Stp.of ae));have al:wr.heap.size<=W2.heap.size:=ae.size;have x:=Q00 (fun g (e:(Value.slice R i M).ownBlock=some g)=>(ap.out.lt g e).2)
    have aW:=Q00 (fun j (hj:j < i)=>(au.out.bd j (by rw[List.length_take,List.length_map];omega)).2);have aK:=Q00 (show((fs.map Q41).take i).length=i by rw[List.length_take,List.length_map];omega);clear ae aR ap au aX;go_wp2_with (first|(refine wpList_load_mid rfl 266 (.tmp 17) rfl b (bs+i * 24) rfl (ptL f) _ a3.out ptU rfl ptI ?_)|(refine Q0B rfl (.tmp 5) (.tmp 18) rfl wr.heap.size f ptZ rfl rfl (World.alloc_heap_new wr _) ?_;rw[World.setRow_alloc_new,aP]))
    skip
    have aj:=Q00 (show hs.length=i by have:=av.out.len;rw[aK.out]at this;exact this);have ak:=Q00 (fun g (e:(Value.slice R i M).ownBlock=some g)=>(aq.out.lt g e).1);refine wp_region_held_drew (S:=fun w'=>w'.rangeAt wr.heap.size 0 (ptL f)) (by kernel_rfl) aM.out (fun hHeld=>?_);refine wpAnyH_take (i:=2) (oi:=_) (v:=ptv f) rfl (by kernel_rfl) (by kernel_rfl) (by kernel_rfl) (fun _ _ _ h=>h) (yieldsIf_load_mid (by rfl) _ _ rfl wr.heap.size 0 rfl (ptL f) _ (fun w h=>h) ptU rfl ptI) hHeld ?_
    try simp only[Act.put,List.setIfInBounds_toArray,List.set_cons_zero,List.set_cons_succ]
    refine wpAnyH_take (i:=0) (oi:=_) (v:=.pointer (some ⟨B,2,none⟩)) rfl (by kernel_rfl) (by kernel_rfl) (by kernel_rfl) (fun _ _ _ h=>h) (Or.inl ⟨by rfl,fun w _=>by go_simp⟩) hHeld ?_
    try simp only[Act.put,List.setIfInBounds_toArray,List.set_cons_zero,List.set_cons_succ]
    have bu:W2.drew.rangeAt wr.heap.size 0 (ptL f):=aM.out;have ba:=alz0v0v1 aP;refine wpAnyH_ready (rs:=[1,3]) (by kernel_rfl) (by simp) ?_;refine AllReadyH.cons rfl (fun K hK=>?_) ?_
    ·skip
     go_simp
     refine hK.out _ _ bu (fun hHeld=>?_);clear hK K
     try simp only[Act.put,List.setIfInBounds_toArray,List.set_cons_zero,List.set_cons_succ]
     refine wpAnyH_ready (rs:=[3]) (by kernel_rfl) (by simp) ?_;refine AllReadyH.cons rfl (fun K hK=>?_) ?_
     ·skip
      go_simp
      go_at_call 183;refine(Q9x f _).mono ?_;rintro e c ⟨v4,rfl,G,a⟩;replace a:Below W2.heap.size W2 c:=(KHq KBq).trans a;replace G:InT W2.heap.size c.heap.size c v4 (Q41 f):=G;obtain⟨P,J,e4,_⟩:=RiT.rd (InT.ri G);rw[Q4v]at e4;subst e4;have U:=(a.block B aV).trans a4.out;have N:=(KEq U);have p4:c.cell? ⟨B,2,none⟩=some (.slice R i M):=Q02 U 2 _ rfl
      have bt:∀O,(c.alloc O).cell? ⟨B,2,none⟩=some (.slice R i M):=(fun O=>((Below.refl c.heap.size c).alloc (Kaq _) O).cell (p:=⟨B,2,none⟩) N|>.trans p4)
      have ag:=a.size;have D:=Q00 (Q0a aq.out a);have ah:=Q00 (av.out.kept InT.stp a);have A:=Q00 (Q0a aS.out a);have ai:=Q00 (aT.out.trans (Stp.of a));have aJ:=Q00 G;have I:c.rangeAt wr.heap.size 0 (ptL f):=Q1a aM.out a ba;have aO:=Q00 U;clear G a U;go_wp2_with fail;refine hK.out _ _ I (fun hHeld=>?_);clear hK K
      try simp only[Act.put,List.setIfInBounds_toArray,List.set_cons_zero,List.set_cons_succ]
      refine wpAnyH_ready (rs:=[4]) (by kernel_rfl) (by simp) ?_;refine AllReadyH.cons rfl (fun K hK=>?_) ?_
      ·skip
       go_simp
       refine hK.out _ _ (Q1a I ((Below.refl c.heap.size c).alloc (Kaq _) (.cells #[.slice P 8 J] 206)) (by omega)) (fun hHeld=>?_);clear hK K
       try simp only[Act.put,List.setIfInBounds_toArray,List.set_cons_zero,List.set_cons_succ]
       refine wpAnyH_ready (rs:=[5]) (by kernel_rfl) (by simp) ?_;refine AllReadyH.cons rfl (fun K hK=>?_) ?_
       ·skip
        refine Q0o Q5O rfl (.tmp 20) (.tmp 23) rfl wc.heap.size (.slice R i M) hs rfl (D.out.alloc (.cells #[.slice P 8 J] 206)) (some ⟨c.heap.size,0,none⟩) 1 _ [(P,8,J)] 1 rfl rfl (by simp) QaP (by rw[aj.out];simp;omega) (by simp;omega) ?_;intro v8 m F r ab;obtain⟨k,d,e8,_⟩:=ownL.open (L:=Q0q) F;have aE:(hs++[((P,8,J):Hd)]).length=i+1:=(by rw[List.length_append,aj.out];rfl);rw[aE]at e8;subst e8;have s:=(r.block B (by simp;omega) (fun e=>by have:=x.out B e.symm;have:=ak.out B e.symm;omega)).trans ((Below.heap_alloc _ _ _ N).trans aO.out)
        have p8:m.cell? ⟨B,2,none⟩=some (.slice R i M):=Q02 s 2 _ rfl;have f8:=Q04 s 2;have ac:m.rangeAt wr.heap.size 0 (ptL f):=Q49 (Q1a I ((Below.refl c.heap.size c).alloc (Kaq _) _) (by omega)) r (by simp;omega) (fun e=>by have:=x.out _ e.symm;omega);have E:=Q00 s;have an:=Q00 F;have z:=Q00 r;have am:=Q00 ab;clear F r ab s;refine hK.out _ _ ac (fun hHeld=>?_);clear hK K
        try simp only[Act.put,List.setIfInBounds_toArray,List.set_cons_zero,List.set_cons_succ]
        refine wpAnyH_take (i:=6) (oi:=_) (v:=.pointer (some ⟨B,2,none⟩)) rfl (by kernel_rfl) (by kernel_rfl) (by kernel_rfl) (fun _ _ _ h=>h) (Or.inl ⟨by rfl,fun w _=>by go_simp⟩) hHeld ?_
        try simp only[Act.put,List.setIfInBounds_toArray,List.set_cons_zero,List.set_cons_succ]
        refine wpAnyH_ready (rs:=[7]) (by kernel_rfl) (by simp) ?_;refine AllReadyH.cons rfl (fun K hK=>?_) ?_
        ·skip
         go_simp
         refine hK.out _ _ (Q6J ac (by omega) _ _) (fun hHeld=>?_);clear hK K
         try simp only[Act.put,List.setIfInBounds_toArray,List.set_cons_zero,List.set_cons_succ]
         refine wpAnyH_done (by kernel_rfl) ?_ _;have ay:Hid ((m.setCell ⟨B,2,none⟩ (.slice k (i+1) d)).heap[B]? =some (.cells #[.int .i64 key,.slice o2 l.length Z,.slice k (i+1) d] 29 (0,0))):=Q0p E.out 2 _;have ao:Hid (ownL Q0q 206 (m.setCell ⟨B,2,none⟩ (.slice k (i+1) d)) wc.heap.size (.slice k (i+1) d) (hs++[(P,8,J)])):=Q0I an.out E.out Qht 2 _;have q:=Rw.more ah.out aK.out al (show wc.heap.size<=W2.heap.size by omega) ag aJ.out C.out x.out z.out;rw[<-aN.out]at q
         have ar:Hid (Rw InT [] ((fs.map Q41).take (i+1)) wc.heap.size (m.setCell ⟨B,2,none⟩ (.slice k (i+1) d)).heap.size (m.setCell ⟨B,2,none⟩ (.slice k (i+1) d)) (hs++[(P,8,J)]) _ _):=(q.step InT.stp (Q0x m B 2 (.slice k (i+1) d)) (fun j hj=> .inl (Kdq (show B+1<=wc.heap.size from aY) (q.bd j hj).1))).mono (Kaq _) (by simp);have ax:=Q00 (Q94 C.out aW.out al ag x.out am.out)
         have X:Hid (Q1F (m.setCell ⟨B,2,none⟩ (.slice k (i+1) d)) t.heap.size (.slice o2 l.length Z) l):=Q0I (World.ownsRow.kept (World.ownsRow.alloc A.out _) z.out (Q1A A.out D.out QiQ)) E.out QdR 2 _;have Y:=Q00 ((Q9l ai.out z.out (fun g e=>ak.out g e)).trans (Q0x m B 2 (.slice k (i+1) d)))
         have aF:wc.heap.size<=m.heap.size:=by have:=Y.out.size;simpa using this
         clear q;go_wp2;go_roundw
         case rel=>exact⟨i+1,_,_,_,k,d,by omega,by go_num,ay.out,ao.out,ar.out,ax.out,X.out,by simpa using aF,Y.out⟩
         case measure=>simp[intOf];omega
        exact AllReadyH.nil
       exact AllReadyH.nil
      exact AllReadyH.nil
     exact AllReadyH.nil
    refine AllReadyH.cons rfl (fun K hK=>?_) ?_
    ·skip
     go_simp
     go_at_call 183;refine(Q9x f _).mono ?_;rintro e c ⟨v4,rfl,G,a⟩;replace a:Below W2.heap.size W2 c:=(KHq KBq).trans a;replace G:InT W2.heap.size c.heap.size c v4 (Q41 f):=G;obtain⟨P,J,e4,_⟩:=RiT.rd (InT.ri G);rw[Q4v]at e4;subst e4;have U:=(a.block B aV).trans a4.out;have N:=(KEq U);have p4:c.cell? ⟨B,2,none⟩=some (.slice R i M):=Q02 U 2 _ rfl
     have bt:∀O,(c.alloc O).cell? ⟨B,2,none⟩=some (.slice R i M):=(fun O=>((Below.refl c.heap.size c).alloc (Kaq _) O).cell (p:=⟨B,2,none⟩) N|>.trans p4)
     have ag:=a.size;have D:=Q00 (Q0a aq.out a);have ah:=Q00 (av.out.kept InT.stp a);have A:=Q00 (Q0a aS.out a);have ai:=Q00 (aT.out.trans (Stp.of a));have aJ:=Q00 G;have I:c.rangeAt wr.heap.size 0 (ptL f):=Q1a aM.out a ba;have aO:=Q00 U;clear G a U;go_wp2_with fail;refine hK.out _ _ I (fun hHeld=>?_);clear hK K
     try simp only[Act.put,List.setIfInBounds_toArray,List.set_cons_zero,List.set_cons_succ]
     refine wpAnyH_ready (rs:=[1,4]) (by kernel_rfl) (by simp) ?_;refine AllReadyH.cons rfl (fun K hK=>?_) ?_
     ·skip
      go_simp
      refine hK.out _ _ I (fun hHeld=>?_);clear hK K
      try simp only[Act.put,List.setIfInBounds_toArray,List.set_cons_zero,List.set_cons_succ]
      refine wpAnyH_ready (rs:=[4]) (by kernel_rfl) (by simp) ?_;refine AllReadyH.cons rfl (fun K hK=>?_) ?_
      ·skip
       go_simp
       refine hK.out _ _ (Q1a I ((Below.refl c.heap.size c).alloc (Kaq _) (.cells #[.slice P 8 J] 206)) (by omega)) (fun hHeld=>?_);clear hK K
       try simp only[Act.put,List.setIfInBounds_toArray,List.set_cons_zero,List.set_cons_succ]
       refine wpAnyH_ready (rs:=[5]) (by kernel_rfl) (by simp) ?_;refine AllReadyH.cons rfl (fun K hK=>?_) ?_
       ·skip
        refine Q0o Q5O rfl (.tmp 20) (.tmp 23) rfl wc.heap.size (.slice R i M) hs rfl (D.out.alloc (.cells #[.slice P 8 J] 206)) (some ⟨c.heap.size,0,none⟩) 1 _ [(P,8,J)] 1 rfl rfl (by simp) QaP (by rw[aj.out];simp;omega) (by simp;omega) ?_;intro v8 m F r ab;obtain⟨k,d,e8,_⟩:=ownL.open (L:=Q0q) F;have aE:(hs++[((P,8,J):Hd)]).length=i+1:=(by rw[List.length_append,aj.out];rfl);rw[aE]at e8;subst e8;have s:=(r.block B (by simp;omega) (fun e=>by have:=x.out B e.symm;have:=ak.out B e.symm;omega)).trans ((Below.heap_alloc _ _ _ N).trans aO.out)
        have p8:m.cell? ⟨B,2,none⟩=some (.slice R i M):=Q02 s 2 _ rfl;have f8:=Q04 s 2;have ac:m.rangeAt wr.heap.size 0 (ptL f):=Q49 (Q1a I ((Below.refl c.heap.size c).alloc (Kaq _) _) (by omega)) r (by simp;omega) (fun e=>by have:=x.out _ e.symm;omega);have E:=Q00 s;have an:=Q00 F;have z:=Q00 r;have am:=Q00 ab;clear F r ab s;refine hK.out _ _ ac (fun hHeld=>?_);clear hK K
        try simp only[Act.put,List.setIfInBounds_toArray,List.set_cons_zero,List.set_cons_succ]
        refine wpAnyH_take (i:=6) (oi:=_) (v:=.pointer (some ⟨B,2,none⟩)) rfl (by kernel_rfl) (by kernel_rfl) (by kernel_rfl) (fun _ _ _ h=>h) (Or.inl ⟨by rfl,fun w _=>by go_simp⟩) hHeld ?_
        try simp only[Act.put,List.setIfInBounds_toArray,List.set_cons_zero,List.set_cons_succ]
        refine wpAnyH_ready (rs:=[7]) (by kernel_rfl) (by simp) ?_;refine AllReadyH.cons rfl (fun K hK=>?_) ?_
        ·skip
         go_simp
         refine hK.out _ _ (Q6J ac (by omega) _ _) (fun hHeld=>?_);clear hK K
         try simp only[Act.put,List.setIfInBounds_toArray,List.set_cons_zero,List.set_cons_succ]
         refine wpAnyH_done (by kernel_rfl) ?_ _;have ay:Hid ((m.setCell ⟨B,2,none⟩ (.slice k (i+1) d)).heap[B]? =some (.cells #[.int .i64 key,.slice o2 l.length Z,.slice k (i+1) d] 29 (0,0))):=Q0p E.out 2 _;have ao:Hid (ownL Q0q 206 (m.setCell ⟨B,2,none⟩ (.slice k (i+1) d)) wc.heap.size (.slice k (i+1) d) (hs++[(P,8,J)])):=Q0I an.out E.out Qht 2 _;have q:=Rw.more ah.out aK.out al (show wc.heap.size<=W2.heap.size by omega) ag aJ.out C.out x.out z.out;rw[<-aN.out]at q
         have ar:Hid (Rw InT [] ((fs.map Q41).take (i+1)) wc.heap.size (m.setCell ⟨B,2,none⟩ (.slice k (i+1) d)).heap.size (m.setCell ⟨B,2,none⟩ (.slice k (i+1) d)) (hs++[(P,8,J)]) _ _):=(q.step InT.stp (Q0x m B 2 (.slice k (i+1) d)) (fun j hj=> .inl (Kdq (show B+1<=wc.heap.size from aY) (q.bd j hj).1))).mono (Kaq _) (by simp);have ax:=Q00 (Q94 C.out aW.out al ag x.out am.out)
         have X:Hid (Q1F (m.setCell ⟨B,2,none⟩ (.slice k (i+1) d)) t.heap.size (.slice o2 l.length Z) l):=Q0I (World.ownsRow.kept (World.ownsRow.alloc A.out _) z.out (Q1A A.out D.out QiQ)) E.out QdR 2 _;have Y:=Q00 ((Q9l ai.out z.out (fun g e=>ak.out g e)).trans (Q0x m B 2 (.slice k (i+1) d)))
         have aF:wc.heap.size<=m.heap.size:=by have:=Y.out.size;simpa using this
         clear q;go_wp2;go_roundw
         case rel=>exact⟨i+1,_,_,_,k,d,by omega,by go_num,ay.out,ao.out,ar.out,ax.out,X.out,by simpa using aF,Y.out⟩
         case measure=>simp[intOf];omega
        exact AllReadyH.nil
       exact AllReadyH.nil
      exact AllReadyH.nil
     refine AllReadyH.cons rfl (fun K hK=>?_) ?_
     ·skip
      go_simp
      refine hK.out _ _ (Q1a I ((Below.refl c.heap.size c).alloc (Kaq _) (.cells #[.slice P 8 J] 206)) (by omega)) (fun hHeld=>?_);clear hK K
      try simp only[Act.put,List.setIfInBounds_toArray,List.set_cons_zero,List.set_cons_succ]
      refine wpAnyH_ready (rs:=[1]) (by kernel_rfl) (by simp) ?_;refine AllReadyH.cons rfl (fun K hK=>?_) ?_
      ·skip
       go_simp
       refine hK.out _ _ (Q1a I ((Below.refl c.heap.size c).alloc (Kaq _) (.cells #[.slice P 8 J] 206)) (by omega)) (fun hHeld=>?_);clear hK K
       try simp only[Act.put,List.setIfInBounds_toArray,List.set_cons_zero,List.set_cons_succ]
       refine wpAnyH_ready (rs:=[5]) (by kernel_rfl) (by simp) ?_;refine AllReadyH.cons rfl (fun K hK=>?_) ?_
       ·skip
        refine Q0o Q5O rfl (.tmp 20) (.tmp 23) rfl wc.heap.size (.slice R i M) hs rfl (D.out.alloc (.cells #[.slice P 8 J] 206)) (some ⟨c.heap.size,0,none⟩) 1 _ [(P,8,J)] 1 rfl rfl (by simp) QaP (by rw[aj.out];simp;omega) (by simp;omega) ?_;intro v8 m F r ab;obtain⟨k,d,e8,_⟩:=ownL.open (L:=Q0q) F;have aE:(hs++[((P,8,J):Hd)]).length=i+1:=(by rw[List.length_append,aj.out];rfl);rw[aE]at e8;subst e8;have s:=(r.block B (by simp;omega) (fun e=>by have:=x.out B e.symm;have:=ak.out B e.symm;omega)).trans ((Below.heap_alloc _ _ _ N).trans aO.out)
        have p8:m.cell? ⟨B,2,none⟩=some (.slice R i M):=Q02 s 2 _ rfl;have f8:=Q04 s 2;have ac:m.rangeAt wr.heap.size 0 (ptL f):=Q49 (Q1a I ((Below.refl c.heap.size c).alloc (Kaq _) _) (by omega)) r (by simp;omega) (fun e=>by have:=x.out _ e.symm;omega);have E:=Q00 s;have an:=Q00 F;have z:=Q00 r;have am:=Q00 ab;clear F r ab s;refine hK.out _ _ ac (fun hHeld=>?_);clear hK K
        try simp only[Act.put,List.setIfInBounds_toArray,List.set_cons_zero,List.set_cons_succ]
        refine wpAnyH_take (i:=6) (oi:=_) (v:=.pointer (some ⟨B,2,none⟩)) rfl (by kernel_rfl) (by kernel_rfl) (by kernel_rfl) (fun _ _ _ h=>h) (Or.inl ⟨by rfl,fun w _=>by go_simp⟩) hHeld ?_
        try simp only[Act.put,List.setIfInBounds_toArray,List.set_cons_zero,List.set_cons_succ]
        refine wpAnyH_ready (rs:=[7]) (by kernel_rfl) (by simp) ?_;refine AllReadyH.cons rfl (fun K hK=>?_) ?_
        ·skip
         go_simp
         refine hK.out _ _ (Q6J ac (by omega) _ _) (fun hHeld=>?_);clear hK K
         try simp only[Act.put,List.setIfInBounds_toArray,List.set_cons_zero,List.set_cons_succ]
         refine wpAnyH_done (by kernel_rfl) ?_ _;have ay:Hid ((m.setCell ⟨B,2,none⟩ (.slice k (i+1) d)).heap[B]? =some (.cells #[.int .i64 key,.slice o2 l.length Z,.slice k (i+1) d] 29 (0,0))):=Q0p E.out 2 _;have ao:Hid (ownL Q0q 206 (m.setCell ⟨B,2,none⟩ (.slice k (i+1) d)) wc.heap.size (.slice k (i+1) d) (hs++[(P,8,J)])):=Q0I an.out E.out Qht 2 _;have q:=Rw.more ah.out aK.out al (show wc.heap.size<=W2.heap.size by omega) ag aJ.out C.out x.out z.out;rw[<-aN.out]at q
         have ar:Hid (Rw InT [] ((fs.map Q41).take (i+1)) wc.heap.size (m.setCell ⟨B,2,none⟩ (.slice k (i+1) d)).heap.size (m.setCell ⟨B,2,none⟩ (.slice k (i+1) d)) (hs++[(P,8,J)]) _ _):=(q.step InT.stp (Q0x m B 2 (.slice k (i+1) d)) (fun j hj=> .inl (Kdq (show B+1<=wc.heap.size from aY) (q.bd j hj).1))).mono (Kaq _) (by simp);have ax:=Q00 (Q94 C.out aW.out al ag x.out am.out)
         have X:Hid (Q1F (m.setCell ⟨B,2,none⟩ (.slice k (i+1) d)) t.heap.size (.slice o2 l.length Z) l):=Q0I (World.ownsRow.kept (World.ownsRow.alloc A.out _) z.out (Q1A A.out D.out QiQ)) E.out QdR 2 _;have Y:=Q00 ((Q9l ai.out z.out (fun g e=>ak.out g e)).trans (Q0x m B 2 (.slice k (i+1) d)))
         have aF:wc.heap.size<=m.heap.size:=by have:=Y.out.size;simpa using this
         clear q;go_wp2;go_roundw
         case rel=>exact⟨i+1,_,_,_,k,d,by omega,by go_num,ay.out,ao.out,ar.out,ax.out,X.out,by simpa using aF,Y.out⟩
         case measure=>simp[intOf];omega
        exact AllReadyH.nil
       exact AllReadyH.nil
      exact AllReadyH.nil
     exact AllReadyH.nil
    exact AllReadyH.nil
   ·skip
    have e:i=n:=by omega
    subst e;have af:=aw.out.box bh.out (.inl (show w.heap.size+1 < B by omega));have r0:wr.cell? ⟨w.heap.size+1,0,none⟩=some (.int .i64 0):=Q02 af 0 _ rfl;have az:=Q04 af 0;have r1:wr.cell? ⟨w.heap.size+1,1,none⟩=some (.slice none 0 0):=Q02 af 1 _ rfl;have aA:=Q04 af 1;have r2:wr.cell? ⟨w.heap.size+1,2,none⟩=some (.slice none 0 0):=Q02 af 2 _ rfl;have aB:=Q04 af 2;have p0:wr.cell? ⟨B,0,none⟩=some (.int .i64 key):=Q02 aI.out 0 _ rfl;have p1:wr.cell? ⟨B,1,none⟩=some (.slice o2 l.length Z):=Q02 aI.out 1 _ rfl;have p2:wr.cell? ⟨B,2,none⟩=some (.slice R i M):=Q02 aI.out 2 _ rfl
    have be:Hid (InPm t.heap.size wr.heap.size wr (plv key (.slice o2 l.length Z) (.slice R i M)) ⟨key,l,fs.map Q41⟩):=⟨_,_,wc.heap.size,rfl,bk,bj,⟨aX.out,bf.out⟩,⟨hs,L,H,InRow.of (Qcj aL.out au.out ap.out).1,(Qcj aL.out au.out ap.out).2,QhJ aL.out C.out⟩⟩;have bb:=Q00 (aZ.out.trans (aw.out.below (show w.heap.size<=B by omega) (by omega)));clear af;go_wp2;refine bodyPost_ret (v:=plv key (.slice o2 l.length Z) (.slice R i M)) (by simp[results,Tryz.results135,go_sem,r0,r1,r2]) rfl ⟨_,rfl, ?_,Q0D bb.out (Nat.le_succ _) _ _ _⟩;rw[Qab]
    exact InPm.mono (be.out.step (Q99 wr (w.heap.size+1) _ _ _) (.inl (by omega))) (by omega)
theorem Qfn (key:Int) (o:Option Addr) (cap:Nat) (l:List Bk) (d:Option Addr) (g:Nat) (a:List Pt) (w:World) (i:RdK w.heap.size w o l) (j:o=none->cap=0) (b:l.length<=1048576) (h:RdL Q1O w.heap.size w d a) (c:a.length<=1048576):
  Calls Tryz.prog 135 #[Q5x key (.slice o l.length cap) (.slice d a.length g)] w fun e f=> ∃v,e=.returned v/\InPm w.heap.size f.heap.size f v ⟨key,l,a.map Q41⟩/\Below w.heap.size w f:=QgF key o cap l d g a a.length rfl w i j b h c
theorem Qgs:AppOk Q0T 22 3:=⟨Tryz.underlying22,⟨_,_,Qbv,rfl,by decide⟩,by decide,fun a u hu=>by
 have:u=.int .i64 a:=by simpa[Q0T]using hu
 subst this;rfl⟩
def RcV {α:Type} (L:Lay α) (lo hi:Nat) (w:World) (v:Value) (l:List α):Prop:=RiV L lo hi w v l/\Qiz v
abbrev RcT:=RiRows (RcV Q0T) []
abbrev RcR:=RiRows RcT []
theorem RiRows.map {α:Type} {Q Q':Nat->Nat->World->Value->α->Prop} {d:α} (c:∀{lo hi:Nat} {w:World} {v:Value} {x:α},Q lo hi w v x->Q' lo hi w v x) {lo hi:Nat} {w:World} {v:Value} {xs:List α} (h:RiRows Q d lo hi w v xs):RiRows Q' d lo hi w v xs:=by
 obtain⟨hs,a,b,h2⟩:=h;exact⟨hs,a,b,fun i hi=>c (h2 i hi)⟩
theorem RiRows.at {α:Type} {Q:Nat->Nat->World->Value->α->Prop} {d:α} {a C:Nat} {w:World} {o:Option Addr} {n c:Nat} {xs:List α} (h:RiRows Q d a C w (.slice o n c) xs) (p:C<=w.heap.size) (i:Nat) (hi:i < xs.length):∃b f u,o=some ⟨b,f,none⟩/\b < C/\w.cell? ⟨b,f+i,none⟩=some u/\Q a C w u (xs.getD i d):=by
 obtain⟨hs,g,j,h2⟩:=h;obtain⟨q,m,e,r⟩:=j.open;injection e with e1 e2 e3;subst e1
 rcases r with r|⟨b,f,l,k,r⟩
 ·subst r;simp at g;omega
 ·exact⟨b,f,hv hs i,l,k,RdL.head r i (by omega),h2 i hi⟩
def GTabs (w:World) (base:Nat) (hs:List Hd) (lll:List (List (List Int))):Prop:=hs.length=lll.length/\∀i,i < lll.length->∃o3 c3 hs8,hs.getD i (none,0,0)=(o3,(lll.getD i []).length,c3)/\ownL Q0q 22 w base (.slice o3 (lll.getD i []).length c3) hs8/\Tab (fun q=>(lll.getD i []).getD q []) (lll.getD i []).length w base hs8
theorem GTabs.rc {w:World} {base:Nat} {hs:List Hd} {R:List (List (List Int))} {o:Option Addr} {n c:Nat} (h:GTabs w base hs R) (k:ownL Q0q 206 w base (.slice o n c) hs):RcR base w.heap.size w (.slice o n c) R:=by
 refine⟨hs,h.1,InRow.ri (InRow.of k),fun i hi=>?_⟩;obtain⟨l,d,a,e,g,h2⟩:=h.2 i hi
 have f:hv hs i=.slice l (R.getD i []).length d:=by unfold hv;rw[e]
 rw[f];exact⟨a,h2.len,InRow.ri (InRow.of g),fun j b=>⟨InRow.ri (InRow.of (h2.row j b)),InRow.cap (InRow.of (h2.row j b))⟩⟩
theorem RcR.ri {lo hi:Nat} {w:World} {v:Value} {R:List (List (List Int))} (h:RcR lo hi w v R):RiR lo hi w v R:=RiRows.map (fun q=>RiRows.map (fun r=>r.1) q) h
theorem GTabs.ri {w:World} {base:Nat} {hs:List Hd} {R:List (List (List Int))} {o:Option Addr} {n c:Nat} (h:GTabs w base hs R) (a:ownL Q0q 206 w base (.slice o n c) hs):RiR base w.heap.size w (.slice o n c) R:=RcR.ri (h.rc a)
theorem GTabs.pm {w:World} {lo base:Nat} {key:Int} {l:List Bk} {hs:List Hd} {a:List (List (List Int))} {d f:Option Addr} {b n c:Nat} (g:Q1F w base (.slice d l.length b) l) (h2:ownL Q0q 206 w base (.slice f n c) hs) (h:GTabs w base hs a):RiPm base w.heap.size w (plv key (.slice d l.length b) (.slice f n c)) ⟨key,l,a⟩:=⟨_,_,rfl,InRow.ri (InRow.of g),GTabs.ri h h2⟩
def pm0:Pm:=⟨0,[],[]⟩
def QaG (key:Int) (l:List Bk):List (List Int):=Q2J (fun b=>Q0U key b l) 8
theorem Q2b (key:Int) (l:List Bk):(QaG key l).length=8:=Q16 _ _
theorem Qcd (key:Int) (l:List Bk) (j:Nat):((QaG key l).getD j []).length<=2:=by
 by_cases h:j < 8
 ·unfold QaG;rw[Q1V _ _ _ h];exact QaF key j l
 ·rw[KFq,List.getElem?_eq_none (by rw[Q2b];omega)];simp
theorem Qhp (key:Int) (l:List Bk):szT (QaG key l)<=16:=by
 have h:=QbC (Q7e (QaG key l)) 2 (fun i=>Qcd key l i) (QaG key l).length;unfold szT;rw[Q2b]at h ⊢;omega
theorem Tab.congr {R R':Nat->List Int} {k:Nat} {w:World} {base:Nat} {hs:List Hd} (h:Tab R k w base hs) (e:∀i,i < k->R i=R' i):Tab R' k w base hs:=⟨h.len,fun i hi=>by rw[<-e i hi];exact h.row i hi,h.apart⟩
theorem QhE {key:Int} {l:List Bk} {w:World} {base:Nat} {hs:List Hd} (h:Tab (fun b=>Q0U key b l) 8 w base hs):Tab (fun q=>(QaG key l).getD q []) (QaG key l).length w base hs:=by
 rw[Q2b];exact h.congr (fun i hi=>by unfold QaG;rw[Q1V _ _ _ hi])
def Q2d (key:Int) (R:List (List Bk)):List (List (List Int)):=R.map (QaG key)
theorem Q2P (key:Int) (R:List (List Bk)) (i:Nat) (h:i < R.length):(Q2d key R).getD i []=QaG key (R.getD i []):=by simp[Q2d,h]
theorem QdY (key:Int) (l:List Bk) (R:List (List Bk)) (c:l.length<=1048576) (f:R.length<=3):Q3a ⟨key,l,Q2d key R⟩:=by
 have a:(Q2d key R).length=R.length:=by simp[Q2d]
 have d:∀i,Q4h (Q2d key R) i<=16:=fun i=>by
  by_cases h:i < R.length
  ·unfold Q4h;rw[Q2P _ _ _ h];exact Qhp key _
  ·unfold Q4h;rw[KFq,List.getElem?_eq_none (by rw[a];omega)];exact Kcq _
 refine⟨c,by show(Q2d key R).length<=_;omega, ?_,fun i hi=>?_,fun i hi j g=>?_⟩
 ·have h:=QbC (Q4h (Q2d key R)) 16 d (Q2d key R).length
  show Q0K (Q4h (Q2d key R)) (Q2d key R).length<=1048576
  rw[a]at h ⊢;omega
 ·have b:i < R.length:=by rw[<-a];exact hi
  show((Q2d key R).getD i []).length<=_
  rw[Q2P _ _ _ b,Q2b];omega
 ·have b:i < R.length:=by rw[<-a];exact hi
  show(((Q2d key R).getD i []).getD j []).length<=_
  rw[Q2P _ _ _ b];have:=Qcd key (R.getD i []) j;omega
theorem Qix (lo hi:Nat) (w:World) (h:lo<=hi):InPm lo hi w (plv 0 (.slice none 0 0) (.slice none 0 0)) pm0:=⟨_,_,lo,rfl,Kaq _,h,⟨KLq _ _ _ _,fun b e=>by cases e⟩,⟨[],fun _=> 0,fun _=> 0,⟨KLq _ _ _ _,fun b e=>by cases e⟩,Rw.nil _ _ _ _ _ _ _,fun i h=>absurd h (KMq _)⟩⟩
abbrev Qh6 (W:World) (R:Nat) (x0 x1 x2 x3 x4 x5 x6:Value):World:=((((((W.setCell ⟨R,0,none⟩ x0).setCell ⟨R,1,none⟩ x1).setCell ⟨R,2,none⟩ x2).setCell ⟨R,3,none⟩ x3).setCell ⟨R,4,none⟩ x4).setCell ⟨R,5,none⟩ x5).setCell ⟨R,6,none⟩ x6
theorem Q8W (W:World) (R:Nat) (a b c d f g h:Value):Stp R (R+1) W (Qh6 W R a b c d f g h):=((((((Q0x W R 0 a).trans (Q0x _ R 1 b)).trans (Q0x _ R 2 c)).trans (Q0x _ R 3 d)).trans (Q0x _ R 4 f)).trans (Q0x _ R 5 g)).trans (Q0x _ R 6 h)
theorem Q6k (W:World) (R:Nat) (x0 x1 x2 x3 x4 x5 x6:Value):(Qh6 W R x0 x1 x2 x3 x4 x5 x6).heap.size=W.heap.size:=by simp[World.setCell]
theorem Q2K {C:Nat} {w W:World} {R:Nat} (h:Below C w W) (a:C<=R) (b c d f g i j:Value):Below C w (Qh6 W R b c d f g i j):=((((((h.setCell (p:=⟨R,0,none⟩) a _).setCell (p:=⟨R,1,none⟩) a _).setCell (p:=⟨R,2,none⟩) a _).setCell (p:=⟨R,3,none⟩) a _).setCell (p:=⟨R,4,none⟩) a _).setCell (p:=⟨R,5,none⟩) a _).setCell (p:=⟨R,6,none⟩) a _
theorem Qa2 {a b a' b':Nat} {w:World} {v:Value} {m:Pm} (h:InPm a b w v m) (d:a'<=a) (h2:b<=b'):InPm a' b' w v m:=by
 obtain⟨i,j,c,e,k,l,f,g⟩:=h;exact⟨i,j,c,e,by omega,by omega,InRow.mono f d (Kaq _),InRows.mono.go g (Kaq _) h2⟩
theorem Qdo {a b a' b':Nat} {w:World} {v:Value} {m:Jm} (h:InJm a b w v m) (h1:a'<=a) (h2:b<=b'):InJm a' b' w v m:=by
 obtain⟨vl,e,i1⟩:=h;exact⟨vl,e,InRow.mono i1 h1 h2⟩
theorem QgN (r:Int) (o:Option Addr) (s c:Nat) (z u:Int) (ob:Option Addr) (x cb:Nat) (oR:Option Addr) (y cR:Nat) (ot:Option Addr) (A ct:Nat) (m:Bm) (w:World)
  (aI:m.j.key=r) (aO:m.j.safe=z) (aJ:m.p.key=u) (aK:m.j.l.length=s) (aL:m.p.l.length=x) (aM:m.p.ring.length=y) (aN:m.t.length=A)
  (h1:RdJm w.heap.size w (jrn r (.slice o s c) z) m.j) (h2:Q8f w.heap.size w (plv u (.slice ob x cb) (.slice oR y cR)) m.p) (h3:RdT w.heap.size w (tab (.slice ot A ct)) m.t) (hf:Q5m m):
  Calls Tryz.prog 51 #[Q5i r (.slice o s c) z u (.slice ob x cb) (.slice oR y cR) (.slice ot A ct)] w fun e w'=> ∃v',e=.returned v'/\InBm w.heap.size w'.heap.size w' v' m/\Below w.heap.size w w':=by
 have HJ:=Q00 (fun W (a:Below w.heap.size w W)=>Q9r (jrn r (.slice o s c) z) m.j W ((h1.kept a (Kaq _)).le a.size) hf.1);have HP:=Q00 (fun W (a:Below w.heap.size w W)=>Qeu (plv u (.slice ob x cb) (.slice oR y cR)) m.p W ((h2.kept a (Kaq _)).le a.size) hf.2.1);have HT:=Q00 (fun W (a:Below w.heap.size w W)=>Q5s (tab (.slice ot A ct)) m.t W ((h3.kept a (Kaq _)).le a.size) hf.2.2);have T:=Q00 (And.intro aI (And.intro aO (And.intro aJ (And.intro aK (And.intro aL (And.intro aM aN))))));clear h1 h2 h3 hf aI aO aJ aK aL aM aN
 obtain⟨C,I⟩:∃W,(((w.alloc (.cells #[.int .i64 r,.slice o s c,.int .i64 z,.int .i64 u,.slice ob x cb,.slice oR y cR,.slice ot A ct] 58)).alloc (.cells #[.int .i64 0,.slice none 0 0,.int .i64 0,.int .i64 0,.slice none 0 0,.slice none 0 0,.slice none 0 0] 34)).alloc (.cells #[.int .i64 0,.slice none 0 0,.int .i64 0,.int .i64 0,.slice none 0 0,.slice none 0 0,.slice none 0 0] 34))=W:=⟨_,rfl⟩;have H:=Q00 (show Below w.heap.size w C by rw[<-I];exact(((KBq.alloc (Kaq _) _).alloc (by simp <;> omega) _).alloc (by simp <;> omega) _));have zx:=alz0v2v3 I
 obtain⟨ah,ai,aj,ak,al,am,an⟩:=alc7v0v3 I;have ae:=Q00 (show C.heap[w.heap.size+1+1]? =some (.cells #[.int .i64 0,.slice none 0 0,.int .i64 0,.int .i64 0,.slice none 0 0,.slice none 0 0,.slice none 0 0] 34 (0,0))by rw[<-I];exact Q67 w _ _ _ _);have aa:=Q00 (show C.heap[w.heap.size+1]? =some (.cells #[.int .i64 0,.slice none 0 0,.int .i64 0,.int .i64 0,.slice none 0 0,.slice none 0 0,.slice none 0 0] 34 (0,0))by rw[<-I];exact Q8q w _ _ _ _);have bd:w.heap.size<=C.heap.size:=H.out.size;go_enter Tryz.func51,Tryz.ntmps51;go_wp2_with fail;refine(HJ.out C H.out).mono ?_
 rintro e P ⟨be,rfl,k,a⟩;obtain⟨bh,aG,E,D,aE,_⟩:=k.rd;rw[T.out.1,T.out.2.1]at aG;rw[T.out.2.2.2.1]at aE;subst aE aG;have aT:C.heap.size<=P.heap.size:=a.size;have q:=(a.block _ (show w.heap.size+1+1 < C.heap.size by omega)).trans ae.out;have U:=(a.block _ (show w.heap.size+1 < C.heap.size by omega)).trans aa.out;have V:=bC a ah (show w.heap.size < C.heap.size by omega);have X:=bC a ai (show w.heap.size < C.heap.size by omega);have Y:=bC a aj (show w.heap.size < C.heap.size by omega);have Z:=bC a ak (show w.heap.size < C.heap.size by omega)
 have y4:=bC a al (show w.heap.size < C.heap.size by omega);have y5:=bC a am (show w.heap.size < C.heap.size by omega);have y6:=bC a an (show w.heap.size < C.heap.size by omega);have p0:=Q02 q 0 _ rfl;have p1:=Q02 q 1 _ rfl;have p2:=Q02 q 2 _ rfl;have q0:=Q04 q 0;have q1:=Q04 q 1;have q2:=Q04 q 2;obtain⟨g,b⟩:∃W,(((P.setCell ⟨w.heap.size+1+1,0,none⟩ (.int .i64 r)).setCell ⟨w.heap.size+1+1,1,none⟩ (.slice E s D)).setCell ⟨w.heap.size+1+1,2,none⟩ (.int .i64 z))=W:=⟨_,rfl⟩
 have af:=Q00 (show g.heap[w.heap.size+1+1]? =some (.cells #[.int .i64 r,.slice E s D,.int .i64 z,.int .i64 0,.slice none 0 0,.slice none 0 0,.slice none 0 0] 34 (0,0))by rw[<-b];exact(Q0p (Q0p (Q0p q 0 (.int .i64 r)) 1 (.slice E s D)) 2 (.int .i64 z)));have ab:=Q00 (show g.heap[w.heap.size+1]? =some (.cells #[.int .i64 0,.slice none 0 0,.int .i64 0,.int .i64 0,.slice none 0 0,.slice none 0 0,.slice none 0 0] 34 (0,0))by rw[<-b];exact((Q12 (by omega) _ _).trans ((Q12 (by omega) _ _).trans ((Q12 (by omega) _ _).trans U))))
 have ba:g.heap.size=P.heap.size:=by rw[<-b];simp
 have N:=Q00 (show Below w.heap.size w g by rw[<-b];exact((((H.out.trans (a.mono H.out.size)).setCell (p:=⟨w.heap.size+1+1,0,none⟩) (show w.heap.size<=w.heap.size+1+1 by omega) _).setCell (p:=⟨w.heap.size+1+1,1,none⟩) (show w.heap.size<=w.heap.size+1+1 by omega) _).setCell (p:=⟨w.heap.size+1+1,2,none⟩) (show w.heap.size<=w.heap.size+1+1 by omega) _))
 have J:Stp (w.heap.size+1+1) (w.heap.size+1+1+1) P g:=by rw[<-b];exact(((Q0x P (w.heap.size+1+1) 0 (.int .i64 r)).trans (Q0x (P.setCell ⟨w.heap.size+1+1,0,none⟩ (.int .i64 r)) (w.heap.size+1+1) 1 (.slice E s D))).trans (Q0x ((P.setCell ⟨w.heap.size+1+1,0,none⟩ (.int .i64 r)).setCell ⟨w.heap.size+1+1,1,none⟩ (.slice E s D)) (w.heap.size+1+1) 2 (.int .i64 z)))
 have IN0:=Q00 (k.step J (.inl (by omega)))
 have ao:g.cell? ⟨w.heap.size,0,none⟩=some (.int .i64 r):=by rw[<-b];exact((Q0c (by omega)).trans ((Q0c (by omega)).trans ((Q0c (by omega)).trans V)))
 have ap:g.cell? ⟨w.heap.size,1,none⟩=some (.slice o s c):=by rw[<-b];exact((Q0c (by omega)).trans ((Q0c (by omega)).trans ((Q0c (by omega)).trans X)))
 have aq:g.cell? ⟨w.heap.size,2,none⟩=some (.int .i64 z):=by rw[<-b];exact((Q0c (by omega)).trans ((Q0c (by omega)).trans ((Q0c (by omega)).trans Y)))
 have ar:g.cell? ⟨w.heap.size,3,none⟩=some (.int .i64 u):=by rw[<-b];exact((Q0c (by omega)).trans ((Q0c (by omega)).trans ((Q0c (by omega)).trans Z)))
 have au:g.cell? ⟨w.heap.size,4,none⟩=some (.slice ob x cb):=by rw[<-b];exact((Q0c (by omega)).trans ((Q0c (by omega)).trans ((Q0c (by omega)).trans y4)))
 have av:g.cell? ⟨w.heap.size,5,none⟩=some (.slice oR y cR):=by rw[<-b];exact((Q0c (by omega)).trans ((Q0c (by omega)).trans ((Q0c (by omega)).trans y5)))
 have aw:g.cell? ⟨w.heap.size,6,none⟩=some (.slice ot A ct):=by rw[<-b];exact((Q0c (by omega)).trans ((Q0c (by omega)).trans ((Q0c (by omega)).trans y6)))
 clear q U a k J V ah X ai Y aj Z ak y4 al y5 am y6 an H ae aa;go_wp2_with fail;refine(HP.out g N.out).mono ?_;rintro e R ⟨bf,rfl,k,a⟩;obtain⟨G,F,n,i,aH⟩:=k.opn;rw[T.out.2.2.1,T.out.2.2.2.2.1,T.out.2.2.2.2.2.1]at aH;subst aH;have aU:g.heap.size<=R.heap.size:=a.size;have q:=(a.block _ (show w.heap.size+1+1 < g.heap.size by omega)).trans af.out;have U:=(a.block _ (show w.heap.size+1 < g.heap.size by omega)).trans ab.out;have V:=bC a ao (show w.heap.size < g.heap.size by omega)
 have X:=bC a ap (show w.heap.size < g.heap.size by omega);have Y:=bC a aq (show w.heap.size < g.heap.size by omega);have Z:=bC a ar (show w.heap.size < g.heap.size by omega);have y4:=bC a au (show w.heap.size < g.heap.size by omega);have y5:=bC a av (show w.heap.size < g.heap.size by omega);have y6:=bC a aw (show w.heap.size < g.heap.size by omega);replace IN0:=Q00 (IN0.out.step (Stp.of (lo:=0) (hi:=0) a) (.inl (Kcq _)));have p3:=Q02 q 3 _ rfl;have p4:=Q02 q 4 _ rfl;have p5:=Q02 q 5 _ rfl;have q3:=Q04 q 3;have q4:=Q04 q 4;have q5:=Q04 q 5
 obtain⟨h,d⟩:∃W,(((R.setCell ⟨w.heap.size+1+1,3,none⟩ (.int .i64 u)).setCell ⟨w.heap.size+1+1,4,none⟩ (.slice G x F)).setCell ⟨w.heap.size+1+1,5,none⟩ (.slice n y i))=W:=⟨_,rfl⟩;have ag:=Q00 (show h.heap[w.heap.size+1+1]? =some (.cells #[.int .i64 r,.slice E s D,.int .i64 z,.int .i64 u,.slice G x F,.slice n y i,.slice none 0 0] 34 (0,0))by rw[<-d];exact(Q0p (Q0p (Q0p q 3 (.int .i64 u)) 4 (.slice G x F)) 5 (.slice n y i)))
 have ac:=Q00 (show h.heap[w.heap.size+1]? =some (.cells #[.int .i64 0,.slice none 0 0,.int .i64 0,.int .i64 0,.slice none 0 0,.slice none 0 0,.slice none 0 0] 34 (0,0))by rw[<-d];exact((Q12 (by omega) _ _).trans ((Q12 (by omega) _ _).trans ((Q12 (by omega) _ _).trans U))))
 have bb:h.heap.size=R.heap.size:=by rw[<-d];simp
 have O:=Q00 (show Below w.heap.size w h by rw[<-d];exact((((N.out.trans (a.mono N.out.size)).setCell (p:=⟨w.heap.size+1+1,3,none⟩) (show w.heap.size<=w.heap.size+1+1 by omega) _).setCell (p:=⟨w.heap.size+1+1,4,none⟩) (show w.heap.size<=w.heap.size+1+1 by omega) _).setCell (p:=⟨w.heap.size+1+1,5,none⟩) (show w.heap.size<=w.heap.size+1+1 by omega) _))
 have J:Stp (w.heap.size+1+1) (w.heap.size+1+1+1) R h:=by rw[<-d];exact(((Q0x R (w.heap.size+1+1) 3 (.int .i64 u)).trans (Q0x (R.setCell ⟨w.heap.size+1+1,3,none⟩ (.int .i64 u)) (w.heap.size+1+1) 4 (.slice G x F))).trans (Q0x ((R.setCell ⟨w.heap.size+1+1,3,none⟩ (.int .i64 u)).setCell ⟨w.heap.size+1+1,4,none⟩ (.slice G x F)) (w.heap.size+1+1) 5 (.slice n y i)))
 replace IN0:=Q00 (IN0.out.step J (.inl (by omega)));have IN1:=Q00 (k.step J (.inl (by omega)))
 have ax:h.cell? ⟨w.heap.size,0,none⟩=some (.int .i64 r):=by rw[<-d];exact((Q0c (by omega)).trans ((Q0c (by omega)).trans ((Q0c (by omega)).trans V)))
 have ay:h.cell? ⟨w.heap.size,1,none⟩=some (.slice o s c):=by rw[<-d];exact((Q0c (by omega)).trans ((Q0c (by omega)).trans ((Q0c (by omega)).trans X)))
 have az:h.cell? ⟨w.heap.size,2,none⟩=some (.int .i64 z):=by rw[<-d];exact((Q0c (by omega)).trans ((Q0c (by omega)).trans ((Q0c (by omega)).trans Y)))
 have aA:h.cell? ⟨w.heap.size,3,none⟩=some (.int .i64 u):=by rw[<-d];exact((Q0c (by omega)).trans ((Q0c (by omega)).trans ((Q0c (by omega)).trans Z)))
 have aB:h.cell? ⟨w.heap.size,4,none⟩=some (.slice ob x cb):=by rw[<-d];exact((Q0c (by omega)).trans ((Q0c (by omega)).trans ((Q0c (by omega)).trans y4)))
 have aC:h.cell? ⟨w.heap.size,5,none⟩=some (.slice oR y cR):=by rw[<-d];exact((Q0c (by omega)).trans ((Q0c (by omega)).trans ((Q0c (by omega)).trans y5)))
 have aD:h.cell? ⟨w.heap.size,6,none⟩=some (.slice ot A ct):=by rw[<-d];exact((Q0c (by omega)).trans ((Q0c (by omega)).trans ((Q0c (by omega)).trans y6)))
 clear q U a k J V ao X ap Y aq Z ar y4 au y5 av y6 aw N af ab;go_wp2_with fail;refine(HT.out h O.out).mono ?_;rintro e v3 ⟨bg,rfl,k,a⟩;obtain⟨bi,aS,M,L,aF,_⟩:=k.rd;rw[T.out.2.2.2.2.2.2]at aF;subst aF aS;have aV:h.heap.size<=v3.heap.size:=a.size;have q:=(a.block _ (show w.heap.size+1+1 < h.heap.size by omega)).trans ag.out;have U:=(a.block _ (show w.heap.size+1 < h.heap.size by omega)).trans ac.out;have V:=bC a ax (show w.heap.size < h.heap.size by omega);have X:=bC a ay (show w.heap.size < h.heap.size by omega)
 have Y:=bC a az (show w.heap.size < h.heap.size by omega);have Z:=bC a aA (show w.heap.size < h.heap.size by omega);have y4:=bC a aB (show w.heap.size < h.heap.size by omega);have y5:=bC a aC (show w.heap.size < h.heap.size by omega);have y6:=bC a aD (show w.heap.size < h.heap.size by omega);replace IN0:=Q00 (IN0.out.step (Stp.of (lo:=0) (hi:=0) a) (.inl (Kcq _)));replace IN1:=Q00 (IN1.out.step (Stp.of (lo:=0) (hi:=0) a) (.inl (Kcq _)));have p6:=Q02 q 6 _ rfl;have q6:=Q04 q 6;obtain⟨B,f⟩:∃W,(v3.setCell ⟨w.heap.size+1+1,6,none⟩ (.slice M A L))=W:=⟨_,rfl⟩
 have aR:=Q00 (show B.heap[w.heap.size+1+1]? =some (.cells #[.int .i64 r,.slice E s D,.int .i64 z,.int .i64 u,.slice G x F,.slice n y i,.slice M A L] 34 (0,0))by rw[<-f];exact(Q0p q 6 (.slice M A L)));have ad:=Q00 (show B.heap[w.heap.size+1]? =some (.cells #[.int .i64 0,.slice none 0 0,.int .i64 0,.int .i64 0,.slice none 0 0,.slice none 0 0,.slice none 0 0] 34 (0,0))by rw[<-f];exact((Q12 (by omega) _ _).trans U))
 have bc:B.heap.size=v3.heap.size:=by rw[<-f];simp
 have aP:=Q00 (show Below w.heap.size w B by rw[<-f];exact((O.out.trans (a.mono O.out.size)).setCell (p:=⟨w.heap.size+1+1,6,none⟩) (show w.heap.size<=w.heap.size+1+1 by omega) _))
 have J:Stp (w.heap.size+1+1) (w.heap.size+1+1+1) v3 B:=by rw[<-f];exact(Q0x v3 (w.heap.size+1+1) 6 (.slice M A L))
 replace IN0:=Q00 (IN0.out.step J (.inl (by omega)));replace IN1:=Q00 (IN1.out.step J (.inl (by omega)));have IN2:=Q00 (k.step J (.inl (by omega)))
 have aW:B.cell? ⟨w.heap.size,0,none⟩=some (.int .i64 r):=by rw[<-f];exact((Q0c (by omega)).trans V)
 have aX:B.cell? ⟨w.heap.size,1,none⟩=some (.slice o s c):=by rw[<-f];exact((Q0c (by omega)).trans X)
 have aY:B.cell? ⟨w.heap.size,2,none⟩=some (.int .i64 z):=by rw[<-f];exact((Q0c (by omega)).trans Y)
 have aZ:B.cell? ⟨w.heap.size,3,none⟩=some (.int .i64 u):=by rw[<-f];exact((Q0c (by omega)).trans Z)
 have a0:B.cell? ⟨w.heap.size,4,none⟩=some (.slice ob x cb):=by rw[<-f];exact((Q0c (by omega)).trans y4)
 have a1:B.cell? ⟨w.heap.size,5,none⟩=some (.slice oR y cR):=by rw[<-f];exact((Q0c (by omega)).trans y5)
 have a2:B.cell? ⟨w.heap.size,6,none⟩=some (.slice ot A ct):=by rw[<-f];exact((Q0c (by omega)).trans y6)
 clear q U a k J V ax X ay Y az Z aA y4 aB y5 aC y6 aD O ag ac;obtain⟨x0,x1,x2,x3,x4,x5,x6⟩:=cxb7v0v0 aR.out;obtain⟨r0,r1,r2,r3,r4,r5,r6⟩:=cxb7v0v0 ad.out;obtain⟨a3,a4,a5,a6,a7,a8,a9⟩:=fxb7v0v0 ad.out
 have aQ:Hid (InBm w.heap.size (Qh6 B (w.heap.size+1) (.int .i64 r) (.slice E s D) (.int .i64 z) (.int .i64 u) (.slice G x F) (.slice n y i) (.slice M A L)).heap.size (Qh6 B (w.heap.size+1) (.int .i64 r) (.slice E s D) (.int .i64 z) (.int .i64 u) (.slice G x F) (.slice n y i) (.slice M A L)) (Q5i r (.slice E s D) z u (.slice G x F) (.slice n y i) (.slice M A L)) m):=by
  have s9:=Q8W B (w.heap.size+1) (.int .i64 r) (.slice E s D) (.int .i64 z) (.int .i64 u) (.slice G x F) (.slice n y i) (.slice M A L);obtain⟨e1,e2,e3,_⟩:=T.out;refine⟨.slice E s D,.slice G x F,.slice n y i,.slice M A L,w.heap.size,P.heap.size,P.heap.size,R.heap.size,R.heap.size,B.heap.size,by rw[e1,e2,e3],by rw[Q6k];omega, ?_, ?_, ?_⟩
  ·rw[e1,e2];exact Qdo (IN0.out.step s9 (.inl (by omega))) (by omega) (by omega)
  ·rw[e3];exact Qa2 (IN1.out.step s9 (.inl (by omega))) (by omega) (by omega)
  ·exact(IN2.out.step s9 (.inl (by omega))).mono (by omega) (by omega)
 go_wp2;refine bodyPost_ret (v:=Q5i r (.slice E s D) z u (.slice G x F) (.slice n y i) (.slice M A L)) (by simp[results,Tryz.results51,go_sem,r0,r1,r2,r3,r4,r5,r6]) rfl ⟨_,rfl,aQ.out,Q2K aP.out (Nat.le_succ _) _ _ _ _ _ _ _⟩
theorem Qgj (v:Value) (m:Bm) (w:World) (b:RdBm w.heap.size w v m) (r:Q5m m):
  Calls Tryz.prog 51 #[v] w fun e a=> ∃d,e=.returned d/\InBm w.heap.size a.heap.size a d m/\Below w.heap.size w a:=by
 obtain⟨o,c,t,j,s,i,u,k,rfl⟩:=b.opn;obtain⟨y,x,z,A,e,f,g,h⟩:=b;simp only[Value.agg.injEq,Array.mk.injEq,List.cons.injEq,and_true,true_and]at e;obtain⟨l,n,p,q⟩:=e;subst l n p q;exact QgN _ o _ c _ _ t _ j s _ i u _ k m w rfl rfl rfl rfl rfl rfl rfl f g h r
def Q0Q (m:Jm):Pm:=if Q0n m.key m.l m.safe=true then⟨m.key,Q0j m.l m.l.length,Q2d m.key (Q1E m.l m.l.length)⟩else pm0
theorem QaA (cs:List Cd):∀n,(Q1E cs n).length<=3
 |0=>by simp[Q1E]
 |n+1=>by rw[Q1E,List.length_take];omega
theorem Q3O (m:Jm):Q3a (Q0Q m):=by
 unfold Q0Q
 split
 ·next h=>exact QdY m.key _ _ (by have:=(Q9Z h).2;omega) (QaA _ _)
 ·exact⟨by simp[pm0],by simp[pm0],by simp[pm0,szR,Q0K],fun i hi=>absurd hi (KMq _),fun i hi=>absurd hi (KMq _)⟩
theorem Qhm {w:World} {base:Nat} {key:Int} {hs:List Hd} {R:List (List Bk)} (h:PTabs w base key hs R):GTabs w base hs (Q2d key R):=by
 refine⟨by rw[h.1];simp[Q2d],fun i hi=>?_⟩
 have a:i < R.length:=by simpa[Q2d]using hi
 obtain⟨f,c,b,e,d,h2⟩:=h.2 i a;rw[Q2P _ _ _ a];exact⟨f,c,b,by rw[Q2b];exact e,by rw[Q2b];exact d,QhE h2⟩
def Q4Y (cs:List Cd) (a:Nat):Nat->List (List Bk)
 |0=> []
 |j+1=>Q0j cs (a+j)::Q4Y cs a j
theorem Q1Z (cs:List Cd) (a:Nat):∀j,(Q4Y cs a j).length=j
 |0=>rfl
 |j+1=>by simp[Q4Y,Q1Z cs a j]
theorem Qdp (cs:List Cd) (a j:Nat) (key:Int) (b:j<=2):Q2E key (Q0j cs (a+j))::((Q4Y cs a j).map (Q2E key)).take 2=(Q4Y cs a (j+1)).map (Q2E key):=by
 rw[List.take_of_length_le (by rw[List.length_map,Q1Z];exact b)]
 rfl
theorem Q6R (cs:List Cd):∀n,Q1E cs (n+2)=[Q0j cs (n+2),Q0j cs (n+1),Q0j cs n]
 |0=>rfl
 |n+1=>by rw[Q1E,Q6R cs n];rfl
theorem QcP (cs:List Cd) (n:Nat):Q1E cs n=Q4Y cs (n+1 - 3) (n+1 - (n+1 - 3)):=by
 match n with
 |0=>rfl
 |1=>rfl
 |n+2=>
  rw[Q6R,show n+2+1 - 3=n by omega,show n+2+1 - n=3 by omega];simp[Q4Y]
theorem Qcg {cs:List Cd} {a:Nat} (h:∀q,q < cs.length+1->Q0d (Q0j cs q)=true):∀j,a+j<=cs.length+1->∀l∈Q4Y cs a j,Q0d l=true
 |0,_=>fun l b=>by simp[Q4Y]at b
 |j+1,hj=>fun l b=>by
  rcases List.mem_cons.1 b with rfl|b
  ·exact h _ (by omega)
  ·exact Qcg h j (by omega) l b
theorem Qfr {key:Int} {L:List (List Bk)} (h:∀l∈L,Q0d l=true):(L.map (Q2E key)).map Q41=Q2d key L:=by
 rw[List.map_map];exact List.map_congr_left (fun l hl=>QgP key (h l hl))
theorem Q2Y {key a:Int} {cs:List Cd} (h:Q0n key cs a=true):∀q,q < cs.length+1->Q0d (Q0j cs q)=true/\(Q0j cs q).length<=100:=fun q d=>by
 obtain⟨l,b⟩:=Q58 (Q4b h) (show q<=cs.length by omega);have c:=Q3U q l (by omega) b;have h2:=(Q2c h).2.1;unfold Q0j;rw[b];exact⟨c.1,by simp only[Option.getD_some];omega⟩
def bvS (hs:List Hd) (a:Nat):Nat->Value
 |0=> .slice none 0 0
 |j+1=>hv hs (a+j)
theorem QfA (hs:List Hd) (a:Nat):∀(j n:Nat),1<=j->a+(j - 1)=n->bvS hs a j=hv hs n
 |0,n,h,_=>absurd h (by omega)
 |j+1,n,_,h=>by
  rw[<-h]
  rfl
theorem Qa0 {α:Type} {L:Lay α} {T:TypeId} {w:World} {base:Nat} {o:Option Addr} {n c:Nat} {a:List α} (h:ownL L T w base (.slice o n c) a):a.length<=c/\(o=none->c=0):=by
 rcases h.2 with⟨e,d⟩|⟨g,cap,b,e,_,_,f,_⟩
 ·injection e with e1 e2 e3
  exact⟨by omega,fun _=>e3⟩
 ·injection e with e1 e2 e3
  exact⟨by omega,fun h=>by rw[h]at e1;cases e1⟩
theorem Q8h (v:Value) (m:Jm) (w:World) (hR:RdJm w.heap.size w v m) (aL:capJm v) (hf:Qhd m):
  Calls Tryz.prog 159 #[v] w fun e w'=> ∃v',e=.returned (.tuple #[v',.bool (Q0n m.key m.l m.safe)])/\InPm w.heap.size w'.heap.size w' v' (Q0Q m)/\Below w.heap.size w w':=by
 have aJ:=hR;obtain⟨vl,rfl,⟨o,c,rfl,r⟩⟩:=aJ;clear aL hR;obtain⟨key,l,f⟩:=m;dsimp only at *;have z:=Q00 (show Q0Q ⟨key,l,f⟩=if Q0n key l f=true then⟨key,Q0j l l.length,Q2d key (Q1E l l.length)⟩else pm0 from rfl);have aa:=Q00 (fun h:Q0n key l f=true=>And.intro (Q2c h) (And.intro (Q4b h) (And.intro (Q2Y h) (Q3O ⟨key,l,f⟩))));unfold Qhd at hf;dsimp only at hf;obtain⟨W0,t⟩:∃W,((w.alloc (.cells #[.int .i64 key,.slice o l.length c,.int .i64 f] 25)).alloc (.cells #[.int .i64 0,.slice none 0 0,.slice none 0 0] 29))=W:=⟨_,rfl⟩;have G:=alb0v0v2 t;have E:=Q00 G
 clear G;have J:=alz0v0v2 t;obtain⟨z0,z1,z2⟩:=alc3v0v2 t;have p:=alz0v1v2 t;obtain⟨Z,r1,r2⟩:=alc3v1v2 t;obtain⟨A,B,C⟩:=alf3v1v2 t;have aE:=Q00 (show W0.heap[w.heap.size+1]? =some (.cells #[.int .i64 0,.slice none 0 0,.slice none 0 0] 29 (0,0))by rw[<-t];exact Q2w w _ _ _);have aQ:=p;have P:=Q00 (Qfm key f o c l W0 ((r.kept E.out (Kaq _)).le E.out.size) hf);clear r
 cases hj:Q0n key l f with
 |false=>
  rw[hj]at P z;clear aa hj;go_enter Tryz.func159,Tryz.ntmps159;go_wp2_with fail;refine(P.out).mono ?_;rintro e g ⟨v9,rfl,_,b⟩;replace z0:=bC b z0 J;replace z1:=bC b z1 J;replace z2:=bC b z2 J;replace J:=Kbq J b.size;replace Z:=bC b Z p;replace r1:=bC b r1 p;replace r2:=bC b r2 p;replace A:=bF b A p;replace B:=bF b B p;replace C:=bF b C p;replace p:=Kbq p b.size;replace E:=Q00 (E.out.trans (b.mono E.out.size));clear b;go_wp2
  refine bodyPost_ret (v:=.tuple #[plv 0 (.slice none 0 0) (.slice none 0 0),.bool false]) (by simp[results,Tryz.results159,go_sem,Z,r1,r2]) rfl ⟨_,rfl, ?_,Q0D E.out (Nat.le_succ _) _ _ _⟩;rw[z.out,if_neg (by simp)];exact Qix _ _ _ (Q0D E.out (Nat.le_succ _) _ _ _).size
 |true=>
  obtain⟨⟨hk,hl,h0,h1⟩,ax,ay,aM⟩:=aa.out hj;have ae:=Q00 ay;have HK:=Q00 hk;rw[hj]at P z;clear aa hj ay hk aM ax;go_enter Tryz.func159,Tryz.ntmps159;go_wp2_with fail;refine(P.out).mono ?_;rintro e g ⟨v9,rfl,H,b⟩;obtain⟨hs,av,V⟩:=H (by simp);have F:=Q00 av;have ad:=Q00 V;have a6:=b.size;have aj:=Q00 ((b.block _ aQ).trans aE.out);clear H av V;replace z0:=bC b z0 J;replace z1:=bC b z1 J;replace z2:=bC b z2 J;replace J:=Kbq J b.size;replace Z:=bC b Z p;replace r1:=bC b r1 p;replace r2:=bC b r2 p;replace A:=bF b A p
  replace B:=bF b B p;replace C:=bF b C p;replace p:=Kbq p b.size;replace E:=Q00 (E.out.trans (b.mono E.out.size));clear b;have ab:=Q00 ad.out.len;obtain⟨g9,c9,e9⟩:=Q74 F.out (by rw[ab.out];omega);subst e9;have aK:hs.length<=c9:=(Qa0 F.out).1;have aN:g9 < g.heap.size:=(F.out.lt g9 rfl).2;have a5:W0.heap.size<=g9:=(F.out.lt g9 rfl).1;obtain⟨N,hN⟩:∃N,hs.length=N:=⟨_,rfl⟩;have HN:=Q00 (show N=l.length+1 by rw[<-hN];exact ab.out);have aW:=Q00 hN;rw[hN]at aK ⊢
  have aY:1<=N:=by have:=HN.out;omega
  clear hN;obtain⟨a,ha⟩:∃a,N - 3=a:=⟨_,rfl⟩
  have a3:a < N:=by omega
  have aR:(a:Int) < (N:Int):=by omega
  have a4:¬(c9=a):=by omega
  have aT:(a:Int)<=(c9:Int):=by omega
  have aS:(a:Int)<=(N:Int):=by omega
  have aP:max (0:Int) ((N:Int) - 3)=(a:Int):=by omega
  have HA:=Q00 ha
  have aI:N<=101:=by have:=HN.out;omega
  clear ha;go_wp2;obtain⟨W1,R⟩:∃W,g.alloc (.cells #[.int .i64 key,.slice none 0 0,.slice none 0 0] 218)=W:=⟨_,rfl⟩;rw[R];have az:=alx0v0v1 R;have ao:=alb0v0v1 R;have an:=Q00 az;have D:g.heap.size < W1.heap.size:=(KEq an.out);have aB:=Q00 ao;clear az ao R z0 z1 z2 Z r1 r2 A B C;obtain⟨M,hM⟩:∃M,N - a=M:=⟨_,rfl⟩;rw[hM];have HM:=Q00 hM
  have aX:M<=3:=by have:=HA.out;omega
  have aH:1<=M:=by omega
  have aZ:a+M=N:=by omega
  clear hM aP
  go_loopw [27] (fun iv wr=> ∃(j:Nat) (oR:Option Addr) (cR:Nat) (ob:Option Addr) (nb cb:Nat),j<=M/\iv=.int .i64 (j:Int)/\Hid (wr.heap[g.heap.size]? =some (.cells #[.int .i64 key,.slice ob nb cb,.slice oR j cR] 218 (0,0)))/\Hid (bvS hs a j=.slice ob nb cb)/\Hid (ownL Q1O 266 wr W1.heap.size (.slice oR j cR) ((Q4Y l a j).map (Q2E key)))/\Hid (Stp g.heap.size (g.heap.size+1) W1 wr)/\W1.heap.size<=wr.heap.size)
   (fun iv _=>M - (intOf iv).toNat)
  case atStart=>exact⟨0,none,0,none,0,0,Kcq _,rfl,an.out,rfl,KLq _ _ _ _,Stp.refl _,Kaq _⟩
  case round=>
   obtain⟨j,oR,cR,ob,nb,cb,hj,rfl,O,aD,ac,am,ah⟩:=hrel;have i:=Q00 (aB.out.trans (am.out.below (Kaq _) (KIq D)));have p0:wr.cell? ⟨g.heap.size,0,none⟩=some (.int .i64 key):=Q02 O.out 0 _ rfl;have p1:wr.cell? ⟨g.heap.size,1,none⟩=some (.slice ob nb cb):=Q02 O.out 1 _ rfl;have p2:wr.cell? ⟨g.heap.size,2,none⟩=some (.slice oR j cR):=Q02 O.out 2 _ rfl;have x:=Qa0 ac.out;rw[List.length_map,Q1Z]at x
   by_cases hlt:j < M
   ·skip
    have aU:(j:Int) < (M:Int):=by omega
    have ag:a+j < l.length+1:=by have:=HN.out;omega
    have d:=ad.out.row (a+j) ag;obtain⟨oK,cK,X,rK⟩:=ownL.open (L:=Q0L) d;have Y:=Q61 (X ▸ d);have aq:=bC i.out (Q9s F.out (a+j) (by rw[ab.out];exact ag)) aN;rw[X]at aq;have ak:=Q00 X;have y:=ae.out (a+j) ag;have hw:=Qgr key ob nb cb oR cR oK cK (Q0j l (a+j)) wr ((Q4Y l a j).map (Q2E key)) (by rw[List.length_map,Q1Z];omega) (ownL.rds (L:=Q1O) ac.out) (by rw[List.length_map,Q1Z];exact x.1) x.2 ((rK.kept i.out (Kaq _)).le (Kdq (KIq D) ah)) (by omega) HK.out y.1;rw[Qdp l a j key (by omega)]at hw
    simp only[List.length_map,Q1Z]at hw;have HW:=Q00 hw;clear hw y rK d X;obtain⟨nk,au⟩:∃n,(Q0j l (a+j)).length=n:=⟨_,rfl⟩;rw[au]at aq HW ak;clear au;go_wp2_with fail;refine HW.out.mono ?_;rintro e v2 ⟨o2,c2,rfl,aA,T⟩;have aV:=T.size;have k:=(T.block _ (show g.heap.size < wr.heap.size by omega)).trans O.out;have a0:v2.cell? ⟨g.heap.size,0,none⟩=some (.int .i64 key):=Q02 k 0 _ rfl;have f0:=Q04 k 0;have a1:v2.cell? ⟨g.heap.size,1,none⟩=some (.slice ob nb cb):=Q02 k 1 _ rfl;have f1:=Q04 k 1
    have a2:v2.cell? ⟨g.heap.size,2,none⟩=some (.slice oR j cR):=Q02 k 2 _ rfl;have f2:=Q04 k 2;have aF:Hid ((setP v2 g.heap.size (.int .i64 key) (.slice oK nk cK) (.slice o2 (j+1) c2)).heap[g.heap.size]? =some (.cells #[.int .i64 key,.slice oK nk cK,.slice o2 (j+1) c2] 218 (0,0))):=Q0p (Q0p (Q0p k 0 _) 1 _) 2 _;have HO9':=Q00 (Q0i (Q0i (Q0i (Q06 aA ah) D 0 (.int .i64 key)) D 1 (.slice oK nk cK)) D 2 (.slice o2 (j+1) c2));have HS9':=Q00 ((am.out.trans (Stp.of T)).trans (Q99 v2 g.heap.size (.int .i64 key) (.slice oK nk cK) (.slice o2 (j+1) c2)))
    have V:W1.heap.size<=v2.heap.size:=by omega
    clear aA T k p0 p1 p2;go_wp2;go_roundw
    case rel=>exact⟨j+1,o2,c2,oK,nk,cK,by omega,by go_num,aF.out,ak.out,HO9'.out,HS9'.out,by simpa using V⟩
    case measure=>simp[intOf];omega
   ·skip
    have e:j=M:=by omega
    subst e
    have aO:a+(j - 1)=l.length:=by have:=HN.out;omega
    have d:=ad.out.row l.length (by omega);obtain⟨oK,cK,X,rK⟩:=ownL.open (L:=Q0L) d;have Y:=Q61 (X ▸ d);have ap:=QfA hs a j l.length aH aO;rw[aD.out,X]at ap;injection ap with e1 e2 e3;subst e1 e2 e3;have y:=ae.out l.length (by omega);have hp:=Qfn key ob cb (Q0j l l.length) oR cR ((Q4Y l a j).map (Q2E key)) wr ((rK.kept i.out (Kaq _)).le (Kdq (KIq D) ah)) Y (by omega) (ownL.rds (L:=Q1O) ac.out) (by rw[List.length_map,Q1Z];omega);rw[Qfr (Qcg (fun q hq=>(ae.out q hq).1) j (by have:=HN.out;omega))]at hp;simp only[List.length_map,Q1Z]at hp
    have I:Q4Y l a j=Q1E l l.length:=by rw[QcP,<-HN.out,HA.out,HM.out]
    rw[I]at hp;have HP:=Q00 hp;clear hp I d X rK y;obtain⟨sv,y⟩:∃s,Q0j l l.length=s:=⟨_,rfl⟩;rw[y]at HP z p1;obtain⟨rg,aw⟩:∃s,Q2d key (Q1E l l.length)=s:=⟨_,rfl⟩;rw[aw]at HP z;clear y aw;go_wp2_with fail;refine HP.out.mono ?_;rintro e v3 ⟨v9,rfl,ar,U⟩;have al:=Q00 ar;have a7:=U.size;clear ar;obtain⟨o9,aG,ai,af,e9⟩:∃(o9:Option Addr) (c9:Nat) (ai:Option Addr) (af:Nat),v9=plv key (.slice o9 sv.length c9) (.slice ai rg.length af):=al.out.opn;subst e9
    have u:=(U.block _ (show w.heap.size+1 < wr.heap.size by omega)).trans ((i.out.block _ (show w.heap.size+1 < g.heap.size by omega)).trans aj.out);have Z:v3.cell? ⟨w.heap.size+1,0,none⟩=some (.int .i64 0):=Q02 u 0 _ rfl;have A:=Q04 u 0;have r1:v3.cell? ⟨w.heap.size+1,1,none⟩=some (.slice none 0 0):=Q02 u 1 _ rfl;have B:=Q04 u 1;have r2:v3.cell? ⟨w.heap.size+1,2,none⟩=some (.slice none 0 0):=Q02 u 2 _ rfl;have C:=Q04 u 2;have aC:=Q00 ((E.out.trans (i.out.mono E.out.size)).trans (U.mono (by omega)));clear U u;go_wp2
    refine bodyPost_ret (v:=.tuple #[plv key (.slice o9 sv.length aG) (.slice ai rg.length af),.bool true]) (by simp[results,Tryz.results159,go_sem,Z,r1,r2]) rfl ⟨_,rfl, ?_,Q0D aC.out (Nat.le_succ _) _ _ _⟩;rw[z.out,if_pos trivial,Qab];exact InPm.mono (al.out.step (Q99 v3 (w.heap.size+1) _ _ _) (.inl (by omega))) (by omega)
theorem Q7J {lo hi:Nat} {w:World} {v:Value} {m:Bm} (h:InBm lo hi w v m) (G:hi<=w.heap.size):∃(o:Option Addr) (c:Nat) (f:Option Addr) (b:Nat) (d:Option Addr) (a:Nat) (g:Option Addr) (i:Nat),v=Q5i m.j.key (.slice o m.j.l.length c) m.j.safe m.p.key (.slice f m.p.l.length b) (.slice d m.p.ring.length a) (.slice g m.t.length i)/\RdC w.heap.size w o m.j.l/\(o=none->c=0)/\Q8f w.heap.size w (plv m.p.key (.slice f m.p.l.length b) (.slice d m.p.ring.length a)) m.p/\RdS w.heap.size w g m.t:=by
 obtain⟨R,P,T,U,H,I,L,M,N,O,e,J,y,z,B⟩:=h;have A:=y.cap;obtain⟨E,s,o,c,k,C⟩:=y.rd;obtain⟨f,b,d,a,u⟩:=z.opn;obtain⟨F,x,g,i,r,D⟩:=B.rd;simp only[Value.agg.injEq,Array.mk.injEq,List.cons.injEq,and_true,true_and]at s u x;obtain⟨n,q⟩:=u;subst s k x r n q;exact⟨o,c,f,b,d,a,g,i,e,C.le (by omega),capJm.one A,z.rd.le (by omega),D.le (by omega)⟩
end Go.Proofs.YteffhdcankkfkaaGreat
