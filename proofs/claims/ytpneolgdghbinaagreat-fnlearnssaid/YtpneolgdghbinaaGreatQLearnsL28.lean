/- Several texts in one: SPw2, SPn, SOwn4, SPNew, SBBox, SRepl, SRepl2, RcP, BalIn. -/
import Derived.Great.BuildSlice
import Derived.Test.YtpneolgdghbinaaGreatQLearnsL27
namespace Go.Proofs.YtpneolgdghbinaaGreat
open Go.ChangeShapes Go.WideShapes Go.ChangeAt Go.RowKit Go.Joins
set_option linter.unusedVariables false
set_option linter.unusedSimpArgs false
set_option maxRecDepth 100000
set_option maxHeartbeats 40000000
def Q20:Lay Pt:=⟨24,ptL,ptZ,fun _=> rfl⟩
theorem Qhu:(Tryz.prog.info? 188).map (fun i=> (i.zero,i.size,i.bytes))=some (some (.agg #[.bool false,.int .i64 0,.int .i64 0,.bool false,.int .i64 0,.int .i64 0,.bool false,.int .i64 0,.int .i64 0,.bool false,.int .i64 0,.int .i64 0,.bool false,.int .i64 0,.int .i64 0,.bool false,.int .i64 0,.int .i64 0,.bool false,.int .i64 0,.int .i64 0,.bool false,.int .i64 0,.int .i64 0]),24,192):=by kernel_rfl
theorem Qhx (f:Pt):∀u∈Q20.cs f,u.oneCell'=true:=fun v hv=> by
 have b:v∈ptL f:=hv;unfold ptL at b;simp only [List.mem_flatMap,Qgk,List.mem_cons,List.not_mem_nil,or_false] at b;obtain ⟨a,_,rfl|rfl|rfl⟩:=b <;> rfl
theorem Qiy:AppOk Q20 125 188:=⟨Tryz.underlying125,⟨_,_,Qhu,rfl,by decide⟩,by decide,Qhx⟩
theorem Qic (f:Pt) (s:Nat) (z:Value) (hs:s=24) (a:z.cells.size=24):Instr.fill (fun i=> some (i * s,s)) ((Array.range (1 * s)).map (z.cells[· % z.cells.size]!)) [(0,ptv f)]=some (ptA f):=by
 subst hs;have h:=Great.fill_whole (s:=24) (by decide) [ptv f] ((Array.range (1 * 24)).map (z.cells[· % z.cells.size]!)) (fun v hv=> by simp at hv;subst hv;rfl) (by simp)
 simpa [ptv,Value.cells] using h
theorem Q2c {b:Array Oper} {rest:List Oper} {o:Oper} {a:Act} {w:World} {Q:Exit→Act→World→Prop} (c:o.guard=none) (x:Operand) (d:o.op=.buildSlice 125 1 #[(0,x)]) (f:Pt) (g:a.eval x=ptv f)
  (h:wpList Tryz.prog b Q rest (a.put o.dst (.slice (some ⟨w.heap.size,0,none⟩) 1 1)) (w.alloc (.cells (ptA f) 188))):wpList Tryz.prog b Q (o::rest) a w:=by
 have hi:=Qhu
 cases hq:Tryz.prog.info? 188 with
 |none=> simp [hq] at hi
 |some i=>
  simp [hq] at hi;refine wpList_buildSlice c _ 188 1 _ d (ptA f) i _ Tryz.underlying125 hq hi.1 (by rw [hi.2.1];decide) (by rw [hi.2.1];decide) ?_ h;simp only [List.map_toArray,List.map_cons,List.map_nil,g];exact Qic f _ _ hi.2.1 rfl
theorem Q5y (w:World) (f:Pt):ownL Q20 188 (w.alloc (.cells (ptA f) 188)) w.heap.size (.slice (some ⟨w.heap.size,0,none⟩) 1 1) [f]:=
 ⟨by simp [Q20,QbI],.inr ⟨w.heap.size,1,ptA f,rfl,Kaq _,heap_alloc_new w _,by simp,by unfold maxLen;omega,by rw [QcM];rfl,by simp [Q20,ptA];exact List.take_of_length_le (by rw [QbI];exact Kaq _)⟩⟩
theorem Q0w {C:Nat} {w W:World} {B:Nat} (h:Below C w W) (hB:C≤B) (x y z:Value):Below C w (setP W B x y z):=((h.setCell (p:=⟨B,0,none⟩) hB _).setCell (p:=⟨B,1,none⟩) hB _).setCell (p:=⟨B,2,none⟩) hB _
theorem Q6Z {C:Nat} {w:World} {o:Option Addr} {a:List Pt} (h:RdL Q20 C w o a):RdL Q20 C w o (a.take 2):=by
 rcases h with h|⟨b,off,c,g,r⟩
 ·left;rw [h];rfl
 ·refine .inr ⟨b,off,c,g,fun i hi j f=> ?_⟩
  have k:i < 2:=by simp at hi;omega
  have h2:i < a.length:=by simp at hi;omega
  have e:(a.take 2).getD i Q20.d=a.getD i Q20.d:=by simp [List.getD_eq_getElem?_getD,List.getElem?_take,k]
  rw [e];exact r i h2 j f
abbrev Q6A (key:Int) (vb vr:Value):Value:=.agg #[.int .i64 key,vb,vr]
theorem Qiv (key:Int) (U:Option Addr) (T Y:Nat) (E:Option Addr) (F:Nat) (o:Option Addr) (cap:Nat) (l:List Bk) (w:World) (P:RdL Q20 w.heap.size w E ([]:List Pt)) (hc:0≤F) (hn:E=none→F=0) (hR:RdK w.heap.size w o l) (H:l.length≤1048576) (V:Q1P key=true) (Z:Q0e l=true):
  Calls Tryz.prog 68 #[Q6A key (.slice U T Y) (.slice E 0 F),.slice o l.length cap] w fun e w'=> ∃o2 c2,e=.returned (Q6A key (.slice o l.length cap) (.slice o2 ((Q2K key l::([]:List Pt).take 2).length) c2))∧ownL Q20 188 w' w.heap.size (.slice o2 ((Q2K key l::([]:List Pt).take 2).length) c2) (Q2K key l::([]:List Pt).take 2)∧Below w.heap.size w w':=by
 obtain ⟨W0,i⟩:∃W,((w.alloc (.cells #[.int .i64 key,.slice U T Y,.slice E 0 F] 127)).alloc (.cells #[.int .i64 0,.slice none 0 0,.slice none 0 0] 127))=W:=⟨_,rfl⟩;have p:=alb0v0v2 i;have g:=Q01 p;clear p;have q:=alz0v0v2 i;obtain ⟨B,D,C⟩:=alc3v0v2 i;have c:=alz0v1v2 i;obtain ⟨A,t,r⟩:=alc3v1v2 i;obtain ⟨d,n,j⟩:=alf3v1v2 i;have aa:=c;have HT:=Q01 (Q1J key o cap l W0 ((hR.kept g.out (Kaq _)).le g.out.size) H V Z);have HG:=Q01 (show RdL Q20 w.heap.size w E ([]:List Pt) from Q6Z P);clear hR P V Z;obtain ⟨f,X⟩:∃f,Q2K key l=f:=⟨_,rfl⟩
 rw [X] at HT ⊢;clear X;go_enter Tryz.func68,Tryz.ntmps68;go_wp2_with fail;refine (HT.out).mono ?_;rintro e z ⟨rfl,m⟩;replace B:=bC m B q;replace D:=bC m D q;replace C:=bC m C q;replace q:=Kbq q m.size;replace A:=bC m A c;replace t:=bC m t c;replace r:=bC m r c;replace d:=bF m d c;replace n:=bF m n c;replace j:=bF m j c;replace c:=Kbq c m.size;replace g:=Q01 (g.out.trans (m.mono g.out.size));clear m;have I:=g.out.size;obtain ⟨J,y⟩:∃W,z.alloc (.cells (ptA f) 188)=W:=⟨_,rfl⟩;have a:=alb0v0v1 y
 have N:=Q01 (show ownL Q20 188 J z.heap.size (.slice (some ⟨z.heap.size,0,none⟩) 1 1) [f] by rw [←y];exact Q5y z f);have u:z.heap.size≤J.heap.size:=a.size;have s:=c;replace B:=bC a B q;replace D:=bC a D q;replace C:=bC a C q;replace q:=Kbq q a.size;replace A:=bC a A c;replace t:=bC a t c;replace r:=bC a r c;replace d:=bF a d c;replace n:=bF a n c;replace j:=bF a j c;replace c:=Kbq c a.size;replace g:=Q01 (g.out.trans (a.mono g.out.size));clear a
 go_wp2_with (first|(refine Q2c rfl (.tmp 9) rfl f rfl ?_;rw [y])|(at_builtin;refine Q08 Qiy rfl (.tmp 11) (.tmp 18) rfl z.heap.size _ [f] rfl N.out E F J.heap.size ([]:List Pt) 0 rfl rfl hn ((HG.out.kept g.out (Kaq _)).le g.out.size) (by simp) u ?_));intro v6 w6 x G _;obtain ⟨o6,R,e6,_⟩:=ownL.open (L:=Q20) x;subst e6
 have b:Below z.heap.size J w6:=(Below.refl _ _).mono u|>.grown G u (fun k h=> (N.out.lt k h).1)
 have O:=Q01 x;clear x G N;replace B:=bC b B (show _ < _ by omega);replace D:=bC b D (show _ < _ by omega);replace C:=bC b C (show _ < _ by omega);replace A:=bC b A (show _ < _ by omega);replace d:=bF b d (show _ < _ by omega);replace t:=bC b t (show _ < _ by omega);replace n:=bF b n (show _ < _ by omega);replace r:=bC b r (show _ < _ by omega);replace j:=bF b j (show _ < _ by omega);have M:=Q01 (g.out.trans (b.mono I));clear b g;go_wp2
 refine bodyPost_ret (v:=Q6A key (.slice o l.length cap) (.slice o6 ([f]++([]:List Pt)).length R)) (by simp [results,Tryz.results68,go_sem,A,t,r]) rfl ⟨o6,R,rfl, ?_,Q0w M.out (Nat.le_succ _) _ _ _⟩;exact Q04 (Q0o (Q0o (Q0o O.out s 0 _) s 1 _) s 2 _) I
theorem QiI (key:Int) (V:Option Addr) (U Z:Nat) (F:Option Addr) (G:Nat) (o:Option Addr) (cap:Nat) (l:List Bk) (w:World) (a:Pt) (R:RdL Q20 w.heap.size w F ([a]:List Pt)) (hc:1≤G) (hn:F=none→G=0) (hR:RdK w.heap.size w o l) (I:l.length≤1048576) (X:Q1P key=true) (hl:Q0e l=true):
  Calls Tryz.prog 68 #[Q6A key (.slice V U Z) (.slice F 1 G),.slice o l.length cap] w fun e w'=> ∃o2 c2,e=.returned (Q6A key (.slice o l.length cap) (.slice o2 ((Q2K key l::([a]:List Pt).take 2).length) c2))∧ownL Q20 188 w' w.heap.size (.slice o2 ((Q2K key l::([a]:List Pt).take 2).length) c2) (Q2K key l::([a]:List Pt).take 2)∧Below w.heap.size w w':=by
 obtain ⟨W0,j⟩:∃W,((w.alloc (.cells #[.int .i64 key,.slice V U Z,.slice F 1 G] 127)).alloc (.cells #[.int .i64 0,.slice none 0 0,.slice none 0 0] 127))=W:=⟨_,rfl⟩;have q:=alb0v0v2 j;have i:=Q01 q;clear q;have r:=alz0v0v2 j;obtain ⟨C,E,D⟩:=alc3v0v2 j;have d:=alz0v1v2 j;obtain ⟨B,u,s⟩:=alc3v1v2 j;obtain ⟨g,p,m⟩:=alf3v1v2 j;have aa:=d;have HT:=Q01 (Q1J key o cap l W0 ((hR.kept i.out (Kaq _)).le i.out.size) I X hl);have HG:=Q01 (show RdL Q20 w.heap.size w F ([a]:List Pt) from Q6Z R);clear hR R X hl;obtain ⟨f,Y⟩:∃f,Q2K key l=f:=⟨_,rfl⟩
 rw [Y] at HT ⊢;clear Y;go_enter Tryz.func68,Tryz.ntmps68;go_wp2_with fail;refine (HT.out).mono ?_;rintro e A ⟨rfl,n⟩;replace C:=bC n C r;replace E:=bC n E r;replace D:=bC n D r;replace r:=Kbq r n.size;replace B:=bC n B d;replace u:=bC n u d;replace s:=bC n s d;replace g:=bF n g d;replace p:=bF n p d;replace m:=bF n m d;replace d:=Kbq d n.size;replace i:=Q01 (i.out.trans (n.mono i.out.size));clear n;have J:=i.out.size;obtain ⟨M,z⟩:∃W,A.alloc (.cells (ptA f) 188)=W:=⟨_,rfl⟩;have b:=alb0v0v1 z
 have O:=Q01 (show ownL Q20 188 M A.heap.size (.slice (some ⟨A.heap.size,0,none⟩) 1 1) [f] by rw [←z];exact Q5y A f);have x:A.heap.size≤M.heap.size:=b.size;have t:=d;replace C:=bC b C r;replace E:=bC b E r;replace D:=bC b D r;replace r:=Kbq r b.size;replace B:=bC b B d;replace u:=bC b u d;replace s:=bC b s d;replace g:=bF b g d;replace p:=bF b p d;replace m:=bF b m d;replace d:=Kbq d b.size;replace i:=Q01 (i.out.trans (b.mono i.out.size));clear b
 go_wp2_with (first|(refine Q2c rfl (.tmp 9) rfl f rfl ?_;rw [z])|(at_builtin;refine Q08 Qiy rfl (.tmp 11) (.tmp 18) rfl A.heap.size _ [f] rfl O.out F G M.heap.size ([a]:List Pt) 1 rfl rfl hn ((HG.out.kept i.out (Kaq _)).le i.out.size) (by simp) x ?_));intro v6 w6 y H _;obtain ⟨o6,T,e6,_⟩:=ownL.open (L:=Q20) y;subst e6
 have c:Below A.heap.size M w6:=(Below.refl _ _).mono x|>.grown H x (fun k h=> (O.out.lt k h).1)
 have P:=Q01 y;clear y H O;replace C:=bC c C (show _ < _ by omega);replace E:=bC c E (show _ < _ by omega);replace D:=bC c D (show _ < _ by omega);replace B:=bC c B (show _ < _ by omega);replace g:=bF c g (show _ < _ by omega);replace u:=bC c u (show _ < _ by omega);replace p:=bF c p (show _ < _ by omega);replace s:=bC c s (show _ < _ by omega);replace m:=bF c m (show _ < _ by omega);have N:=Q01 (i.out.trans (c.mono J));clear c i;go_wp2
 refine bodyPost_ret (v:=Q6A key (.slice o l.length cap) (.slice o6 ([f]++([a]:List Pt)).length T)) (by simp [results,Tryz.results68,go_sem,B,u,s]) rfl ⟨o6,T,rfl, ?_,Q0w N.out (Nat.le_succ _) _ _ _⟩;exact Q04 (Q0o (Q0o (Q0o P.out t 0 _) t 1 _) t 2 _) J
theorem QiQ (key:Int) (X:Option Addr) (V cb:Nat) (G:Option Addr) (H:Nat) (o:Option Addr) (cap:Nat) (l:List Bk) (w:World) (a b:Pt) (T:RdL Q20 w.heap.size w G ([a,b]:List Pt)) (hc:2≤H) (hn:G=none→H=0) (hR:RdK w.heap.size w o l) (J:l.length≤1048576) (Y:Q1P key=true) (hl:Q0e l=true):
  Calls Tryz.prog 68 #[Q6A key (.slice X V cb) (.slice G 2 H),.slice o l.length cap] w fun e w'=> ∃o2 c2,e=.returned (Q6A key (.slice o l.length cap) (.slice o2 ((Q2K key l::([a,b]:List Pt).take 2).length) c2))∧ownL Q20 188 w' w.heap.size (.slice o2 ((Q2K key l::([a,b]:List Pt).take 2).length) c2) (Q2K key l::([a,b]:List Pt).take 2)∧Below w.heap.size w w':=by
 obtain ⟨W0,m⟩:∃W,((w.alloc (.cells #[.int .i64 key,.slice X V cb,.slice G 2 H] 127)).alloc (.cells #[.int .i64 0,.slice none 0 0,.slice none 0 0] 127))=W:=⟨_,rfl⟩;have r:=alb0v0v2 m;have j:=Q01 r;clear r;have s:=alz0v0v2 m;obtain ⟨D,F,E⟩:=alc3v0v2 m;have g:=alz0v1v2 m;obtain ⟨C,x,t⟩:=alc3v1v2 m;obtain ⟨i,q,n⟩:=alf3v1v2 m;have aa:=g;have HT:=Q01 (Q1J key o cap l W0 ((hR.kept j.out (Kaq _)).le j.out.size) J Y hl);have HG:=Q01 (show RdL Q20 w.heap.size w G ([a,b]:List Pt) from Q6Z T);clear hR T Y hl;obtain ⟨f,Z⟩:∃f,Q2K key l=f:=⟨_,rfl⟩
 rw [Z] at HT ⊢;clear Z;go_enter Tryz.func68,Tryz.ntmps68;go_wp2_with fail;refine (HT.out).mono ?_;rintro e B ⟨rfl,p⟩;replace D:=bC p D s;replace F:=bC p F s;replace E:=bC p E s;replace s:=Kbq s p.size;replace C:=bC p C g;replace x:=bC p x g;replace t:=bC p t g;replace i:=bF p i g;replace q:=bF p q g;replace n:=bF p n g;replace g:=Kbq g p.size;replace j:=Q01 (j.out.trans (p.mono j.out.size));clear p;have M:=j.out.size;obtain ⟨N,A⟩:∃W,B.alloc (.cells (ptA f) 188)=W:=⟨_,rfl⟩;have c:=alb0v0v1 A
 have P:=Q01 (show ownL Q20 188 N B.heap.size (.slice (some ⟨B.heap.size,0,none⟩) 1 1) [f] by rw [←A];exact Q5y B f);have y:B.heap.size≤N.heap.size:=c.size;have u:=g;replace D:=bC c D s;replace F:=bC c F s;replace E:=bC c E s;replace s:=Kbq s c.size;replace C:=bC c C g;replace x:=bC c x g;replace t:=bC c t g;replace i:=bF c i g;replace q:=bF c q g;replace n:=bF c n g;replace g:=Kbq g c.size;replace j:=Q01 (j.out.trans (c.mono j.out.size));clear c
 go_wp2_with (first|(refine Q2c rfl (.tmp 9) rfl f rfl ?_;rw [A])|(at_builtin;refine Q08 Qiy rfl (.tmp 11) (.tmp 18) rfl B.heap.size _ [f] rfl P.out G H N.heap.size ([a,b]:List Pt) 2 rfl rfl hn ((HG.out.kept j.out (Kaq _)).le j.out.size) (by simp) y ?_));intro v6 w6 z I _;obtain ⟨o6,U,e6,_⟩:=ownL.open (L:=Q20) z;subst e6
 have d:Below B.heap.size N w6:=(Below.refl _ _).mono y|>.grown I y (fun k h=> (P.out.lt k h).1)
 have R:=Q01 z;clear z I P;replace D:=bC d D (show _ < _ by omega);replace F:=bC d F (show _ < _ by omega);replace E:=bC d E (show _ < _ by omega);replace C:=bC d C (show _ < _ by omega);replace i:=bF d i (show _ < _ by omega);replace x:=bC d x (show _ < _ by omega);replace q:=bF d q (show _ < _ by omega);replace t:=bC d t (show _ < _ by omega);replace n:=bF d n (show _ < _ by omega);have O:=Q01 (j.out.trans (d.mono M));clear d j;go_wp2
 refine bodyPost_ret (v:=Q6A key (.slice o l.length cap) (.slice o6 ([f]++([a,b]:List Pt)).length U)) (by simp [results,Tryz.results68,go_sem,C,x,t]) rfl ⟨o6,U,rfl, ?_,Q0w O.out (Nat.le_succ _) _ _ _⟩;exact Q04 (Q0o (Q0o (Q0o R.out u 0 _) u 1 _) u 2 _) M
theorem QiR (key:Int) (Z:Option Addr) (X cb:Nat) (H:Option Addr) (I:Nat) (o:Option Addr) (cap:Nat) (l:List Bk) (w:World) (a b c:Pt) (U:RdL Q20 w.heap.size w H ([a,b,c]:List Pt)) (hc:3≤I) (hn:H=none→I=0) (hR:RdK w.heap.size w o l) (M:l.length≤1048576) (Y:Q1P key=true) (hl:Q0e l=true):
  Calls Tryz.prog 68 #[Q6A key (.slice Z X cb) (.slice H 3 I),.slice o l.length cap] w fun e w'=> ∃o2 c2,e=.returned (Q6A key (.slice o l.length cap) (.slice o2 ((Q2K key l::([a,b,c]:List Pt).take 2).length) c2))∧ownL Q20 188 w' w.heap.size (.slice o2 ((Q2K key l::([a,b,c]:List Pt).take 2).length) c2) (Q2K key l::([a,b,c]:List Pt).take 2)∧Below w.heap.size w w':=by
 obtain ⟨W0,n⟩:∃W,((w.alloc (.cells #[.int .i64 key,.slice Z X cb,.slice H 3 I] 127)).alloc (.cells #[.int .i64 0,.slice none 0 0,.slice none 0 0] 127))=W:=⟨_,rfl⟩;have s:=alb0v0v2 n;have m:=Q01 s;clear s;have t:=alz0v0v2 n;obtain ⟨E,G,F⟩:=alc3v0v2 n;have i:=alz0v1v2 n;obtain ⟨D,y,u⟩:=alc3v1v2 n;obtain ⟨j,r,p⟩:=alf3v1v2 n;have aa:=i;have HT:=Q01 (Q1J key o cap l W0 ((hR.kept m.out (Kaq _)).le m.out.size) M Y hl);have HG:=Q01 (show RdL Q20 w.heap.size w H ([a,b]:List Pt) from Q6Z U);clear hR U Y hl;obtain ⟨f,hf⟩:∃f,Q2K key l=f:=⟨_,rfl⟩
 rw [hf] at HT ⊢;clear hf;go_enter Tryz.func68,Tryz.ntmps68;go_wp2_with fail;refine (HT.out).mono ?_;rintro e C ⟨rfl,q⟩;replace E:=bC q E t;replace G:=bC q G t;replace F:=bC q F t;replace t:=Kbq t q.size;replace D:=bC q D i;replace y:=bC q y i;replace u:=bC q u i;replace j:=bF q j i;replace r:=bF q r i;replace p:=bF q p i;replace i:=Kbq i q.size;replace m:=Q01 (m.out.trans (q.mono m.out.size));clear q;have N:=m.out.size;obtain ⟨O,B⟩:∃W,C.alloc (.cells (ptA f) 188)=W:=⟨_,rfl⟩;have d:=alb0v0v1 B
 have R:=Q01 (show ownL Q20 188 O C.heap.size (.slice (some ⟨C.heap.size,0,none⟩) 1 1) [f] by rw [←B];exact Q5y C f);have z:C.heap.size≤O.heap.size:=d.size;have x:=i;replace E:=bC d E t;replace G:=bC d G t;replace F:=bC d F t;replace t:=Kbq t d.size;replace D:=bC d D i;replace y:=bC d y i;replace u:=bC d u i;replace j:=bF d j i;replace r:=bF d r i;replace p:=bF d p i;replace i:=Kbq i d.size;replace m:=Q01 (m.out.trans (d.mono m.out.size));clear d
 go_wp2_with (first|(refine Q2c rfl (.tmp 9) rfl f rfl ?_;rw [B])|(at_builtin;refine Q08 Qiy rfl (.tmp 11) (.tmp 18) rfl C.heap.size _ [f] rfl R.out H I O.heap.size ([a,b]:List Pt) 2 rfl rfl hn ((HG.out.kept m.out (Kaq _)).le m.out.size) (by simp) z ?_));intro v6 w6 A J _;obtain ⟨o6,V,e6,_⟩:=ownL.open (L:=Q20) A;subst e6
 have g:Below C.heap.size O w6:=(Below.refl _ _).mono z|>.grown J z (fun k h=> (R.out.lt k h).1)
 have T:=Q01 A;clear A J R;replace E:=bC g E (show _ < _ by omega);replace G:=bC g G (show _ < _ by omega);replace F:=bC g F (show _ < _ by omega);replace D:=bC g D (show _ < _ by omega);replace j:=bF g j (show _ < _ by omega);replace y:=bC g y (show _ < _ by omega);replace r:=bF g r (show _ < _ by omega);replace u:=bC g u (show _ < _ by omega);replace p:=bF g p (show _ < _ by omega);have P:=Q01 (m.out.trans (g.mono N));clear g m;go_wp2
 refine bodyPost_ret (v:=Q6A key (.slice o l.length cap) (.slice o6 ([f]++([a,b]:List Pt)).length V)) (by simp [results,Tryz.results68,go_sem,D,y,u]) rfl ⟨o6,V,rfl, ?_,Q0w P.out (Nat.le_succ _) _ _ _⟩;exact Q04 (Q0o (Q0o (Q0o T.out x 0 _) x 1 _) x 2 _) N
theorem Q9E (key:Int) (j:Option Addr) (k i:Nat) (g:Option Addr) (h:Nat) (o:Option Addr) (cap:Nat) (l:List Bk) (w:World) (f:List Pt) (t:f.length≤3) (m:RdL Q20 w.heap.size w g f) (s:f.length≤h) (n:g=none→h=0) (r:RdK w.heap.size w o l) (d:l.length≤1048576) (q:Q1P key=true) (p:Q0e l=true):
  Calls Tryz.prog 68 #[Q6A key (.slice j k i) (.slice g f.length h),.slice o l.length cap] w fun e v=> ∃u c2,e=.returned (Q6A key (.slice o l.length cap) (.slice u ((Q2K key l::f.take 2).length) c2))∧ownL Q20 188 v w.heap.size (.slice u ((Q2K key l::f.take 2).length) c2) (Q2K key l::f.take 2)∧Below w.heap.size w v:=by
 match f,t with
 |[],_=> exact Qiv key j k i g h o cap l w m s n r d q p
 |[a],_=> exact QiI key j k i g h o cap l w a m s n r d q p
 |[a,b],_=> exact QiQ key j k i g h o cap l w a b m s n r d q p
 |[a,b,c],_=> exact QiR key j k i g h o cap l w a b c m s n r d q p
theorem QgA {W:World} {g:Nat} {f:Pt} (a:W.heap[g]? =some (.cells (ptA f) 188 (0,0))):W.rangeAt g 0 (ptL f):=fun j v hv=> by
 rw [Nat.zero_add,cell_of_row _ _ j (ptA f) _ (0,0) a]
 simpa [ptA] using hv
theorem Q1s {w c:World} {b o:Nat} {cs:List Value} (h:w.rangeAt b o cs) (d:Below w.heap.size w c) (a:b < w.heap.size):c.rangeAt b o cs:=fun j v hv=> (d.cell (p:=⟨b,o+j,none⟩) a).trans (h j v hv)
theorem Q7P {w:World} {b o B:Nat} {cs:List Value} (h:w.rangeAt b o cs) (hne:b≠B) (j:Nat) (u:Value):(w.setCell ⟨B,j,none⟩ u).rangeAt b o cs:=fun i v hv=> (Q1q hne).trans (h i v hv)
theorem Q5h {w d:World} {b o:Nat} {cs:List Value} {r:Option Nat} (h:w.rangeAt b o cs) (g:w.grownBy d r) (c:b < w.heap.size) (a:some b≠r):d.rangeAt b o cs:=fun j v hv=> by
 have f:=h j v hv;have h2:=g.block b c a;simp only [World.cell?,h2] at f ⊢;exact f
theorem Q2V (W:World) (B:Nat) (x y z:Value):(setP W B x y z).heap.size=W.heap.size:=by simp [World.setCell]
theorem Qjj {a W:World} {B:Nat} {key:Int} {b:Option Addr} {c2:Nat} {l:List Bk} {k p q:Value} (d:W.heap[B]? =some (.cells #[k,p,q] 29 (0,0))) (n:Below a.heap.size a W) (h:a.heap.size≤B) (m:Q1w W a.heap.size (.slice b l.length c2) l):
  ∃B' f g,Value.pointer (some ⟨B,0,none⟩)=.pointer (some ⟨B',0,none⟩)∧Hid ((setP W B (.int .i64 key) (.slice b l.length c2) (.slice none 0 0)).heap[B']? =some (.cells #[.int .i64 key,.slice f l.length g,.slice none 0 0] 29 (0,0)))∧Hid (Below a.heap.size a (setP W B (.int .i64 key) (.slice b l.length c2) (.slice none 0 0)))∧a.heap.size≤B'∧B' < (setP W B (.int .i64 key) (.slice b l.length c2) (.slice none 0 0)).heap.size∧Hid (Q1w (setP W B (.int .i64 key) (.slice b l.length c2) (.slice none 0 0)) a.heap.size (.slice f l.length g) l):=by
 have i:=Q06 d 0 (.int .i64 key);have c:=Q06 i 1 (.slice b l.length c2);have j:=Q06 c 2 (.slice none 0 0);exact ⟨B,b,c2,rfl,j,Q0w n h _ _ _,h,(Array.getElem?_eq_some_iff.1 j).1,Q0q (Q0q (Q0q m d Q87 0 _) i Q87 1 _) c Q87 2 _⟩
theorem QiO {a W:World} {key:Int} {b:Option Addr} {c2:Nat} {l:List Bk} (c:Below a.heap.size a W) (g:Q1w W a.heap.size (.slice b l.length c2) l):
  ∃B' d f,Value.pointer (some ⟨W.heap.size,0,none⟩)=.pointer (some ⟨B',0,none⟩)∧Hid ((W.alloc (.cells #[.int .i64 key,.slice b l.length c2,.slice none 0 0] 29)).heap[B']? =some (.cells #[.int .i64 key,.slice d l.length f,.slice none 0 0] 29 (0,0)))∧Hid (Below a.heap.size a (W.alloc (.cells #[.int .i64 key,.slice b l.length c2,.slice none 0 0] 29)))∧a.heap.size≤B'∧B' < (W.alloc (.cells #[.int .i64 key,.slice b l.length c2,.slice none 0 0] 29)).heap.size∧Hid (Q1w (W.alloc (.cells #[.int .i64 key,.slice b l.length c2,.slice none 0 0] 29)) a.heap.size (.slice d l.length f) l):=
 ⟨W.heap.size,b,c2,rfl,World.alloc_heap_new W _,c.alloc c.size _,c.size,by simp,Q03 g ((Below.refl _ _).alloc (Kaq _) _)⟩
theorem Rw.grow {α:Type} {Q:Nat→Nat→World→Value→α→Prop} {d:α} {c:List α} {a b:Nat} {w j:World} {hs:List Hd} {L H:Nat→Nat} {r:Option Nat} (f:Stps Q) (h:Rw Q d c a b w hs L H) (k:w.grownBy j r) (l:∀i,i < c.length→∀g,r=some g→g < L i∨H i≤g):Rw Q d c a b j hs L H:=by
 cases r with
 |none=> exact h.step f (Stp.grown (lo:=0) (hi:=0) k (fun b e=> by cases e)) (fun i _=> .inl (Kcq _))
 |some g=> exact h.step f (Stp.grown (lo:=g) (hi:=g+1) k (fun b e=> by injection e with e;omega)) (fun i hi=> by have:=l i hi g rfl;omega)
theorem Q7p {w:World} {o:Option Addr} {n c:Nat} {T:TypeId}:RdL Q0H (w.alloc (.cells #[.slice o n c] T)).heap.size (w.alloc (.cells #[.slice o n c] T)) (some ⟨w.heap.size,0,none⟩) [(o,n,c)]:=
 .inr ⟨w.heap.size,0,rfl,by simp,fun i hi j a=> by
  have b:i=0:=by simpa using hi
  subst b
  match j,a with
  |0,_=> simp [Q0H]⟩
theorem RdL.range {w:World} {b off:Nat} {a:List Pt} (h:∀i,i < a.length→∀j,j < Q20.k→w.cell? ⟨b,off+i * Q20.k+j,none⟩=(Q20.cs (a.getD i Q20.d))[j]?) (i:Nat) (hi:i < a.length):w.rangeAt b (off+i * 24) (ptL (a.getD i ptZ)):=fun j v hv=> by
 have c:j < 24:=by have:=(List.getElem?_eq_some_iff.1 hv).1;rw [QbI] at this;exact this
 exact (h i hi j c).trans hv
theorem QiT {B:Nat} {w wc wr:World} {f:Option Addr} {c:List Pt} (h:RdL Q20 w.heap.size w f c) (n:Below w.heap.size w wc) (s:Stp B (B+1) wc wr) (q:w.heap.size≤B):RdL Q20 w.heap.size wr f c:=by
 rcases h with h|⟨b,off,l,a,r⟩
 ·exact .inl h
 ·refine .inr ⟨b,off,l,a,fun i hi j m=> ?_⟩
  have g:=(n.cell (p:=⟨b,off+i * Q20.k+j,none⟩) a).trans (r i hi j m);have t:(Q20.cs (c.getD i Q20.d)).length=Q20.k:=Q20.len _;rw [List.getElem?_eq_getElem (by omega)] at g ⊢;exact s.cellP g (.inl (show b < B by omega))
theorem QcR {a hi c:Nat} {wr:World} {d:Option Addr} {hs:List Hd} {L H:Nat→Nat} {b:List Pt} {n:Nat} (g:n=b.length) (h:Rw InT [] ((b.map Q4h).take n) a hi wr hs L H) (f:ownL Q0H 51 wr a (.slice d n c) hs):ownL Q0H 51 wr a (.slice d n c) hs∧Rw InT [] (b.map Q4h) a hi wr hs L H:=by
 rw [g,show b.length=(b.map Q4h).length by simp,List.take_length] at h;exact ⟨f,h⟩
theorem Qik {oQ:Option Addr} {n cQ:Nat} {L H:Nat→Nat} {fs:List Pt} (hn:n=fs.length) (h:Qij (.slice oQ n cQ) n L H):Qij (.slice oQ n cQ) (fs.map Q4h).length L H:=by
 rw [List.length_map,←hn];exact h
theorem Q3f (W:World) (B:Nat) (x y z:Value):Stp B (B+1) W (setP W B x y z):=((Q0x W B 0 x).trans (Q0x _ B 1 y)).trans (Q0x _ B 2 z)
theorem QgH (a:List Pt) (i:Nat) (h:i < a.length):(a.map Q4h).take (i+1)=(a.map Q4h).take i++[Q4h (a.getD i ptZ)]:=by
 have b:i < (a.map Q4h).length:=by rw [List.length_map];exact h
 rw [List.take_succ_eq_append_getElem b];simp [h]
theorem Rw.more {a l:World} {b b0 l2 n:Nat} {hs:List Hd} {L H:Nat→Nat} {d:List (List (List Int))} {x:List (List Int)} {r p:Option Addr} {f s u:Nat} {O:Obj} (h:Rw InT [] d b b0 a hs L H) (k:d.length=n) (w:b0≤l2) (hm:b≤l2) (v:l2≤a.heap.size) (q:InT l2 a.heap.size a (.slice r s u) x) (c:Qij (.slice p n f) n L H) (m:∀g,(Value.slice p n f).ownBlock=some g→g < b0) (t:(a.alloc O).grownBy l (Value.slice p n f).ownBlock):
  Rw InT [] (d++[x]) b l.heap.size l (hs++[(r,s,u)]) (fun i=> if i < n then L i else l2) (fun i=> if i < n then H i else a.heap.size):=by
 subst k;have y:=h.snoc w hm v q;have h2:=y.kept InT.stp ((Below.refl a.heap.size a).alloc (Kaq _) O);have j:=t.size;rw [World.size_alloc] at j;refine (h2.grow InT.stp t (fun i hi g e=> ?_)).mono (Kaq _) (by omega)
 by_cases hi':i < d.length
 ·simp only [hi',if_true];exact c i hi' g e
 ·simp only [hi',if_false];have:=m g e;omega
theorem Q6Y {B:Nat} {wc b c:World} {O:Obj} {r:Option Nat} (s:Stp B (B+1) wc b) (a:(b.alloc O).grownBy c r) (d:∀g,r=some g→wc.heap.size≤g):Stp B (B+1) wc c:=by
 have hs:=s.size;have f:=a.size;rw [World.size_alloc] at f;refine ⟨a.os.trans s.os,a.tape.trans s.tape,a.output.trans s.output,by omega,fun k i h=> ?_⟩;exact (a.block k (by simp;omega) (fun e=> by have:=d k e.symm;omega)).trans ((Below.heap_alloc b O k (by omega)).trans (s.block k i h))
theorem InPm.mono {lo a hi:Nat} {w:World} {v:Value} {m:Pm} (h:InPm lo hi w v m) (f:a≤lo):InPm a hi w v m:=by
 obtain ⟨d,c,b,e,j,g,i,h2⟩:=h;exact ⟨d,c,b,e,by omega,g,InRow.mono i f (Kaq _),h2⟩
theorem QiZ:(119:TypeId)≠51:=by decide
theorem Q9J {c:World} {b0 l2:Nat} {L H:Nat→Nat} {n:Nat} {j k:Option Addr} {d f:Nat} {O:Obj} (b:Qij (.slice j n d) n L H) (l:∀i,i < n→H i≤b0) (q:b0≤l2) (p:l2≤c.heap.size) (h:∀g,(Value.slice j n d).ownBlock=some g→g < b0) (a:(Value.slice k (n+1) f).ownBlock=(Value.slice j n d).ownBlock∨(Value.slice k (n+1) f).ownBlock=some (c.alloc O).heap.size):
  Qij (.slice k (n+1) f) (n+1) (fun i=> if i < n then L i else l2) (fun i=> if i < n then H i else c.heap.size):=fun i hi g e=> by
 rcases a with a|a
 ·rw [a] at e
  by_cases hi':i < n
  ·simp only [hi',if_true];exact b i hi' g e
  ·simp only [hi',if_false];have:=h g e;omega
 ·rw [a,World.size_alloc] at e
  have m:c.heap.size+1=g:=Option.some.inj e
  by_cases hi':i < n
  ·simp only [hi',if_true];have:=l i hi';omega
  ·simp only [hi',if_false];omega
theorem Qh3 (key:Int) (o:Option Addr) (cap:Nat) (l:List Bk) (oR:Option Addr) (cR:Nat) (fs:List Pt) (n:Nat) (a4:n=fs.length) (w:World) (hR:RdK w.heap.size w o l) (hn:o=none→cap=0) (a2:l.length≤1048576) (hG:RdL Q20 w.heap.size w oR fs) (bK:n≤1048576):
  Calls Tryz.prog 69 #[Q6A key (.slice o l.length cap) (.slice oR n cR)] w fun e w'=> ∃v,e=.returned v∧InPm w.heap.size w'.heap.size w' v ⟨key,l,fs.map Q4h⟩∧Below w.heap.size w w':=by
 have aI:=Q01 a4;clear a4;obtain ⟨t,ad⟩:∃W,((w.alloc (.cells #[.int .i64 key,.slice o l.length cap,.slice oR n cR] 127)).alloc (.cells #[.int .i64 0,.slice none 0 0,.slice none 0 0] 29))=W:=⟨_,rfl⟩;have am:=alb0v0v2 ad;have HB:=Q01 am;clear am;have zz:=alz0v0v2 ad;obtain ⟨z0,z1,z2⟩:=alc3v0v2 ad;have zr:=alz0v1v2 ad;obtain ⟨r0,r1,r2⟩:=alc3v1v2 ad;obtain ⟨az,aq,aC⟩:=alf3v1v2 ad;have bh:=Q01 (show t.heap[w.heap.size+1]? =some (.cells #[.int .i64 0,.slice none 0 0,.slice none 0 0] 29 (0,0)) by rw [←ad];exact Q1V w _ _ _);have bq:=zr;have bB:=zz
 have a5:=Q01 (fun W (y:Below t.heap.size t W)=> Q1T o cap l W ((hR.kept (HB.out.trans (y.mono HB.out.size)) (Kaq _)).le (Kdq HB.out.size y.size)) hn a2);have HG:=Q01 hG;clear hR hG;go_enter Tryz.func69,Tryz.ntmps69;go_upto_region 1 with fail
 go_cut [3] from 6 to 11 (fun s3 wx=> ∃B o2 c2,s3=.pointer (some ⟨B,0,none⟩)∧Hid (wx.heap[B]? =some (.cells #[.int .i64 key,.slice o2 l.length c2,.slice none 0 0] 29 (0,0)))∧Hid (Below t.heap.size t wx)∧t.heap.size≤B∧B < wx.heap.size∧Hid (Q1w wx t.heap.size (.slice o2 l.length c2) l))
 case first=>
  go_region_held3 (fun w'=> w'.cell? ⟨w.heap.size,0,none⟩=some (.int .i64 key)∧w'.cell? ⟨w.heap.size,1,none⟩=some (.slice o l.length cap)) (first|with_reducible exact ⟨aF,aG⟩|with_reducible exact ⟨z0,z1⟩|with_reducible exact ⟨Q0a aF zz,Q0a aG zz⟩|go_keep) (first|(go_at_call 119;have aE:=a5.out t.drew (Below.drew (Below.refl _ _));with_reducible refine aE.mono ?_;clear aE;rintro e x0 ⟨v2,rfl,T,y⟩;have U:Below t.heap.size t x0:=Below.trans (show Below t.heap.size t t.drew from (Below.drew (Below.refl _ _))) (y.mono (by simp));have bb:=U.size;obtain ⟨o2,c2,e2,_⟩:=ownL.open (L:=Q1d) T;subst e2;have T:=Q04 T (show t.heap.size≤_ by (try simp));have aF:=bC U z0 zz;have aG:=bC U z1 zz;clear y)|(go_at_call 119;have aE:=a5.out (t.alloc (.cells #[.int .i64 0,.slice none 0 0,.slice none 0 0] 29)).drew (Below.drew ((Below.refl _ _).alloc (Kaq _) _));with_reducible refine aE.mono ?_;clear aE;rintro e x0 ⟨v2,rfl,T,y⟩;have U:Below t.heap.size t x0:=Below.trans (show Below t.heap.size t (t.alloc (.cells #[.int .i64 0,.slice none 0 0,.slice none 0 0] 29)).drew from (Below.drew ((Below.refl _ _).alloc (Kaq _) _))) (y.mono (by simp));have bb:=U.size;obtain ⟨o2,c2,e2,_⟩:=ownL.open (L:=Q1d) T;subst e2;have T:=Q04 T (show t.heap.size≤_ by (try simp));have aF:=bC U z0 zz;have aG:=bC U z1 zz;have ab:=Q4L y;have bA:=(Array.getElem?_eq_some_iff.1 ab).1;have be:=Q00 ab 0 _ rfl;have bf:=Q02 ab 0;have bn:=Q00 ab 1 _ rfl;have bs:=Q02 ab 1;have bg:=Q00 ab 2 _ rfl;have bi:=Q02 ab 2;clear y))
  all_goals (go_wp2_with fail;go_meet)
  all_goals first
   |with_reducible exact Qjj ab U (Kaq _) T
   |with_reducible exact QiO U T
 case rest=>
  obtain ⟨B,o2,c2,rfl,bt,a3,bI,aV,aY⟩:=hcut;have y:=a3.out;have bl:=y.size;have a6:=Q01 (y.block _ bq);clear a3;replace z0:=bC y z0 zz;replace z1:=bC y z1 zz;replace z2:=bC y z2 zz;replace zz:=Kbq zz y.size;replace r0:=bC y r0 zr;replace r1:=bC y r1 zr;replace r2:=bC y r2 zr;replace az:=bF y az zr;replace aq:=bF y aq zr;replace aC:=bF y aC zr;replace zr:=Kbq zr y.size;replace HB:=Q01 (HB.out.trans (y.mono HB.out.size));clear y;have bu:=Q01 ((a6.out).trans bh.out);have a9:=HB
  have bo:=Q01 (fun b (e:(Value.slice o2 l.length c2).ownBlock=some b)=> (aY.out.lt b e).2);have bH:=z2;have bD:=r0;have bw:=r1;have bz:=r2;have bG:=az;have bx:=aq;have bv:=aC;clear z0 z1 r0 r1 r2 az aq aC;go_wp2
  go_loopw [15] (fun iv wr=> ∃(i:Nat) (hs:List Hd) (L H:Nat→Nat) (R:Option Addr) (J:Nat),i≤n∧iv=.int .i64 (i:Int)∧Hid (wr.heap[B]? =some (.cells #[.int .i64 key,.slice o2 l.length c2,.slice R i J] 29 (0,0)))∧Hid (ownL Q0H 51 wr wc.heap.size (.slice R i J) hs)∧Hid (Rw InT [] ((fs.map Q4h).take i) wc.heap.size wr.heap.size wr hs L H)∧Hid (Qij (.slice R i J) i L H)∧Hid (Q1w wr t.heap.size (.slice o2 l.length c2) l)∧wc.heap.size≤wr.heap.size∧Hid (Stp B (B+1) wc wr))
   (fun iv _=> n - (intOf iv).toNat)
  case atStart=> exact ⟨0,[],fun _=> 0,fun _=> 0,none,0,Kcq _,rfl,bt.out,World.ownsRow_nil _ _ _ _,by rw [List.take_zero];exact Rw.nil _ _ _ _ _ _ _,fun i hi=> absurd hi (Nat.not_lt_zero _),aY.out,Kaq _,Stp.refl _⟩
  case round=>
   obtain ⟨i,hs,L,H,R,J,bN,rfl,aK,al,au,G,aX,ba,ao⟩:=hrel
   have bL:B≠w.heap.size:=by omega
   have bM:B≠w.heap.size+1:=by omega
   have bk:=Q01 (fun (p:Addr) u (hp:p.block < t.heap.size) (h:wc.cell? p=some u)=> ao.out.cellP h (by omega))
   by_cases hlt:i < n
   ·skip
    have bE:(i:Int) < (n:Int):=by omega
    skip
    have aH:i < fs.length:=by rw [←aI.out];exact hlt
    have a7:=Q01 (show RdL Q20 w.heap.size wr oR fs from QiT HG.out a9.out ao.out (show w.heap.size≤B by omega))
    rcases a7.out with hh|⟨b,off,rfl,bJ,aU⟩
    ·rw [hh] at aH;exact absurd aH (Nat.not_lt_zero _)
    have a0:=Q01 (RdL.range aU i aH);have aM:=Q01 (QgH fs i aH);clear aU a7;obtain ⟨f,hf⟩:∃f,fs.getD i ptZ=f:=⟨_,rfl⟩;rw [hf] at a0 aM;clear hf;obtain ⟨W2,aL⟩:∃W,wr.alloc (.cells (ptA f) 188)=W:=⟨_,rfl⟩;have ae:=alb0v0v1 aL
    have a8:W2.heap[wr.heap.size]? =some (.cells (ptA f) 188 (0,0)):=by rw [←aL];exact World.alloc_heap_new wr _
    have aP:=(ae.block B (by omega)).trans aK.out;have aS:=(Array.getElem?_eq_some_iff.1 aP).1;have aJ:=Q01 (show W2.rangeAt wr.heap.size 0 (ptL f) from QgA a8);clear a8;have p2:W2.cell? ⟨B,2,none⟩=some (.slice R i J):=Q00 aP 2 _ rfl;have aZ:=Q01 aP;have ar:=Q01 (Q03 al.out ae);have aD:=Q01 (au.out.kept InT.stp ae);have aR:=Q01 (Q03 aX.out ae);have aT:=Q01 (ao.out.trans (Stp.of ae));have ai:wr.heap.size≤W2.heap.size:=ae.size;have x:=Q01 (fun g (e:(Value.slice R i J).ownBlock=some g)=> (al.out.lt g e).2)
    have aW:=Q01 (fun j (hj:j < i)=> (au.out.bd j (by rw [List.length_take,List.length_map];omega)).2);have aO:=Q01 (show ((fs.map Q4h).take i).length=i by rw [List.length_take,List.length_map];omega);clear ae aP al au aX;go_wp2_with (first|(refine wpList_load_mid rfl 188 (.tmp 17) rfl b (off+i * 24) rfl (ptL f) _ a0.out ptU rfl ptI ?_)|(refine Q0R rfl (.tmp 5) (.tmp 18) rfl wr.heap.size f ptZ rfl rfl (World.alloc_heap_new wr _) ?_;rw [World.setRow_alloc_new,aL]))
    skip
    have aj:=Q01 (show hs.length=i by have:=aD.out.len;rw [aO.out] at this;exact this);have ak:=Q01 (fun g (e:(Value.slice R i J).ownBlock=some g)=> (ar.out.lt g e).1);refine wp_region_held_drew (S:=fun w'=> w'.rangeAt wr.heap.size 0 (ptL f)) (by kernel_rfl) aJ.out (fun hHeld=> ?_);refine wpAnyH_take (i:=2) (oi:=_) (v:=ptv f) rfl (by kernel_rfl) (by kernel_rfl) (by kernel_rfl) (fun _ _ _ h=> h) (yieldsIf_load_mid (by rfl) _ _ rfl wr.heap.size 0 rfl (ptL f) _ (fun w h=> h) ptU rfl ptI) hHeld ?_
    try simp only [Act.put,List.setIfInBounds_toArray,List.set_cons_zero,List.set_cons_succ]
    refine wpAnyH_take (i:=0) (oi:=_) (v:=.pointer (some ⟨B,2,none⟩)) rfl (by kernel_rfl) (by kernel_rfl) (by kernel_rfl) (fun _ _ _ h=> h) (Or.inl ⟨by rfl,fun w _=> by go_simp⟩) hHeld ?_
    try simp only [Act.put,List.setIfInBounds_toArray,List.set_cons_zero,List.set_cons_succ]
    have bp:W2.drew.rangeAt wr.heap.size 0 (ptL f):=aJ.out;have a1:=alz0v0v1 aL;refine wpAnyH_ready (rs:=[1,3]) (by kernel_rfl) (by simp) ?_;refine AllReadyH.cons rfl (fun K hK=> ?_) ?_
    ·skip
     go_simp
     refine hK.out _ _ bp (fun hHeld=> ?_);clear hK K
     try simp only [Act.put,List.setIfInBounds_toArray,List.set_cons_zero,List.set_cons_succ]
     refine wpAnyH_ready (rs:=[3]) (by kernel_rfl) (by simp) ?_;refine AllReadyH.cons rfl (fun K hK=> ?_) ?_
     ·skip
      go_simp
      go_at_call 120;refine (Q9T f _).mono ?_;rintro e c ⟨v4,rfl,C,a⟩;replace a:Below W2.heap.size W2 c:=(Below.drew (Below.refl _ _)).trans a;replace C:InT W2.heap.size c.heap.size c v4 (Q4h f):=C;obtain ⟨N,P,e4,_⟩:=RiT.rd (InT.ri C);rw [Q3R] at e4;subst e4;have V:=(a.block B aS).trans aZ.out;have M:=(Array.getElem?_eq_some_iff.1 V).1;have p4:c.cell? ⟨B,2,none⟩=some (.slice R i J):=Q00 V 2 _ rfl
      have bc:∀O,(c.alloc O).cell? ⟨B,2,none⟩=some (.slice R i J):=(fun O=> ((Below.refl c.heap.size c).alloc (Kaq _) O).cell (p:=⟨B,2,none⟩) M|>.trans p4)
      have af:=a.size;have z:=Q01 (Q03 ar.out a);have ah:=Q01 (aD.out.kept InT.stp a);have I:=Q01 (Q03 aR.out a);have ag:=Q01 (aT.out.trans (Stp.of a));have aN:=Q01 C;have F:c.rangeAt wr.heap.size 0 (ptL f):=Q1s aJ.out a a1;have aQ:=Q01 V;clear C a V;go_wp2_with fail;refine hK.out _ _ F (fun hHeld=> ?_);clear hK K
      try simp only [Act.put,List.setIfInBounds_toArray,List.set_cons_zero,List.set_cons_succ]
      refine wpAnyH_ready (rs:=[4]) (by kernel_rfl) (by simp) ?_;refine AllReadyH.cons rfl (fun K hK=> ?_) ?_
      ·skip
       go_simp
       refine hK.out _ _ (Q1s F ((Below.refl c.heap.size c).alloc (Kaq _) (.cells #[.slice N 8 P] 51)) (by omega)) (fun hHeld=> ?_);clear hK K
       try simp only [Act.put,List.setIfInBounds_toArray,List.set_cons_zero,List.set_cons_succ]
       refine wpAnyH_ready (rs:=[5]) (by kernel_rfl) (by simp) ?_;refine AllReadyH.cons rfl (fun K hK=> ?_) ?_
       ·skip
        refine Q0i Q66 rfl (.tmp 20) (.tmp 23) rfl wc.heap.size (.slice R i J) hs rfl (z.out.alloc (.cells #[.slice N 8 P] 51)) (some ⟨c.heap.size,0,none⟩) 1 _ [(N,8,P)] 1 rfl rfl (by simp) Q7p (by rw [aj.out];simp;omega) (by simp;omega) ?_;intro v8 d A q aa;obtain ⟨m,k,e8,_⟩:=ownL.open (L:=Q0H) A;have aB:(hs++[((N,8,P):Hd)]).length=i+1:=(by rw [List.length_append,aj.out];rfl);rw [aB] at e8;subst e8;have s:=(q.block B (by simp;omega) (fun e=> by have:=x.out B e.symm;have:=ak.out B e.symm;omega)).trans ((Below.heap_alloc _ _ _ M).trans aQ.out)
        have p8:d.cell? ⟨B,2,none⟩=some (.slice R i J):=Q00 s 2 _ rfl;have f8:=Q02 s 2;have Z:d.rangeAt wr.heap.size 0 (ptL f):=Q5h (Q1s F ((Below.refl c.heap.size c).alloc (Kaq _) _) (by omega)) q (by simp;omega) (fun e=> by have:=x.out _ e.symm;omega);have D:=Q01 s;have an:=Q01 A;have E:=Q01 q;have aA:=Q01 aa;clear A q aa s;refine hK.out _ _ Z (fun hHeld=> ?_);clear hK K
        try simp only [Act.put,List.setIfInBounds_toArray,List.set_cons_zero,List.set_cons_succ]
        refine wpAnyH_take (i:=6) (oi:=_) (v:=.pointer (some ⟨B,2,none⟩)) rfl (by kernel_rfl) (by kernel_rfl) (by kernel_rfl) (fun _ _ _ h=> h) (Or.inl ⟨by rfl,fun w _=> by go_simp⟩) hHeld ?_
        try simp only [Act.put,List.setIfInBounds_toArray,List.set_cons_zero,List.set_cons_succ]
        refine wpAnyH_ready (rs:=[7]) (by kernel_rfl) (by simp) ?_;refine AllReadyH.cons rfl (fun K hK=> ?_) ?_
        ·skip
         go_simp
         refine hK.out _ _ (Q7P Z (by omega) _ _) (fun hHeld=> ?_);clear hK K
         try simp only [Act.put,List.setIfInBounds_toArray,List.set_cons_zero,List.set_cons_succ]
         refine wpAnyH_done (by kernel_rfl) ?_ _;have ap:Hid ((d.setCell ⟨B,2,none⟩ (.slice m (i+1) k)).heap[B]? =some (.cells #[.int .i64 key,.slice o2 l.length c2,.slice m (i+1) k] 29 (0,0))):=Q06 D.out 2 _;have aw:Hid (ownL Q0H 51 (d.setCell ⟨B,2,none⟩ (.slice m (i+1) k)) wc.heap.size (.slice m (i+1) k) (hs++[(N,8,P)])):=Q0q an.out D.out Q9V 2 _;have r:=Rw.more ah.out aO.out ai (show wc.heap.size≤W2.heap.size by omega) af aN.out G.out x.out E.out;rw [←aM.out] at r
         have ax:Hid (Rw InT [] ((fs.map Q4h).take (i+1)) wc.heap.size (d.setCell ⟨B,2,none⟩ (.slice m (i+1) k)).heap.size (d.setCell ⟨B,2,none⟩ (.slice m (i+1) k)) (hs++[(N,8,P)]) _ _):=(r.step InT.stp (Q0x d B 2 (.slice m (i+1) k)) (fun j hj=> .inl (Kdq (show B+1≤wc.heap.size from aV) (r.bd j hj).1))).mono (Kaq _) (by simp);have av:=Q01 (Q9J G.out aW.out ai af x.out aA.out)
         have X:Hid (Q1w (d.setCell ⟨B,2,none⟩ (.slice m (i+1) k)) t.heap.size (.slice o2 l.length c2) l):=Q0q (World.ownsRow.kept (World.ownsRow.alloc I.out _) E.out (Q2G I.out z.out QiZ)) D.out Q87 2 _;have Y:=Q01 ((Q6Y ag.out E.out (fun g e=> ak.out g e)).trans (Q0x d B 2 (.slice m (i+1) k)))
         have ay:wc.heap.size≤d.heap.size:=by have:=Y.out.size;simpa using this
         clear r;go_wp2;go_roundw
         case rel=> exact ⟨i+1,_,_,_,m,k,by omega,by go_num,ap.out,aw.out,ax.out,av.out,X.out,by simpa using ay,Y.out⟩
         case measure=> simp [intOf];omega
        exact AllReadyH.nil
       exact AllReadyH.nil
      exact AllReadyH.nil
     exact AllReadyH.nil
    refine AllReadyH.cons rfl (fun K hK=> ?_) ?_
    ·skip
     go_simp
     go_at_call 120;refine (Q9T f _).mono ?_;rintro e c ⟨v4,rfl,C,a⟩;replace a:Below W2.heap.size W2 c:=(Below.drew (Below.refl _ _)).trans a;replace C:InT W2.heap.size c.heap.size c v4 (Q4h f):=C;obtain ⟨N,P,e4,_⟩:=RiT.rd (InT.ri C);rw [Q3R] at e4;subst e4;have V:=(a.block B aS).trans aZ.out;have M:=(Array.getElem?_eq_some_iff.1 V).1;have p4:c.cell? ⟨B,2,none⟩=some (.slice R i J):=Q00 V 2 _ rfl
     have bc:∀O,(c.alloc O).cell? ⟨B,2,none⟩=some (.slice R i J):=(fun O=> ((Below.refl c.heap.size c).alloc (Kaq _) O).cell (p:=⟨B,2,none⟩) M|>.trans p4)
     have af:=a.size;have z:=Q01 (Q03 ar.out a);have ah:=Q01 (aD.out.kept InT.stp a);have I:=Q01 (Q03 aR.out a);have ag:=Q01 (aT.out.trans (Stp.of a));have aN:=Q01 C;have F:c.rangeAt wr.heap.size 0 (ptL f):=Q1s aJ.out a a1;have aQ:=Q01 V;clear C a V;go_wp2_with fail;refine hK.out _ _ F (fun hHeld=> ?_);clear hK K
     try simp only [Act.put,List.setIfInBounds_toArray,List.set_cons_zero,List.set_cons_succ]
     refine wpAnyH_ready (rs:=[1,4]) (by kernel_rfl) (by simp) ?_;refine AllReadyH.cons rfl (fun K hK=> ?_) ?_
     ·skip
      go_simp
      refine hK.out _ _ F (fun hHeld=> ?_);clear hK K
      try simp only [Act.put,List.setIfInBounds_toArray,List.set_cons_zero,List.set_cons_succ]
      refine wpAnyH_ready (rs:=[4]) (by kernel_rfl) (by simp) ?_;refine AllReadyH.cons rfl (fun K hK=> ?_) ?_
      ·skip
       go_simp
       refine hK.out _ _ (Q1s F ((Below.refl c.heap.size c).alloc (Kaq _) (.cells #[.slice N 8 P] 51)) (by omega)) (fun hHeld=> ?_);clear hK K
       try simp only [Act.put,List.setIfInBounds_toArray,List.set_cons_zero,List.set_cons_succ]
       refine wpAnyH_ready (rs:=[5]) (by kernel_rfl) (by simp) ?_;refine AllReadyH.cons rfl (fun K hK=> ?_) ?_
       ·skip
        refine Q0i Q66 rfl (.tmp 20) (.tmp 23) rfl wc.heap.size (.slice R i J) hs rfl (z.out.alloc (.cells #[.slice N 8 P] 51)) (some ⟨c.heap.size,0,none⟩) 1 _ [(N,8,P)] 1 rfl rfl (by simp) Q7p (by rw [aj.out];simp;omega) (by simp;omega) ?_;intro v8 d A q aa;obtain ⟨m,k,e8,_⟩:=ownL.open (L:=Q0H) A;have aB:(hs++[((N,8,P):Hd)]).length=i+1:=(by rw [List.length_append,aj.out];rfl);rw [aB] at e8;subst e8;have s:=(q.block B (by simp;omega) (fun e=> by have:=x.out B e.symm;have:=ak.out B e.symm;omega)).trans ((Below.heap_alloc _ _ _ M).trans aQ.out)
        have p8:d.cell? ⟨B,2,none⟩=some (.slice R i J):=Q00 s 2 _ rfl;have f8:=Q02 s 2;have Z:d.rangeAt wr.heap.size 0 (ptL f):=Q5h (Q1s F ((Below.refl c.heap.size c).alloc (Kaq _) _) (by omega)) q (by simp;omega) (fun e=> by have:=x.out _ e.symm;omega);have D:=Q01 s;have an:=Q01 A;have E:=Q01 q;have aA:=Q01 aa;clear A q aa s;refine hK.out _ _ Z (fun hHeld=> ?_);clear hK K
        try simp only [Act.put,List.setIfInBounds_toArray,List.set_cons_zero,List.set_cons_succ]
        refine wpAnyH_take (i:=6) (oi:=_) (v:=.pointer (some ⟨B,2,none⟩)) rfl (by kernel_rfl) (by kernel_rfl) (by kernel_rfl) (fun _ _ _ h=> h) (Or.inl ⟨by rfl,fun w _=> by go_simp⟩) hHeld ?_
        try simp only [Act.put,List.setIfInBounds_toArray,List.set_cons_zero,List.set_cons_succ]
        refine wpAnyH_ready (rs:=[7]) (by kernel_rfl) (by simp) ?_;refine AllReadyH.cons rfl (fun K hK=> ?_) ?_
        ·skip
         go_simp
         refine hK.out _ _ (Q7P Z (by omega) _ _) (fun hHeld=> ?_);clear hK K
         try simp only [Act.put,List.setIfInBounds_toArray,List.set_cons_zero,List.set_cons_succ]
         refine wpAnyH_done (by kernel_rfl) ?_ _;have ap:Hid ((d.setCell ⟨B,2,none⟩ (.slice m (i+1) k)).heap[B]? =some (.cells #[.int .i64 key,.slice o2 l.length c2,.slice m (i+1) k] 29 (0,0))):=Q06 D.out 2 _;have aw:Hid (ownL Q0H 51 (d.setCell ⟨B,2,none⟩ (.slice m (i+1) k)) wc.heap.size (.slice m (i+1) k) (hs++[(N,8,P)])):=Q0q an.out D.out Q9V 2 _;have r:=Rw.more ah.out aO.out ai (show wc.heap.size≤W2.heap.size by omega) af aN.out G.out x.out E.out;rw [←aM.out] at r
         have ax:Hid (Rw InT [] ((fs.map Q4h).take (i+1)) wc.heap.size (d.setCell ⟨B,2,none⟩ (.slice m (i+1) k)).heap.size (d.setCell ⟨B,2,none⟩ (.slice m (i+1) k)) (hs++[(N,8,P)]) _ _):=(r.step InT.stp (Q0x d B 2 (.slice m (i+1) k)) (fun j hj=> .inl (Kdq (show B+1≤wc.heap.size from aV) (r.bd j hj).1))).mono (Kaq _) (by simp);have av:=Q01 (Q9J G.out aW.out ai af x.out aA.out)
         have X:Hid (Q1w (d.setCell ⟨B,2,none⟩ (.slice m (i+1) k)) t.heap.size (.slice o2 l.length c2) l):=Q0q (World.ownsRow.kept (World.ownsRow.alloc I.out _) E.out (Q2G I.out z.out QiZ)) D.out Q87 2 _;have Y:=Q01 ((Q6Y ag.out E.out (fun g e=> ak.out g e)).trans (Q0x d B 2 (.slice m (i+1) k)))
         have ay:wc.heap.size≤d.heap.size:=by have:=Y.out.size;simpa using this
         clear r;go_wp2;go_roundw
         case rel=> exact ⟨i+1,_,_,_,m,k,by omega,by go_num,ap.out,aw.out,ax.out,av.out,X.out,by simpa using ay,Y.out⟩
         case measure=> simp [intOf];omega
        exact AllReadyH.nil
       exact AllReadyH.nil
      exact AllReadyH.nil
     refine AllReadyH.cons rfl (fun K hK=> ?_) ?_
     ·skip
      go_simp
      refine hK.out _ _ (Q1s F ((Below.refl c.heap.size c).alloc (Kaq _) (.cells #[.slice N 8 P] 51)) (by omega)) (fun hHeld=> ?_);clear hK K
      try simp only [Act.put,List.setIfInBounds_toArray,List.set_cons_zero,List.set_cons_succ]
      refine wpAnyH_ready (rs:=[1]) (by kernel_rfl) (by simp) ?_;refine AllReadyH.cons rfl (fun K hK=> ?_) ?_
      ·skip
       go_simp
       refine hK.out _ _ (Q1s F ((Below.refl c.heap.size c).alloc (Kaq _) (.cells #[.slice N 8 P] 51)) (by omega)) (fun hHeld=> ?_);clear hK K
       try simp only [Act.put,List.setIfInBounds_toArray,List.set_cons_zero,List.set_cons_succ]
       refine wpAnyH_ready (rs:=[5]) (by kernel_rfl) (by simp) ?_;refine AllReadyH.cons rfl (fun K hK=> ?_) ?_
       ·skip
        refine Q0i Q66 rfl (.tmp 20) (.tmp 23) rfl wc.heap.size (.slice R i J) hs rfl (z.out.alloc (.cells #[.slice N 8 P] 51)) (some ⟨c.heap.size,0,none⟩) 1 _ [(N,8,P)] 1 rfl rfl (by simp) Q7p (by rw [aj.out];simp;omega) (by simp;omega) ?_;intro v8 d A q aa;obtain ⟨m,k,e8,_⟩:=ownL.open (L:=Q0H) A;have aB:(hs++[((N,8,P):Hd)]).length=i+1:=(by rw [List.length_append,aj.out];rfl);rw [aB] at e8;subst e8;have s:=(q.block B (by simp;omega) (fun e=> by have:=x.out B e.symm;have:=ak.out B e.symm;omega)).trans ((Below.heap_alloc _ _ _ M).trans aQ.out)
        have p8:d.cell? ⟨B,2,none⟩=some (.slice R i J):=Q00 s 2 _ rfl;have f8:=Q02 s 2;have Z:d.rangeAt wr.heap.size 0 (ptL f):=Q5h (Q1s F ((Below.refl c.heap.size c).alloc (Kaq _) _) (by omega)) q (by simp;omega) (fun e=> by have:=x.out _ e.symm;omega);have D:=Q01 s;have an:=Q01 A;have E:=Q01 q;have aA:=Q01 aa;clear A q aa s;refine hK.out _ _ Z (fun hHeld=> ?_);clear hK K
        try simp only [Act.put,List.setIfInBounds_toArray,List.set_cons_zero,List.set_cons_succ]
        refine wpAnyH_take (i:=6) (oi:=_) (v:=.pointer (some ⟨B,2,none⟩)) rfl (by kernel_rfl) (by kernel_rfl) (by kernel_rfl) (fun _ _ _ h=> h) (Or.inl ⟨by rfl,fun w _=> by go_simp⟩) hHeld ?_
        try simp only [Act.put,List.setIfInBounds_toArray,List.set_cons_zero,List.set_cons_succ]
        refine wpAnyH_ready (rs:=[7]) (by kernel_rfl) (by simp) ?_;refine AllReadyH.cons rfl (fun K hK=> ?_) ?_
        ·skip
         go_simp
         refine hK.out _ _ (Q7P Z (by omega) _ _) (fun hHeld=> ?_);clear hK K
         try simp only [Act.put,List.setIfInBounds_toArray,List.set_cons_zero,List.set_cons_succ]
         refine wpAnyH_done (by kernel_rfl) ?_ _;have ap:Hid ((d.setCell ⟨B,2,none⟩ (.slice m (i+1) k)).heap[B]? =some (.cells #[.int .i64 key,.slice o2 l.length c2,.slice m (i+1) k] 29 (0,0))):=Q06 D.out 2 _;have aw:Hid (ownL Q0H 51 (d.setCell ⟨B,2,none⟩ (.slice m (i+1) k)) wc.heap.size (.slice m (i+1) k) (hs++[(N,8,P)])):=Q0q an.out D.out Q9V 2 _;have r:=Rw.more ah.out aO.out ai (show wc.heap.size≤W2.heap.size by omega) af aN.out G.out x.out E.out;rw [←aM.out] at r
         have ax:Hid (Rw InT [] ((fs.map Q4h).take (i+1)) wc.heap.size (d.setCell ⟨B,2,none⟩ (.slice m (i+1) k)).heap.size (d.setCell ⟨B,2,none⟩ (.slice m (i+1) k)) (hs++[(N,8,P)]) _ _):=(r.step InT.stp (Q0x d B 2 (.slice m (i+1) k)) (fun j hj=> .inl (Kdq (show B+1≤wc.heap.size from aV) (r.bd j hj).1))).mono (Kaq _) (by simp);have av:=Q01 (Q9J G.out aW.out ai af x.out aA.out)
         have X:Hid (Q1w (d.setCell ⟨B,2,none⟩ (.slice m (i+1) k)) t.heap.size (.slice o2 l.length c2) l):=Q0q (World.ownsRow.kept (World.ownsRow.alloc I.out _) E.out (Q2G I.out z.out QiZ)) D.out Q87 2 _;have Y:=Q01 ((Q6Y ag.out E.out (fun g e=> ak.out g e)).trans (Q0x d B 2 (.slice m (i+1) k)))
         have ay:wc.heap.size≤d.heap.size:=by have:=Y.out.size;simpa using this
         clear r;go_wp2;go_roundw
         case rel=> exact ⟨i+1,_,_,_,m,k,by omega,by go_num,ap.out,aw.out,ax.out,av.out,X.out,by simpa using ay,Y.out⟩
         case measure=> simp [intOf];omega
        exact AllReadyH.nil
       exact AllReadyH.nil
      exact AllReadyH.nil
     exact AllReadyH.nil
    exact AllReadyH.nil
   ·skip
    have e:i=n:=by omega
    subst e;have ac:=ao.out.box bu.out (.inl (show w.heap.size+1 < B by omega));have r0:wr.cell? ⟨w.heap.size+1,0,none⟩=some (.int .i64 0):=Q00 ac 0 _ rfl;have az:=Q02 ac 0;have r1:wr.cell? ⟨w.heap.size+1,1,none⟩=some (.slice none 0 0):=Q00 ac 1 _ rfl;have aq:=Q02 ac 1;have r2:wr.cell? ⟨w.heap.size+1,2,none⟩=some (.slice none 0 0):=Q00 ac 2 _ rfl;have aC:=Q02 ac 2;have p0:wr.cell? ⟨B,0,none⟩=some (.int .i64 key):=Q00 aK.out 0 _ rfl;have p1:wr.cell? ⟨B,1,none⟩=some (.slice o2 l.length c2):=Q00 aK.out 1 _ rfl;have p2:wr.cell? ⟨B,2,none⟩=some (.slice R i J):=Q00 aK.out 2 _ rfl
    have bj:Hid (InPm t.heap.size wr.heap.size wr (plv key (.slice o2 l.length c2) (.slice R i J)) ⟨key,l,fs.map Q4h⟩):=⟨_,_,wc.heap.size,rfl,bl,ba,⟨aX.out,bo.out⟩,⟨hs,L,H,InRow.of (QcR aI.out au.out al.out).1,(QcR aI.out au.out al.out).2,Qik aI.out G.out⟩⟩;have bm:=Q01 (a9.out.trans (ao.out.below (show w.heap.size≤B by omega) (by omega)));clear ac;go_wp2;refine bodyPost_ret (v:=plv key (.slice o2 l.length c2) (.slice R i J)) (by simp [results,Tryz.results69,go_sem,r0,r1,r2]) rfl ⟨_,rfl, ?_,Q0w bm.out (Nat.le_succ _) _ _ _⟩;rw [Q2V]
    exact InPm.mono (bj.out.step (Q3f wr (w.heap.size+1) _ _ _) (.inl (by omega))) (by omega)
theorem Q5R (key:Int) (o:Option Addr) (cap:Nat) (l:List Bk) (c:Option Addr) (g:Nat) (a:List Pt) (w:World) (h:RdK w.heap.size w o l) (i:o=none→cap=0) (b:l.length≤1048576) (j:RdL Q20 w.heap.size w c a) (f:a.length≤1048576):
  Calls Tryz.prog 69 #[Q6A key (.slice o l.length cap) (.slice c a.length g)] w fun e d=> ∃v,e=.returned v∧InPm w.heap.size d.heap.size d v ⟨key,l,a.map Q4h⟩∧Below w.heap.size w d:=Qh3 key o cap l c g a a.length rfl w h i b j f
theorem QiH:AppOk Q2w 47 3:=⟨Tryz.underlying47,⟨_,_,QbP,rfl,by decide⟩,by decide,fun a u hu=> by
 have:u=.int .i64 a:=by simpa [Q2w] using hu
 subst this;rfl⟩
theorem Qj1:AppOk Q0H 51 47:=⟨Tryz.underlying51,⟨_,_,Q6V,rfl,by decide⟩,by decide,fun a u hu=> by
 have:u=.slice a.1 a.2.1 a.2.2:=by simpa [Q0H] using hu
 subst this;rfl⟩
def RcV {α:Type} (L:Lay α) (lo hi:Nat) (w:World) (v:Value) (l:List α):Prop:=RiV L lo hi w v l∧Qip v
abbrev RcT:=RiRows (RcV Q2w) []
abbrev RcR:=RiRows RcT []
theorem RcI.mon:Monos (RcV Q2w):=⟨fun h h1 h2=> ⟨RiV.mono h.1 h1 h2,h.2⟩⟩
theorem RcI.stp:Stps (RcV Q2w):=⟨fun h s hd=> ⟨RiV.step h.1 s hd,h.2⟩⟩
theorem RcT.mon:Monos RcT:=RiRows.mono RcI.mon
theorem RcT.stp:Stps RcT:=RiRows.step RcI.stp
theorem RcR.mon:Monos RcR:=RiRows.mono RcT.mon
theorem RcR.stp:Stps RcR:=RiRows.step RcT.stp
theorem RiRows.map {α:Type} {Q Q':Nat→Nat→World→Value→α→Prop} {d:α} (c:∀{lo hi:Nat} {w:World} {v:Value} {x:α},Q lo hi w v x→Q' lo hi w v x) {lo hi:Nat} {w:World} {v:Value} {a:List α} (h:RiRows Q d lo hi w v a):RiRows Q' d lo hi w v a:=by
 obtain ⟨hs,b,f,h2⟩:=h;exact ⟨hs,b,f,fun i hi=> c (h2 i hi)⟩
theorem RiRows.at {α:Type} {Q:Nat→Nat→World→Value→α→Prop} {d:α} {a C:Nat} {w:World} {o:Option Addr} {n c:Nat} {f:List α} (h:RiRows Q d a C w (.slice o n c) f) (q:C≤w.heap.size) (i:Nat) (hi:i < f.length):∃b off u,o=some ⟨b,off,none⟩∧b < C∧w.cell? ⟨b,off+i,none⟩=some u∧Q a C w u (f.getD i d):=by
 obtain ⟨hs,g,l,h2⟩:=h;obtain ⟨p,m,e,r⟩:=l.open;injection e with e1 e2 e3;subst e1
 rcases r with r|⟨b,off,j,k,r⟩
 ·subst r;simp at g;omega
 ·exact ⟨b,off,hv hs i,j,k,RdL.head r i (by omega),h2 i hi⟩
theorem RcT.len {lo hi:Nat} {w:World} {v:Value} {ll:List (List Int)} (h:RcT lo hi w v ll):∃o c,v=.slice o ll.length c:=by
 obtain ⟨hs,h0,⟨o,c,e,_⟩,_⟩:=h;exact ⟨o,c,by rw [e,h0]⟩
theorem RcV.opn {lo hi:Nat} {w:World} {v:Value} {l:List Int} (h:RcV Q2w lo hi w v l):∃o c,v=.slice o l.length c∧RdL Q2w hi w o l∧(o=none→c=0):=by
 obtain ⟨o,c,e,r⟩:=RiV.open h.1;exact ⟨o,c,e,r,fun a=> h.2 l.length c (by rw [e,a])⟩
theorem QfS {α:Type} {L:Lay α} (w:World) (O:Obj) (e:TypeId):ownL L e ((w.alloc O).alloc (.cells #[] e)) (w.heap.size+1) (.slice (some ⟨w.heap.size+1,0,none⟩) 0 0) ([]:List α):=by
 have h:=Q3v (L:=L) (w.alloc O) e;rw [World.size_alloc] at h;exact h
def GTabs (w:World) (base:Nat) (hs:List Hd) (lll:List (List (List Int))):Prop:=hs.length=lll.length∧∀i,i < lll.length→∃o3 c3 hs8,hs.getD i (none,0,0)=(o3,(lll.getD i []).length,c3)∧ownL Q0H 47 w base (.slice o3 (lll.getD i []).length c3) hs8∧Tab (fun q=> (lll.getD i []).getD q []) (lll.getD i []).length w base hs8
theorem GTabs.nil (w:World) (base:Nat):GTabs w base [] []:=⟨rfl,fun i h=> absurd h (Nat.not_lt_zero _)⟩
theorem GTabs.kept {w c:World} {base:Nat} {hs:List Hd} {R:List (List (List Int))} (h:GTabs w base hs R) (b:Below w.heap.size w c):GTabs c base hs R:=
 ⟨h.1,fun i hi=> by obtain ⟨d,f,a,e,g,h2⟩:=h.2 i hi;exact ⟨d,f,a,e,Q03 g b,h2.kept b⟩⟩
theorem GTabs.other {w d:World} {base g m:Nat} {hs:List Hd} {R:List (List (List Int))} {b:Value} {j:List Value} (h:GTabs w base hs R) (h2:w.ownsRow g 51 1 b m j) (f:w.grownBy d b.ownBlock):GTabs d base hs R:=
 ⟨h.1,fun i hi=> by obtain ⟨k,n,a,e,c,l⟩:=h.2 i hi;exact ⟨k,n,a,e,World.ownsRow.kept c f (Q2z c h2 Qj4),l.other h2 Qjk f⟩⟩
theorem GTabs.putB {w:World} {base:Nat} {hs:List Hd} {R:List (List (List Int))} {B:Nat} {c:Array Value} (h:GTabs w base hs R) (b:w.heap[B]? =some (.cells c 29 (0,0))) (j:Nat) (u:Value):GTabs (w.setCell ⟨B,j,none⟩ u) base hs R:=
 ⟨h.1,fun i hi=> by obtain ⟨d,g,a,e,k,h2⟩:=h.2 i hi;exact ⟨d,g,a,e,Q0q k b QiX j u,h2.grown (Q0I w B j u) (fun q f=> Q1Y (h2.row q f) b Qjg)⟩⟩
theorem GTabs.snoc {w:World} {base:Nat} {hs a:List Hd} {R:List (List (List Int))} {ll:List (List Int)} {b:Option Addr} {c:Nat} (h:GTabs w base hs R) (k:ownL Q0H 47 w base (.slice b ll.length c) a) (h2:Tab (fun q=> ll.getD q []) ll.length w base a):GTabs w base (hs++[(b,ll.length,c)]) (R++[ll]):=by
 have g:=h.1;refine ⟨by simp [g],fun i hi=> ?_⟩
 by_cases hi':i < R.length
 ·have d:(R++[ll]).getD i []=R.getD i []:=by rw [List.getD_eq_getElem?_getD,List.getElem?_append_left hi',←List.getD_eq_getElem?_getD]
  have f:(hs++[(b,ll.length,c)]).getD i (none,0,0)=hs.getD i (none,0,0):=by rw [List.getD_eq_getElem?_getD,List.getElem?_append_left (by omega),←List.getD_eq_getElem?_getD]
  rw [d,f];exact h.2 i hi'
 ·have j:i=R.length:=by simp at hi;omega
  subst j
  have d:(R++[ll]).getD R.length []=ll:=by simp
  have f:(hs++[(b,ll.length,c)]).getD R.length (none,0,0)=(b,ll.length,c):=by rw [←g];simp
  rw [d,f];exact ⟨b,c,a,rfl,k,h2⟩
theorem GTabs.rc {w:World} {base:Nat} {hs:List Hd} {R:List (List (List Int))} {o:Option Addr} {n c:Nat} (h:GTabs w base hs R) (f:ownL Q0H 51 w base (.slice o n c) hs):RcR base w.heap.size w (.slice o n c) R:=by
 refine ⟨hs,h.1,InRow.ri (InRow.of f),fun i hi=> ?_⟩;obtain ⟨g,k,a,e,l,h2⟩:=h.2 i hi
 have d:hv hs i=.slice g (R.getD i []).length k:=by unfold hv;rw [e]
 rw [d];exact ⟨a,h2.len,InRow.ri (InRow.of l),fun j b=> ⟨InRow.ri (InRow.of (h2.row j b)),InRow.cap (InRow.of (h2.row j b))⟩⟩
theorem RcR.ri {lo hi:Nat} {w:World} {v:Value} {R:List (List (List Int))} (h:RcR lo hi w v R):RiR lo hi w v R:=RiRows.map (fun q=> RiRows.map (fun r=> r.1) q) h
theorem GTabs.mono {w:World} {base b:Nat} {hs:List Hd} {R:List (List (List Int))} (h:GTabs w base hs R) (c:b≤base):GTabs w b hs R:=
 ⟨h.1,fun i hi=> by obtain ⟨d,f,a,e,g,h2⟩:=h.2 i hi;exact ⟨d,f,a,e,Q04 g c,Tab.mono h2 c⟩⟩
theorem Qej (R:List (List (List Int))) (i:Nat) (h:i < R.length):R.take (i+1)=R.take i++[R.getD i []]:=by
 rw [List.take_succ_eq_append_getElem h];simp [h]
theorem QcP (key:Int) (o:Option Addr) (cap:Nat) (l:List Bk) (oR:Option Addr) (cR:Nat) (d:List (List (List Int))) (n:Nat) (a0:n=d.length) (w:World) (hR:RdK w.heap.size w o l) (hn:o=none→cap=0) (bD:l.length≤1048576) (hG:RcR 0 w.heap.size w (.slice oR n cR) d) (hf:n≤1048576) (hx:∀i,i < d.length→(d.getD i []).length≤1048576) (hy:∀i,i < d.length→∀j,j < (d.getD i []).length→((d.getD i []).getD j []).length≤1048576):
  Calls Tryz.prog 165 #[plv key (.slice o l.length cap) (.slice oR n cR)] w fun e w'=> ∃z c2 D C hs,e=.returned (plv key (.slice z l.length c2) (.slice D n C))∧Q1w w' w.heap.size (.slice z l.length c2) l∧ownL Q0H 51 w' w.heap.size (.slice D n C) hs∧GTabs w' w.heap.size hs d∧Below w.heap.size w w':=by
 have aL:=Q01 a0;clear a0;obtain ⟨a,H⟩:∃W,((w.alloc (.cells #[.int .i64 key,.slice o l.length cap,.slice oR n cR] 29)).alloc (.cells #[.int .i64 0,.slice none 0 0,.slice none 0 0] 29))=W:=⟨_,rfl⟩;have P:=alb0v0v2 H;have HB:=Q01 P;clear P;have N:=alz0v0v2 H;obtain ⟨z0,z1,z2⟩:=alc3v0v2 H;have zr:=alz0v1v2 H;obtain ⟨r0,r1,r2⟩:=alc3v1v2 H;obtain ⟨ad,ac,af⟩:=alf3v1v2 H;have bf:=Q01 (show a.heap[w.heap.size+1]? =some (.cells #[.int .i64 0,.slice none 0 0,.slice none 0 0] 29 (0,0)) by rw [←H];exact Q1V w _ _ _);have bu:=zr;have aT:=N
 have ar:=Q01 (fun W (E:Below a.heap.size a W)=> (hR.kept (HB.out.trans (E.mono HB.out.size)) (Kaq _)));have HG:=Q01 hG;have HX:=Q01 hx;have HY:=Q01 hy;clear hR hG hx hy;have bR:=HB.out.size;go_enter Tryz.func165,Tryz.ntmps165;go_upto_region 1 with fail
 go_cut [3] from 7 to 13 (fun s3 wx=> ∃B z c2,s3=.pointer (some ⟨B,0,none⟩)∧Hid (wx.heap[B]? =some (.cells #[.int .i64 key,.slice z l.length c2,.slice none 0 0] 29 (0,0)))∧Hid (Below a.heap.size a wx)∧a.heap.size≤B∧B < wx.heap.size∧Hid (Q1w wx a.heap.size (.slice z l.length c2) l))
 case first=>
  go_region_held3 (fun w'=> w'.cell? ⟨w.heap.size,0,none⟩=some (.int .i64 key)∧w'.cell? ⟨w.heap.size,1,none⟩=some (.slice o l.length cap)) (first|with_reducible exact ⟨I,J⟩|with_reducible exact ⟨z0,z1⟩|with_reducible exact ⟨Q0a I (show w.heap.size < _ by omega),Q0a J (show w.heap.size < _ by omega)⟩|go_keep) (first|(have t:ownL Q1d 119 (a.alloc (.cells #[] 119)).drew a.heap.size (.slice (some ⟨a.heap.size,0,none⟩) 0 0) ([]:List Bk):=Q3v a _;have y:Below a.heap.size a (a.alloc (.cells #[] 119)).drew:=Below.drew ((Below.refl _ _).alloc (Kaq _) _);refine Q0i Q47 rfl _ _ rfl a.heap.size (.slice (some ⟨a.heap.size,0,none⟩) 0 0) ([]:List Bk) rfl t o cap w.heap.size l l.length rfl rfl hn (ar.out _ y) (by simp;omega) (by (try simp) <;> omega) ?_;intro v8 Y f c _;have s:Below a.heap.size a Y:=y.grown c (by (try simp) <;> omega) (fun k h=> by simp [Value.ownBlock] at h;omega);have aJ:=s.size;obtain ⟨z,c2,e2,_⟩:=ownL.open (L:=Q1d) f;subst e2;have ae:Q1w Y a.heap.size (.slice z l.length c2) l:=f;have I:=bC s z0 N;have J:=bC s z1 N;clear f c y t)|(have t:ownL Q1d 119 ((a.alloc (.cells #[] 119)).alloc (.cells #[.int .i64 0,.slice none 0 0,.slice none 0 0] 29)).drew a.heap.size (.slice (some ⟨a.heap.size,0,none⟩) 0 0) ([]:List Bk):=World.ownsRow.alloc (Q3v a _) _;have y:Below a.heap.size a ((a.alloc (.cells #[] 119)).alloc (.cells #[.int .i64 0,.slice none 0 0,.slice none 0 0] 29)).drew:=Below.drew (((Below.refl _ _).alloc (Kaq _) _).alloc (by simp) _);refine Q0i Q47 rfl _ _ rfl a.heap.size (.slice (some ⟨a.heap.size,0,none⟩) 0 0) ([]:List Bk) rfl t o cap w.heap.size l l.length rfl rfl hn (ar.out _ y) (by simp;omega) (by (try simp) <;> omega) ?_;intro v8 Y f c _;have s:Below a.heap.size a Y:=y.grown c (by (try simp) <;> omega) (fun k h=> by simp [Value.ownBlock] at h;omega);have aJ:=s.size;obtain ⟨z,c2,e2,_⟩:=ownL.open (L:=Q1d) f;subst e2;have ae:Q1w Y a.heap.size (.slice z l.length c2) l:=f;have I:=bC s z0 N;have J:=bC s z1 N;have p:Y.heap[a.heap.size+1]? =some (.cells #[.int .i64 0,.slice none 0 0,.slice none 0 0] 29 (0,0)):=(c.block _ (by (try simp) <;> omega) (by simp [Value.ownBlock])).trans (Q1V a _ _ _);have an:=Q00 p 0 _ rfl;have ao:=Q02 p 0;have az:=Q00 p 1 _ rfl;have aE:=Q02 p 1;have ap:=Q00 p 2 _ rfl;have aw:=Q02 p 2;clear f c y t)|(have t:ownL Q1d 119 ((a.alloc (.cells #[.int .i64 0,.slice none 0 0,.slice none 0 0] 29)).alloc (.cells #[] 119)).drew a.heap.size (.slice (some ⟨a.heap.size+1,0,none⟩) 0 0) ([]:List Bk):=Q04 (QfS a _ _) (Nat.le_succ _);have y:Below a.heap.size a ((a.alloc (.cells #[.int .i64 0,.slice none 0 0,.slice none 0 0] 29)).alloc (.cells #[] 119)).drew:=Below.drew (((Below.refl _ _).alloc (Kaq _) _).alloc (by simp) _);refine Q0i Q47 rfl _ _ rfl a.heap.size (.slice (some ⟨a.heap.size+1,0,none⟩) 0 0) ([]:List Bk) rfl t o cap w.heap.size l l.length rfl rfl hn (ar.out _ y) (by simp;omega) (by (try simp) <;> omega) ?_;intro v8 Y f c _;have s:Below a.heap.size a Y:=y.grown c (by (try simp) <;> omega) (fun k h=> by simp [Value.ownBlock] at h;omega);have aJ:=s.size;obtain ⟨z,c2,e2,_⟩:=ownL.open (L:=Q1d) f;subst e2;have ae:Q1w Y a.heap.size (.slice z l.length c2) l:=f;have I:=bC s z0 N;have J:=bC s z1 N;have p:Y.heap[a.heap.size]? =some (.cells #[.int .i64 0,.slice none 0 0,.slice none 0 0] 29 (0,0)):=(c.block _ (by (try simp) <;> omega) (by simp [Value.ownBlock])).trans (Q3U a _ _ _);have an:=Q00 p 0 _ rfl;have ao:=Q02 p 0;have az:=Q00 p 1 _ rfl;have aE:=Q02 p 1;have ap:=Q00 p 2 _ rfl;have aw:=Q02 p 2;clear f c y t))
  all_goals (go_wp2_with fail;go_meet)
  all_goals first
   |with_reducible exact Qjj p s (by omega) ae
   |with_reducible exact QiO s ae
 case rest=>
  obtain ⟨B,z,c2,rfl,bz,aU,bK,bL,a9⟩:=hcut;have E:=aU.out;have bN:=E.size;have a2:=Q01 (E.block _ bu);clear aU;replace z0:=bC E z0 N;replace z1:=bC E z1 N;replace z2:=bC E z2 N;replace N:=Kbq N E.size;replace r0:=bC E r0 zr;replace r1:=bC E r1 zr;replace r2:=bC E r2 zr;replace ad:=bF E ad zr;replace ac:=bF E ac zr;replace af:=bF E af zr;replace zr:=Kbq zr E.size;replace HB:=Q01 (HB.out.trans (E.mono HB.out.size));clear E;have bA:=Q01 ((a2.out).trans bf.out);have bw:=HB;have a7:=z2;have bS:w.heap.size < a.heap.size:=aT
  clear z0 z1 r0 r1 r2 ad ac af z2;go_wp2
  go_loopw [4] (fun iv wr=> ∃(i:Nat) (hs:List Hd) (D:Option Addr) (C:Nat),i≤n∧iv=.int .i64 (i:Int)∧Hid (wr.heap[B]? =some (.cells #[.int .i64 key,.slice z l.length c2,.slice D i C] 29 (0,0)))∧Hid (ownL Q0H 51 wr wc.heap.size (.slice D i C) hs)∧Hid (GTabs wr wc.heap.size hs (d.take i))∧Hid (Q1w wr a.heap.size (.slice z l.length c2) l)∧wc.heap.size≤wr.heap.size∧Hid (Stp B (B+1) wc wr))
   (fun iv _=> n - (intOf iv).toNat)
  case atStart=> exact ⟨0,[],none,0,Kcq _,rfl,bz.out,World.ownsRow_nil _ _ _ _,by rw [List.take_zero];exact GTabs.nil _ _,a9.out,Kaq _,Stp.refl _⟩
  case round=>
   rename World=> wo
   obtain ⟨i,hs,D,C,bT,rfl,ab,ak,aD,aA,aF,aa⟩:=hrel;have ay:=Q01 (bw.out.trans (aa.out.below (show w.heap.size≤B by omega) (by omega)));have zq:wo.cell? ⟨w.heap.size,2,none⟩=some (.slice oR n cR):=aa.out.cellP a7 (.inl (show w.heap.size < B by omega))
   have a8:w.heap.size < wo.heap.size:=by omega
   by_cases hlt:i < n
   ·skip
    have bE:(i:Int) < (n:Int):=by omega
    have Z:i < d.length:=by rw [←aL.out];exact hlt
    obtain ⟨b,off,u,rfl,ba,ag,O⟩:=HG.out.at (Kaq _) i Z;obtain ⟨o3,c3,rfl⟩:=RcT.len O;have au:wo.cell? ⟨b,off+i,none⟩=some (.slice o3 (d.getD i []).length c3):=bC ay.out ag ba;have aG:=Q01 O;have aY:=Q01 (Qej d i Z);have a4:=Q01 (HX.out i Z);have a6:=Q01 (HY.out i Z);clear ag O;obtain ⟨ll,aV⟩:∃ll,d.getD i []=ll:=⟨_,rfl⟩;rw [aV] at au aG aY a4 a6;clear aV;obtain ⟨m,hm⟩:∃m,ll.length=m:=⟨_,rfl⟩;rw [hm] at au;have HM:=Q01 hm
    have bP:m≤1048576:=by rw [←hm];exact a4.out
    clear hm
    have bn:b < wo.heap.size:=by omega
    go_wp2
    go_loopw [5,6] (fun tv kv wq=> ∃(k:Nat) (T:List Hd),k≤m∧kv=.int .i64 (k:Int)∧Hid (ownL Q0H 47 wq wo.heap.size tv T)∧Hid (Tab (fun q=> ll.getD q []) k wq wo.heap.size T)∧Hid (Below wo.heap.size wo wq))
     (fun _ kv _=> m - (intOf kv).toNat)
    case atStart=> exact ⟨0,[],Kcq _,rfl,World.ownsRow_nil _ _ _ _,Tab.nil _ _ _,Below.refl _ _⟩
    case round=>
     rename World=> wq
     rename_i tv _
     obtain ⟨k,T,bO,rfl,HO,HT,A⟩:=hrel;have aR:=A.out.size;have bi:=bC A.out zq a8;have be:=bC A.out au bn;have ai:=Q01 (ay.out.trans (A.out.mono (show w.heap.size≤wo.heap.size by omega)))
     by_cases hlk:k < m
     ·skip
      have bG:(k:Int) < (m:Int):=by omega
      obtain ⟨b2,bI,u2,e2,aH,ah,aj⟩:=aG.out.at (Kaq _) k (by rw [HM.out];exact hlk);subst e2;obtain ⟨o9,c9,rfl,M,bv⟩:=RcV.opn aj;have al:=bC ai.out ah aH;have aX:=Q01 (M.kept ai.out (Kaq _));have aM:=a6.out k (by rw [HM.out];exact hlk);clear ah aj M;obtain ⟨row,aq⟩:∃row,ll.getD k []=row:=⟨_,rfl⟩;rw [aq] at al aX aM;have bl:=Q01 aq;clear aq;obtain ⟨r9,M⟩:∃r,row.length=r:=⟨_,rfl⟩;rw [M] at al aM;have ax:=Q01 M;clear M;obtain ⟨W1,aZ⟩:∃W,wq.alloc (.cells #[] 3)=W:=⟨_,rfl⟩;have F:=alb0v0v1 aZ
      have bh:=Q01 (show ownL Q2w 3 W1 wq.heap.size (.slice (some ⟨wq.heap.size,0,none⟩) 0 0) ([]:List Int) by rw [←aZ];exact Q3v wq _);have aI:=F.size;have bM:=bC F bi (by omega);have bH:=bC F be (by omega);have bJ:=bC F al (by omega);have bq:=Q01 (aX.out.kept F (by omega));have bp:=Q01 F;clear F;go_wp2_with (first|(at_builtin;refine Q08 QiH rfl (.tmp 32) (.tmp 40) rfl wq.heap.size _ ([]:List Int) rfl bh.out o9 c9 w.heap.size row r9 ax.out.symm rfl bv bq.out (by rw [ax.out];simp;omega) aI ?_));intro v2 w2 am aP _;obtain ⟨R,V,e4,_⟩:=ownL.open (L:=Q2w) am
      rw [ax.out] at e4;subst e4;have X:Below wq.heap.size wq w2:=bp.out.grown aP aI (fun g e=> by have e':wq.heap.size=g:=Option.some.inj e;omega);have bd:=Q01 ((HT.out.kept X).snoc HT.out.lt aR (show Qa6 w2 wq.heap.size (.slice R r9 V) (ll.getD k []) by rw [bl.out];exact am));have aQ:=Q01 (Q03 HO.out X);have aN:=Q01 (A.out.trans (X.mono aR));have bB:=X.size
      have a3:T.length≤1048576:=by rw [HT.out.len];omega
      clear am aP X;go_wp2_with (first|(at_builtin;refine Q08 Qj1 rfl (.tmp 31) (.tmp 42) rfl wo.heap.size _ T rfl (World.ownsRow.alloc aQ.out (.cells #[.slice R r9 V] 47)) (some ⟨w2.heap.size,0,none⟩) 1 _ [(R,r9,V)] 1 rfl rfl (by simp) Q7p (by simp;omega) (by simp;omega) ?_));intro v5 w5 aW aB _;have HA:=Q01 (World.ownsRow.alloc aQ.out (.cells #[.slice R r9 V] 47));have bj:=Q01 (Tab.other (bd.out.kept ((Below.refl _ _).alloc (Kaq _) _)) HA.out QgQ aB);have bk:=Q01 ((aN.out.alloc aN.out.size _).grown aB (by simp;omega) (fun k h=> (HA.out.lt k h).1));have bb:=Q01 aW
      clear aB aW;go_wp2;go_roundw
      case rel=> exact ⟨k+1,_,by omega,by go_num,bb.out,bj.out,bk.out⟩
      case measure=> simp [intOf];omega
     ·skip
      have e:k=m:=by omega
      subst e;obtain ⟨R,V,e4,_⟩:=ownL.open (L:=Q0H) HO.out;rw [HT.out.len] at e4;subst e4;have aC:=(A.out.block B (by omega)).trans ab.out;have p2:wq.cell? ⟨B,2,none⟩=some (.slice D i C):=Q00 aC 2 _ rfl;have bc:=Q01 aC;have aS:=Q01 (show hs.length=i by have:=aD.out.1;rw [List.length_take] at this;omega);have a5:=Q01 (fun g (e:(Value.slice D i C).ownBlock=some g)=> ak.out.lt g e);have U:=Q01 (Q03 ak.out A.out)
      have bQ:hs.length≤1048576:=by rw [aS.out];omega
      have bs:Hid (∀g,(Value.slice D i C).ownBlock=some g→g≠B):=fun g e=> by have:=a5.out g e;omega
      clear aC;go_wp2_with (first|(at_builtin;refine Q08 Q66 rfl (.tmp 45) (.tmp 47) rfl wc.heap.size (.slice D i C) hs rfl (World.ownsRow.alloc U.out (.cells #[.slice R k V] 51)) (some ⟨wq.heap.size,0,none⟩) 1 _ [(R,k,V)] 1 rfl rfl (by simp) Q7p (by simp;omega) (by simp;omega) ?_));intro v8 w8 f c _;obtain ⟨o8,c8,e8,_⟩:=ownL.open (L:=Q0H) f
      have a3:(hs++[((R,k,V):Hd)]).length=i+1:=by rw [List.length_append,aS.out];rfl
      rw [a3] at e8;subst e8;have G:=(c.block B (by simp;omega) (fun e=> bs.out B e.symm rfl)).trans ((Below.heap_alloc _ _ _ (by omega)).trans bc.out);have p8:w8.cell? ⟨B,2,none⟩=some (.slice D i C):=Q00 G 2 _ rfl;have f8:=Q02 G 2;have bt:=Q01 (World.ownsRow.alloc U.out (.cells #[.slice R k V] 51))
      have a1:GTabs w8 wc.heap.size (hs++[(R,k,V)]) (d.take (i+1)):=by
       rw [aY.out];have h1:=(aD.out.kept A.out).snoc (ll:=ll) (Q04 (by rw [HM.out];exact HO.out) aF) (Tab.mono (by rw [HM.out];exact HT.out) aF);rw [HM.out] at h1;exact (h1.kept ((Below.refl wq.heap.size wq).alloc (Kaq _) _)).other bt.out c
      have bg:Hid ((w8.setCell ⟨B,2,none⟩ (.slice o8 (i+1) c8)).heap[B]? =some (.cells #[.int .i64 key,.slice z l.length c2,.slice o8 (i+1) c8] 29 (0,0))):=Q06 G 2 _;have bm:=Q01 (Q0q (B:=B) f G Q9V 2 (.slice o8 (i+1) c8));have bx:=Q01 (a1.putB G 2 (.slice o8 (i+1) c8));have aK:=Q01 (Q0q (World.ownsRow.kept (World.ownsRow.alloc (Q03 aA.out A.out) (.cells #[.slice R k V] 51)) c (Q2G (Q03 aA.out A.out) U.out QiZ)) G Q87 2 (.slice o8 (i+1) c8))
      have aO:=Q01 ((Q6Y (aa.out.trans (Stp.of A.out)) c (fun g e=> (a5.out g e).1)).trans (Q0x w8 B 2 (.slice o8 (i+1) c8)))
      have bo:wc.heap.size≤w8.heap.size:=by have:=aO.out.size;simpa using this
      clear f c G a1;go_wp2;go_roundw
      case rel=> exact ⟨i+1,_,o8,c8,by omega,by go_num,bg.out,bm.out,bx.out,aK.out,by simpa using bo,aO.out⟩
      case measure=> simp [intOf];omega
   ·skip
    have e:i=n:=by omega
    subst e;have x:=aa.out.box bA.out (.inl (show w.heap.size+1 < B by omega));have r0:wo.cell? ⟨w.heap.size+1,0,none⟩=some (.int .i64 0):=Q00 x 0 _ rfl;have ad:=Q02 x 0;have r1:wo.cell? ⟨w.heap.size+1,1,none⟩=some (.slice none 0 0):=Q00 x 1 _ rfl;have ac:=Q02 x 1;have r2:wo.cell? ⟨w.heap.size+1,2,none⟩=some (.slice none 0 0):=Q00 x 2 _ rfl;have af:=Q02 x 2;have p0:wo.cell? ⟨B,0,none⟩=some (.int .i64 key):=Q00 ab.out 0 _ rfl;have p1:wo.cell? ⟨B,1,none⟩=some (.slice z l.length c2):=Q00 ab.out 1 _ rfl;have p2:wo.cell? ⟨B,2,none⟩=some (.slice D i C):=Q00 ab.out 2 _ rfl
    have av:Hid (Q1w (setP wo (w.heap.size+1) (.int .i64 key) (.slice z l.length c2) (.slice D i C)) w.heap.size (.slice z l.length c2) l∧ownL Q0H 51 (setP wo (w.heap.size+1) (.int .i64 key) (.slice z l.length c2) (.slice D i C)) w.heap.size (.slice D i C) hs∧GTabs (setP wo (w.heap.size+1) (.int .i64 key) (.slice z l.length c2) (.slice D i C)) w.heap.size hs d):=by
     have g1:=Q06 x 0 (.int .i64 key);have g2:=Q06 g1 1 (.slice z l.length c2)
     have hg:GTabs wo wc.heap.size hs d:=by have h:=aD.out;rw [aL.out,List.take_length] at h;exact h
     exact ⟨Q04 (Q0q (Q0q (Q0q aA.out x Q87 0 _) g1 Q87 1 _) g2 Q87 2 _) (by omega),Q04 (Q0q (Q0q (Q0q ak.out x Q9V 0 _) g1 Q9V 1 _) g2 Q9V 2 _) (by omega),GTabs.mono (((hg.putB x 0 _).putB g1 1 _).putB g2 2 _) (by omega)⟩
    clear x;go_wp2;refine bodyPost_ret (v:=plv key (.slice z l.length c2) (.slice D i C)) (by simp [results,Tryz.results165,go_sem,r0,r1,r2]) rfl ⟨z,c2,D,C,hs,rfl,av.out.1,av.out.2.1,av.out.2.2,Q0w ay.out (Nat.le_succ _) _ _ _⟩
def pm0:Pm:=⟨0,[],[]⟩
def Q37 (key:Int) (l:List Bk):List (List Int):=Q3C (fun b=> Q19 key b l) 8
theorem Q1Q (key:Int) (l:List Bk):(Q37 key l).length=8:=Q1y _ _
theorem Q6W (key:Int) (l:List Bk) (j:Nat):((Q37 key l).getD j []).length≤2:=by
 by_cases h:j < 8
 ·unfold Q37;rw [Q2k _ _ _ h];exact Q9Z key j l
 ·rw [List.getD_eq_getElem?_getD,List.getElem?_eq_none (by rw [Q1Q];omega)];simp
theorem QhY (key:Int) (l:List Bk):szT (Q37 key l)≤16:=by
 have h:=Q5d (Qiu (Q37 key l)) 2 (fun i=> Q6W key l i) (Q37 key l).length;unfold szT;rw [Q1Q] at h ⊢;omega
theorem Tab.congr {R R':Nat→List Int} {k:Nat} {w:World} {base:Nat} {hs:List Hd} (h:Tab R k w base hs) (e:∀i,i < k→R i=R' i):Tab R' k w base hs:=⟨h.len,fun i hi=> by rw [←e i hi];exact h.row i hi,h.apart⟩
theorem QbW {key:Int} {l:List Bk} {w:World} {base:Nat} {hs:List Hd} (h:Tab (fun b=> Q19 key b l) 8 w base hs):Tab (fun q=> (Q37 key l).getD q []) (Q37 key l).length w base hs:=by
 rw [Q1Q];exact h.congr (fun i hi=> by unfold Q37;rw [Q2k _ _ _ hi])
def Q1e (key:Int) (R:List (List Bk)):List (List (List Int)):=R.map (Q37 key)
theorem Q2X (key:Int) (R:List (List Bk)) (i:Nat) (h:i < R.length):(Q1e key R).getD i []=Q37 key (R.getD i []):=by simp [Q1e,h]
theorem Q83 (key:Int) (l:List Bk) (R:List (List Bk)) (d:l.length≤1048576) (g:R.length≤3):Q3q ⟨key,l,Q1e key R⟩:=by
 have a:(Q1e key R).length=R.length:=by simp [Q1e]
 have c:∀i,Qb8 (Q1e key R) i≤16:=fun i=> by
  by_cases h:i < R.length
  ·unfold Qb8;rw [Q2X _ _ _ h];exact QhY key _
  ·unfold Qb8;rw [List.getD_eq_getElem?_getD,List.getElem?_eq_none (by rw [a];omega)];exact Kcq _
 refine ⟨d,by show (Q1e key R).length≤_;omega, ?_,fun i hi=> ?_,fun i hi j f=> ?_⟩
 ·have h:=Q5d (Qb8 (Q1e key R)) 16 c (Q1e key R).length
  show QdP (Qb8 (Q1e key R)) (Q1e key R).length≤1048576
  rw [a] at h ⊢;omega
 ·have b:i < R.length:=by rw [←a];exact hi
  show ((Q1e key R).getD i []).length≤_
  rw [Q2X _ _ _ b,Q1Q];omega
 ·have b:i < R.length:=by rw [←a];exact hi
  show (((Q1e key R).getD i []).getD j []).length≤_
  rw [Q2X _ _ _ b];have:=Q6W key (R.getD i []) j;omega
def Q8e (key:Int):Pm:=if Q1P key=true then ⟨key,[],Q1e key [[]]⟩ else pm0
theorem QcJ (key:Int):Q3q (Q8e key):=by
 unfold Q8e
 split
 ·exact Q83 key [] [[]] (by simp) (by simp)
 ·exact ⟨by simp [pm0],by simp [pm0],by simp [pm0,szR,QdP],fun i hi=> absurd hi (Nat.not_lt_zero _),fun i hi=> absurd hi (Nat.not_lt_zero _)⟩
theorem Qas (lo hi:Nat) (w:World) (h:lo≤hi):InPm lo hi w (plv 0 (.slice none 0 0) (.slice none 0 0)) pm0:=⟨_,_,lo,rfl,Kaq _,h,⟨World.ownsRow_nil _ _ _ _,fun b e=> by cases e⟩,⟨[],fun _=> 0,fun _=> 0,⟨World.ownsRow_nil _ _ _ _,fun b e=> by cases e⟩,Rw.nil _ _ _ _ _ _ _,fun i h=> absurd h (Nat.not_lt_zero _)⟩⟩
theorem Q7c (key:Int) (w:World):
  Calls Tryz.prog 97 #[.int .i64 key] w fun e B=> ∃v,e=.returned (.tuple #[v,.bool (Q1P key)])∧InPm w.heap.size B.heap.size B v (Q8e key)∧Below w.heap.size w B:=by
 have i:=Q01 (fun W=> Q10 key W);have n:=Q01 (show Q8e key=if Q1P key=true then ⟨key,[],Q1e key [[]]⟩ else pm0 from rfl);obtain ⟨O,d⟩:∃W,(w.alloc (.cells #[.int .i64 0,.slice none 0 0,.slice none 0 0] 29))=W:=⟨_,rfl⟩;have c:=alb0v0v1 d;have m:=Q01 c;clear c;have b:=alz0v0v1 d;obtain ⟨s,q,r⟩:=alc3v0v1 d;obtain ⟨j,k,f⟩:=alf3v0v1 d;have G:=b
 cases hk:Q1P key with
 |false=>
  rw [hk] at i n;go_enter Tryz.func97,Tryz.ntmps97;go_wp2_with fail;refine (i.out _).mono ?_;rintro e _ ⟨rfl,rfl⟩;go_wp2;refine bodyPost_ret (v:=.tuple #[plv 0 (.slice none 0 0) (.slice none 0 0),.bool false]) (by simp [results,Tryz.results97,go_sem,s,q,r]) rfl ⟨_,rfl, ?_,Q0w m.out (Kaq _) _ _ _⟩;rw [n.out,if_neg (by simp)];exact Qas _ _ _ (Q0w m.out (Kaq _) _ _ _).size
 |true=>
  have H:=Q01 hk;rw [hk] at i n;clear hk;go_enter Tryz.func97,Tryz.ntmps97;go_wp2_with fail;refine (i.out _).mono ?_;rintro e _ ⟨rfl,rfl⟩;have C:=Q01 (Q9E key none 0 0 none 0 none 0 [] O [] (by simp) (.inl rfl) (by simp) (fun _=> rfl) (.inl rfl) (by simp) H.out rfl);go_wp2_with fail;refine (C.out).mono ?_;rintro e N ⟨F,c2,rfl,x,a⟩;have A:=Q01 x;have D:=a.size;clear x;replace s:=bC a s b;replace q:=bC a q b;replace r:=bC a r b;replace j:=bF a j b;replace k:=bF a k b;replace f:=bF a f b;replace b:=Kbq b a.size
  replace m:=Q01 (m.out.trans (a.mono m.out.size));clear a;have I:=Q01 (Q5R key none 0 [] F c2 (Q2K key []::([]:List Pt).take 2) N (.inl rfl) (fun _=> rfl) (by simp) (ownL.rds (L:=Q20) A.out) (by simp));go_wp2_with fail;refine (I.out).mono ?_;rintro e J ⟨P,rfl,t,a⟩;have u:=Q01 t;have M:=a.size;clear t;obtain ⟨y,z,p,g,R⟩:∃(y:Option Addr) (z:Nat) (p:Option Addr) (g:Nat),P=plv key (.slice y 0 z) (.slice p 1 g):=u.out.opn;subst R;replace s:=bC a s b;replace q:=bC a q b;replace r:=bC a r b;replace j:=bF a j b
  replace k:=bF a k b;replace f:=bF a f b;replace b:=Kbq b a.size;replace m:=Q01 (m.out.trans (a.mono m.out.size));clear a;go_wp2;refine bodyPost_ret (v:=.tuple #[plv key (.slice y 0 z) (.slice p 1 g),.bool true]) (by simp [results,Tryz.results97,go_sem,s,q,r]) rfl ⟨_,rfl, ?_,Q0w m.out (Kaq _) _ _ _⟩;rw [n.out,if_pos trivial,Q2V];have h:=u.out.step (Q3f J w.heap.size (.int .i64 key) (.slice y 0 z) (.slice p 1 g)) (.inl (by omega))
  have E:(Q2K key []::([]:List Pt).take 2).map Q4h=Q1e key [[]]:=by simp [Q1e,Q37,Q9R key (l:=[]) rfl]
  rw [E] at h;exact InPm.mono h (by omega)
abbrev Q21 (W:World) (R:Nat) (x0 x1 x2 x3 x4 x5 x6:Value):World:=((((((W.setCell ⟨R,0,none⟩ x0).setCell ⟨R,1,none⟩ x1).setCell ⟨R,2,none⟩ x2).setCell ⟨R,3,none⟩ x3).setCell ⟨R,4,none⟩ x4).setCell ⟨R,5,none⟩ x5).setCell ⟨R,6,none⟩ x6
theorem Q1b (W:World) (R:Nat) (a d g h b f c:Value):Stp R (R+1) W (Q21 W R a d g h b f c):=((((((Q0x W R 0 a).trans (Q0x _ R 1 d)).trans (Q0x _ R 2 g)).trans (Q0x _ R 3 h)).trans (Q0x _ R 4 b)).trans (Q0x _ R 5 f)).trans (Q0x _ R 6 c)
theorem Q0C (W:World) (R:Nat) (x0 x1 x2 x3 x4 x5 x6:Value):(Q21 W R x0 x1 x2 x3 x4 x5 x6).heap.size=W.heap.size:=by simp [World.setCell]
theorem Q0v {C:Nat} {w W:World} {R:Nat} (h:Below C w W) (a:C≤R) (b g j c d i f:Value):Below C w (Q21 W R b g j c d i f):=((((((h.setCell (p:=⟨R,0,none⟩) a _).setCell (p:=⟨R,1,none⟩) a _).setCell (p:=⟨R,2,none⟩) a _).setCell (p:=⟨R,3,none⟩) a _).setCell (p:=⟨R,4,none⟩) a _).setCell (p:=⟨R,5,none⟩) a _).setCell (p:=⟨R,6,none⟩) a _
theorem QaL {a b f d:Nat} {w:World} {v:Value} {m:Pm} (h:InPm a b w v m) (l:f≤a) (h2:b≤d):InPm f d w v m:=by
 obtain ⟨j,i,c,e,n,p,g,k⟩:=h;exact ⟨j,i,c,e,by omega,by omega,InRow.mono g l (Kaq _),InRows.mono.go k (Kaq _) h2⟩
theorem QfB {a b b':Nat} {w:World} {v:Value} {m:List Sl} (h2:b≤b') (h:InTb a b w v m):InTb a b' w v m:=by
 obtain ⟨vl,e,i1⟩:=h;exact ⟨vl,e,InRow.mono i1 (Kaq _) h2⟩
def Q0Q (m:Jm):Pm:=if Q0s m.key m.l m.safe=true then ⟨m.key,Q0k m.l m.l.length,Q1e m.key (Q1u m.l m.l.length)⟩ else pm0
theorem Q7X (cs:List Cd):∀n,(Q1u cs n).length≤3
 |0=> by simp [Q1u]
 |n+1=> by rw [Q1u,List.length_take];omega
theorem Q6b (m:Jm):Q3q (Q0Q m):=by
 unfold Q0Q
 split
 ·next h=> exact Q83 m.key _ _ (by have:=(Q4r h).2;omega) (Q7X _ _)
 ·exact ⟨by simp [pm0],by simp [pm0],by simp [pm0,szR,QdP],fun i hi=> absurd hi (Nat.not_lt_zero _),fun i hi=> absurd hi (Nat.not_lt_zero _)⟩
theorem QhD {w:World} {base:Nat} {key:Int} {hs:List Hd} {R:List (List Bk)} (h:PTabs w base key hs R):GTabs w base hs (Q1e key R):=by
 refine ⟨by rw [h.1];simp [Q1e],fun i hi=> ?_⟩
 have a:i < R.length:=by simpa [Q1e] using hi
 obtain ⟨c,d,b,e,f,h2⟩:=h.2 i a;rw [Q2X _ _ _ a];exact ⟨c,d,b,by rw [Q1Q];exact e,by rw [Q1Q];exact f,QbW h2⟩
def Q65 (cs:List Cd) (a:Nat):Nat→List (List Bk)
 |0=> []
 |j+1=> Q0k cs (a+j)::Q65 cs a j
theorem Q2v (cs:List Cd) (a:Nat):∀j,(Q65 cs a j).length=j
 |0=> rfl
 |j+1=> by simp [Q65,Q2v cs a j]
theorem QcU (cs:List Cd) (a j:Nat) (key:Int) (b:j≤2):Q2K key (Q0k cs (a+j))::((Q65 cs a j).map (Q2K key)).take 2=(Q65 cs a (j+1)).map (Q2K key):=by
 rw [List.take_of_length_le (by rw [List.length_map,Q2v];exact b)]
 rfl
theorem Q7L (cs:List Cd):∀n,Q1u cs (n+2)=[Q0k cs (n+2),Q0k cs (n+1),Q0k cs n]
 |0=> rfl
 |n+1=> by rw [Q1u,Q7L cs n];rfl
theorem Qdz (cs:List Cd) (n:Nat):Q1u cs n=Q65 cs (n+1 - 3) (n+1 - (n+1 - 3)):=by
 match n with
 |0=> rfl
 |1=> rfl
 |n+2=>
  rw [Q7L,show n+2+1 - 3=n by omega,show n+2+1 - n=3 by omega];simp [Q65]
theorem Qcq {cs:List Cd} {a:Nat} (h:∀q,q < cs.length+1→Q0e (Q0k cs q)=true):∀j,a+j≤cs.length+1→∀l∈Q65 cs a j,Q0e l=true
 |0,_=> fun l b=> by simp [Q65] at b
 |j+1,hj=> fun l b=> by
  rcases List.mem_cons.1 b with rfl|b
  ·exact h _ (by omega)
  ·exact Qcq h j (by omega) l b
theorem Qea {key:Int} {L:List (List Bk)} (h:∀l∈L,Q0e l=true):(L.map (Q2K key)).map Q4h=Q1e key L:=by
 rw [List.map_map];exact List.map_congr_left (fun l hl=> Q9R key (h l hl))
theorem Q33 {key safe:Int} {cs:List Cd} (h:Q0s key cs safe=true):∀q,q < cs.length+1→Q0e (Q0k cs q)=true∧(Q0k cs q).length≤100:=fun q c=> by
 obtain ⟨l,a⟩:=Q5U (Q1X h) (show q≤cs.length by omega);have b:=Q5t q l (by omega) a;have h2:=(Q0X h).2.1;unfold Q0k;rw [a];exact ⟨b.1,by simp only [Option.getD_some];omega⟩
def bvS (hs:List Hd) (a:Nat):Nat→Value
 |0=> .slice none 0 0
 |j+1=> hv hs (a+j)
theorem QgN (hs:List Hd) (a:Nat):∀(j n:Nat),1≤j→a+(j - 1)=n→bvS hs a j=hv hs n
 |0,n,h,_=> absurd h (by omega)
 |j+1,n,_,h=> by
  rw [←h]
  rfl
theorem Q5O {α:Type} {L:Lay α} {T:TypeId} {w:World} {base:Nat} {o:Option Addr} {n c:Nat} {a:List α} (h:ownL L T w base (.slice o n c) a):a.length≤c∧(o=none→c=0):=by
 rcases h.2 with ⟨e,f⟩|⟨g,cap,b,e,_,_,d,_⟩
 ·injection e with e1 e2 e3
  exact ⟨by omega,fun _=> e3⟩
 ·injection e with e1 e2 e3
  exact ⟨by omega,fun h=> by rw [h] at e1;cases e1⟩
theorem Q9m (v:Value) (m:Jm) (w:World) (hR:RdJm w.heap.size w v m) (aJ:capJm v) (hf:QcZ m):
  Calls Tryz.prog 28 #[v] w fun e w'=> ∃v',e=.returned (.tuple #[v',.bool (Q0s m.key m.l m.safe)])∧InPm w.heap.size w'.heap.size w' v' (Q0Q m)∧Below w.heap.size w w':=by
 have aP:=hR;obtain ⟨vl,rfl,⟨o,c,rfl,r⟩⟩:=aP;clear aJ hR;obtain ⟨key,l,safe⟩:=m;dsimp only at *;have C:=Q01 (show Q0Q ⟨key,l,safe⟩=if Q0s key l safe=true then ⟨key,Q0k l l.length,Q1e key (Q1u l l.length)⟩ else pm0 from rfl);have ah:=Q01 (fun h:Q0s key l safe=true=> And.intro (Q0X h) (And.intro (Q1X h) (And.intro (Q33 h) (Q6b ⟨key,l,safe⟩))));unfold QcZ at hf;dsimp only at hf;obtain ⟨W0,u⟩:∃W,((w.alloc (.cells #[.int .i64 key,.slice o l.length c,.int .i64 safe] 25)).alloc (.cells #[.int .i64 0,.slice none 0 0,.slice none 0 0] 29))=W:=⟨_,rfl⟩;have F:=alb0v0v2 u;have D:=Q01 F
 clear F;have I:=alz0v0v2 u;obtain ⟨z0,z1,z2⟩:=alc3v0v2 u;have g:=alz0v1v2 u;obtain ⟨Y,r1,X⟩:=alc3v1v2 u;obtain ⟨A,z,B⟩:=alf3v1v2 u;have aE:=Q01 (show W0.heap[w.heap.size+1]? =some (.cells #[.int .i64 0,.slice none 0 0,.slice none 0 0] 29 (0,0)) by rw [←u];exact Q1V w _ _ _);have aM:=g;have J:=Q01 (Qav key safe o c l W0 ((r.kept D.out (Kaq _)).le D.out.size) hf);clear r
 cases hj:Q0s key l safe with
 |false=>
  rw [hj] at J C;clear ah hj;go_enter Tryz.func28,Tryz.ntmps28;go_wp2_with fail;refine (J.out).mono ?_;rintro e f ⟨v9,rfl,_,b⟩;replace z0:=bC b z0 I;replace z1:=bC b z1 I;replace z2:=bC b z2 I;replace I:=Kbq I b.size;replace Y:=bC b Y g;replace r1:=bC b r1 g;replace X:=bC b X g;replace A:=bF b A g;replace z:=bF b z g;replace B:=bF b B g;replace g:=Kbq g b.size;replace D:=Q01 (D.out.trans (b.mono D.out.size));clear b;go_wp2
  refine bodyPost_ret (v:=.tuple #[plv 0 (.slice none 0 0) (.slice none 0 0),.bool false]) (by simp [results,Tryz.results28,go_sem,Y,r1,X]) rfl ⟨_,rfl, ?_,Q0w D.out (Nat.le_succ _) _ _ _⟩;rw [C.out,if_neg (by simp)];exact Qas _ _ _ (Q0w D.out (Nat.le_succ _) _ _ _).size
 |true=>
  obtain ⟨⟨hk,hl,h0,h1⟩,aA,ak,aD⟩:=ah.out hj;have af:=Q01 ak;have HK:=Q01 hk;rw [hj] at J C;clear ah hj ak hk aD aA;go_enter Tryz.func28,Tryz.ntmps28;go_wp2_with fail;refine (J.out).mono ?_;rintro e f ⟨v9,rfl,H,b⟩;obtain ⟨hs,am,P⟩:=H (by simp);have G:=Q01 am;have ad:=Q01 P;have aW:=b.size;have ax:=Q01 ((b.block _ aM).trans aE.out);clear H am P;replace z0:=bC b z0 I;replace z1:=bC b z1 I;replace z2:=bC b z2 I;replace I:=Kbq I b.size;replace Y:=bC b Y g;replace r1:=bC b r1 g;replace X:=bC b X g;replace A:=bF b A g
  replace z:=bF b z g;replace B:=bF b B g;replace g:=Kbq g b.size;replace D:=Q01 (D.out.trans (b.mono D.out.size));clear b;have ag:=Q01 ad.out.len;obtain ⟨g9,c9,e9⟩:=Q2N G.out (by rw [ag.out];omega);subst e9;have aN:hs.length≤c9:=(Q5O G.out).1;have aO:g9 < f.heap.size:=(G.out.lt g9 rfl).2;have a4:W0.heap.size≤g9:=(G.out.lt g9 rfl).1;obtain ⟨N,hN⟩:∃N,hs.length=N:=⟨_,rfl⟩;have HN:=Q01 (show N=l.length+1 by rw [←hN];exact ag.out);have a3:=Q01 hN;rw [hN] at aN ⊢
  have aZ:1≤N:=by have:=HN.out;omega
  clear hN;obtain ⟨a,ha⟩:∃a,N - 3=a:=⟨_,rfl⟩
  have aY:a < N:=by omega
  have aU:(a:Int) < (N:Int):=by omega
  have aX:¬(c9=a):=by omega
  have aS:(a:Int)≤(c9:Int):=by omega
  have aV:(a:Int)≤(N:Int):=by omega
  have aC:max (0:Int) ((N:Int) - 3)=(a:Int):=by omega
  have HA:=Q01 ha
  have aL:N≤101:=by have:=HN.out;omega
  clear ha;go_wp2;obtain ⟨W1,R⟩:∃W,f.alloc (.cells #[.int .i64 key,.slice none 0 0,.slice none 0 0] 127)=W:=⟨_,rfl⟩;rw [R];have az:=alx0v0v1 R;have av:=alb0v0v1 R;have ar:=Q01 az;have y:f.heap.size < W1.heap.size:=(Array.getElem?_eq_some_iff.1 ar.out).1;have aK:=Q01 av;clear az av R z0 z1 z2 Y r1 X A z B;obtain ⟨M,hM⟩:∃M,N - a=M:=⟨_,rfl⟩;rw [hM];have HM:=Q01 hM
  have a7:M≤3:=by have:=HA.out;omega
  have aH:1≤M:=by omega
  have a5:a+M=N:=by omega
  clear hM aC
  go_loopw [27] (fun iv wr=> ∃(j:Nat) (oR:Option Addr) (cR:Nat) (ob:Option Addr) (nb cb:Nat),j≤M∧iv=.int .i64 (j:Int)∧Hid (wr.heap[f.heap.size]? =some (.cells #[.int .i64 key,.slice ob nb cb,.slice oR j cR] 127 (0,0)))∧Hid (bvS hs a j=.slice ob nb cb)∧Hid (ownL Q20 188 wr W1.heap.size (.slice oR j cR) ((Q65 l a j).map (Q2K key)))∧Hid (Stp f.heap.size (f.heap.size+1) W1 wr)∧W1.heap.size≤wr.heap.size)
   (fun iv _=> M - (intOf iv).toNat)
  case atStart=> exact ⟨0,none,0,none,0,0,Kcq _,rfl,ar.out,rfl,World.ownsRow_nil _ _ _ _,Stp.refl _,Kaq _⟩
  case round=>
   obtain ⟨j,oR,cR,ob,nb,cb,hj,rfl,O,aQ,ab,al,aa⟩:=hrel;have k:=Q01 (aK.out.trans (al.out.below (Kaq _) (Nat.le_of_lt y)));have p0:wr.cell? ⟨f.heap.size,0,none⟩=some (.int .i64 key):=Q00 O.out 0 _ rfl;have p1:wr.cell? ⟨f.heap.size,1,none⟩=some (.slice ob nb cb):=Q00 O.out 1 _ rfl;have p2:wr.cell? ⟨f.heap.size,2,none⟩=some (.slice oR j cR):=Q00 O.out 2 _ rfl;have x:=Q5O ab.out;rw [List.length_map,Q2v] at x
   by_cases hlt:j < M
   ·skip
    have aT:(j:Int) < (M:Int):=by omega
    have ae:a+j < l.length+1:=by have:=HN.out;omega
    have d:=ad.out.row (a+j) ae;obtain ⟨oK,cK,Z,rK⟩:=ownL.open (L:=Q1d) d;have V:=Q5s (Z ▸ d);have aj:=bC k.out (Q2U G.out (a+j) (by rw [ag.out];exact ae)) aO;rw [Z] at aj;have au:=Q01 Z;have p:=af.out (a+j) ae;have hw:=Q9E key ob nb cb oR cR oK cK (Q0k l (a+j)) wr ((Q65 l a j).map (Q2K key)) (by rw [List.length_map,Q2v];omega) (ownL.rds (L:=Q20) ab.out) (by rw [List.length_map,Q2v];exact x.1) x.2 ((rK.kept k.out (Kaq _)).le (Kdq (Nat.le_of_lt y) aa)) (by omega) HK.out p.1;rw [QcU l a j key (by omega)] at hw
    simp only [List.length_map,Q2v] at hw;have HW:=Q01 hw;clear hw p rK d Z;obtain ⟨nk,ap⟩:∃n,(Q0k l (a+j)).length=n:=⟨_,rfl⟩;rw [ap] at aj HW au;clear ap;go_wp2_with fail;refine HW.out.mono ?_;rintro e v2 ⟨o2,c2,rfl,aw,U⟩;have aR:=U.size;have i:=(U.block _ (show f.heap.size < wr.heap.size by omega)).trans O.out;have a0:v2.cell? ⟨f.heap.size,0,none⟩=some (.int .i64 key):=Q00 i 0 _ rfl;have f0:=Q02 i 0;have a1:v2.cell? ⟨f.heap.size,1,none⟩=some (.slice ob nb cb):=Q00 i 1 _ rfl;have f1:=Q02 i 1
    have a2:v2.cell? ⟨f.heap.size,2,none⟩=some (.slice oR j cR):=Q00 i 2 _ rfl;have f2:=Q02 i 2;have aG:Hid ((setP v2 f.heap.size (.int .i64 key) (.slice oK nk cK) (.slice o2 (j+1) c2)).heap[f.heap.size]? =some (.cells #[.int .i64 key,.slice oK nk cK,.slice o2 (j+1) c2] 127 (0,0))):=Q06 (Q06 (Q06 i 0 _) 1 _) 2 _;have HO9':=Q01 (Q0o (Q0o (Q0o (Q04 aw aa) y 0 (.int .i64 key)) y 1 (.slice oK nk cK)) y 2 (.slice o2 (j+1) c2));have HS9':=Q01 ((al.out.trans (Stp.of U)).trans (Q3f v2 f.heap.size (.int .i64 key) (.slice oK nk cK) (.slice o2 (j+1) c2)))
    have P:W1.heap.size≤v2.heap.size:=by omega
    clear aw U i p0 p1 p2;go_wp2;go_roundw
    case rel=> exact ⟨j+1,o2,c2,oK,nk,cK,by omega,by go_num,aG.out,au.out,HO9'.out,HS9'.out,by simpa using P⟩
    case measure=> simp [intOf];omega
   ·skip
    have e:j=M:=by omega
    subst e
    have aI:a+(j - 1)=l.length:=by have:=HN.out;omega
    have d:=ad.out.row l.length (by omega);obtain ⟨oK,cK,Z,rK⟩:=ownL.open (L:=Q1d) d;have V:=Q5s (Z ▸ d);have aq:=QgN hs a j l.length aH aI;rw [aQ.out,Z] at aq;injection aq with e1 e2 e3;subst e1 e2 e3;have p:=af.out l.length (by omega);have hp:=Q5R key ob cb (Q0k l l.length) oR cR ((Q65 l a j).map (Q2K key)) wr ((rK.kept k.out (Kaq _)).le (Kdq (Nat.le_of_lt y) aa)) V (by omega) (ownL.rds (L:=Q20) ab.out) (by rw [List.length_map,Q2v];omega);rw [Qea (Qcq (fun q hq=> (af.out q hq).1) j (by have:=HN.out;omega))] at hp;simp only [List.length_map,Q2v] at hp
    have E:Q65 l a j=Q1u l l.length:=by rw [Qdz,←HN.out,HA.out,HM.out]
    rw [E] at hp;have HP:=Q01 hp;clear hp E d Z rK p;obtain ⟨sv,p⟩:∃s,Q0k l l.length=s:=⟨_,rfl⟩;rw [p] at HP C p1;obtain ⟨rg,ay⟩:∃s,Q1e key (Q1u l l.length)=s:=⟨_,rfl⟩;rw [ay] at HP C;clear p ay;go_wp2_with fail;refine HP.out.mono ?_;rintro e v3 ⟨v9,rfl,an,T⟩;have ao:=Q01 an;have a6:=T.size;clear an;obtain ⟨o9,aF,ai,ac,e9⟩:∃(o9:Option Addr) (c9:Nat) (ai:Option Addr) (ac:Nat),v9=plv key (.slice o9 sv.length c9) (.slice ai rg.length ac):=ao.out.opn;subst e9
    have t:=(T.block _ (show w.heap.size+1 < wr.heap.size by omega)).trans ((k.out.block _ (show w.heap.size+1 < f.heap.size by omega)).trans ax.out);have Y:v3.cell? ⟨w.heap.size+1,0,none⟩=some (.int .i64 0):=Q00 t 0 _ rfl;have A:=Q02 t 0;have r1:v3.cell? ⟨w.heap.size+1,1,none⟩=some (.slice none 0 0):=Q00 t 1 _ rfl;have z:=Q02 t 1;have X:v3.cell? ⟨w.heap.size+1,2,none⟩=some (.slice none 0 0):=Q00 t 2 _ rfl;have B:=Q02 t 2;have aB:=Q01 ((D.out.trans (k.out.mono D.out.size)).trans (T.mono (by omega)));clear T t;go_wp2
    refine bodyPost_ret (v:=.tuple #[plv key (.slice o9 sv.length aF) (.slice ai rg.length ac),.bool true]) (by simp [results,Tryz.results28,go_sem,Y,r1,X]) rfl ⟨_,rfl, ?_,Q0w aB.out (Nat.le_succ _) _ _ _⟩;rw [C.out,if_pos trivial,Q2V];exact InPm.mono (ao.out.step (Q3f v3 (w.heap.size+1) _ _ _) (.inl (by omega))) (by omega)
def RcPm (lo hi:Nat) (w:World) (v:Value) (m:Pm):Prop:=∃vb vr,v=plv m.key vb vr∧RiV Q1d lo hi w vb m.l∧Qip vb∧RcR lo hi w vr m.ring∧Qip vr
theorem InT.rc {lo hi:Nat} {w:World} {v:Value} {ll:List (List Int)} (h:InT lo hi w v ll):RcT lo hi w v ll:=InRows.ri RcI.mon (fun q=> ⟨InRow.ri q,InRow.cap q⟩) h
theorem InR.rc {lo hi:Nat} {w:World} {v:Value} {ll:List (List (List Int))} (h:InR lo hi w v ll):RcR lo hi w v ll:=InRows.ri RcT.mon (fun q=> InT.rc q) h
theorem InPm.rc {lo hi:Nat} {w:World} {v:Value} {m:Pm} (h:InPm lo hi w v m):RcPm 0 hi w v m:=by
 obtain ⟨d,b,c,e,i,g,a,h2⟩:=h;obtain ⟨hs,L,H,f,_⟩:=id h2;exact ⟨d,b,e,(InRow.ri a).mono (Kcq _) g,InRow.cap a,RcR.mon.go (InR.rc h2) (Kcq _) (Kaq _),InRow.cap f⟩
theorem RcPm.le {lo C D:Nat} {w:World} {v:Value} {m:Pm} (h:RcPm lo C w v m) (a:C≤D):RcPm lo D w v m:=by
 obtain ⟨d,b,e,f,h2,c,g⟩:=h;exact ⟨d,b,e,f.mono (Kaq _) a,h2,RcR.mon.go c (Kaq _) a,g⟩
theorem RcPm.kept {lo C D:Nat} {w b:World} {v:Value} {m:Pm} (h:RcPm lo C w v m) (a:Below D w b) (j:C≤D):RcPm lo C b v m:=by
 obtain ⟨d,c,e,i,h2,f,g⟩:=h;have s:Stp C (w.heap.size+C) w b:=⟨a.os,a.tape,a.output,a.size,fun k n l=> a.block k (by omega)⟩;exact ⟨d,c,e,i.step s (.inr (Kaq _)),h2,RcR.stp.go f s (.inr (Kaq _)),g⟩
theorem RcPm.mono {a b g c:Nat} {w:World} {v:Value} {m:Pm} (h:RcPm a b w v m) (d:g≤a) (f:b≤c):RcPm g c w v m:=by
 obtain ⟨k,i,e,n,h2,j,l⟩:=h;exact ⟨k,i,e,n.mono d f,h2,RcR.mon.go j d f,l⟩
theorem RcPm.step {a b lo hi:Nat} {w d:World} {v:Value} {m:Pm} (h:RcPm a b w v m) (s:Stp lo hi w d) (c:hi≤a∨b≤lo):RcPm a b d v m:=by
 obtain ⟨i,f,e,k,h2,g,j⟩:=h;exact ⟨i,f,e,k.step s c,h2,RcR.stp.go g s c,j⟩
theorem Q6X {w:World} {base:Nat} {key:Int} {l:List Bk} {hs:List Hd} {a:List (List (List Int))} {d g:Option Addr} {b c2 n c:Nat} (i:b=l.length) (f:Q1w w base (.slice d b c2) l) (h2:ownL Q0H 51 w base (.slice g n c) hs) (h:GTabs w base hs a):RcPm base w.heap.size w (plv key (.slice d b c2) (.slice g n c)) ⟨key,l,a⟩:=by
 subst i;exact ⟨_,_,rfl,InRow.ri (InRow.of f),InRow.cap (InRow.of f),GTabs.rc h h2,InRow.cap (InRow.of h2)⟩
theorem Qfw {w:World} {base:Nat} {key:Int} {l:List Bk} {b:Option Addr} {a c2:Nat} (f:a=l.length) (d:Q1w w base (.slice b a c2) l):RcPm base w.heap.size w (plv key (.slice b a c2) (.slice none 0 0)) ⟨key,l,[]⟩:=by
 subst f;exact ⟨_,_,rfl,InRow.ri (InRow.of d),InRow.cap (InRow.of d),⟨[],rfl,⟨none,0,rfl,.inl rfl⟩,fun i h=> absurd h (Nat.not_lt_zero _)⟩,fun n c e=> by injection e with _ _ e3;exact e3.symm⟩
theorem RcPm.opn {lo hi:Nat} {w:World} {v:Value} {m:Pm} (h:RcPm lo hi w v m):∃(o:Option Addr) (c:Nat) (a:Option Addr) (b:Nat),v=plv m.key (.slice o m.l.length c) (.slice a m.ring.length b):=by
 obtain ⟨i,g,e,⟨o,c,d,_⟩,_,h2,_⟩:=h;obtain ⟨a,b,f⟩:=RiR.len (RcR.ri h2);exact ⟨o,c,a,b,by rw [e,d,f]⟩
theorem RcPm.rd {lo hi:Nat} {w:World} {v:Value} {m:Pm} (h:RcPm lo hi w v m):Q86 hi w v m:=by
 obtain ⟨b,a,e,c,_,h2,_⟩:=h;exact ⟨b,a,e,c.mono (Kcq _) (Kaq _),RiR.mon.go (RcR.ri h2) (Kcq _) (Kaq _)⟩
theorem Qcg (key:Int) (o:Option Addr) (cap:Nat) (l:List Bk) (d:Option Addr) (f:Nat) (a:List (List (List Int))) (n:Nat) (g:n=a.length) (w:World) (t:RdK w.heap.size w o l) (q:o=none→cap=0) (b:l.length≤1048576) (m:RcR 0 w.heap.size w (.slice d n f) a) (k:n≤1048576) (r:∀i,i < a.length→(a.getD i []).length≤1048576) (h:∀i,i < a.length→∀j,j < (a.getD i []).length→((a.getD i []).getD j []).length≤1048576):
  Calls Tryz.prog 165 #[plv key (.slice o l.length cap) (.slice d n f)] w fun e c=> ∃v,e=.returned v∧RcPm w.heap.size c.heap.size c v ⟨key,l,a⟩∧Below w.heap.size w c:=by
 refine (QcP key o cap l d f a n g w t q b m k r h).mono ?_;rintro e c ⟨y,c2,z,x,hs,rfl,u,h2,p,s⟩;exact ⟨_,rfl,Q6X rfl u h2 p,s⟩
theorem Q6p {lo hi:Nat} {w:World} {v:Value} {m:Bm} (h:InBm lo hi w v m) (P:hi≤w.heap.size):∃(o:Option Addr) (c:Nat) (a:Option Addr) (d:Nat) (f:Option Addr) (g:Nat) (b:Option Addr) (r:Nat),v=Q13 m.j.key (.slice o m.j.l.length c) m.j.safe m.p.key (.slice a m.p.l.length d) (.slice f m.p.ring.length g) (.slice b m.t.length r)∧RdC w.heap.size w o m.j.l∧(o=none→c=0)∧Q86 w.heap.size w (plv m.p.key (.slice a m.p.l.length d) (.slice f m.p.ring.length g)) m.p∧RdS w.heap.size w b m.t:=by
 obtain ⟨N,M,G,U,O,T,L,R,H,J,e,I,u,y,D⟩:=h;have F:=u.cap;obtain ⟨B,s,o,c,k,E⟩:=u.rd;obtain ⟨a,d,f,g,x⟩:=y.opn;obtain ⟨C,z,b,r,i,A⟩:=D.rd;simp only [Value.agg.injEq,Array.mk.injEq,List.cons.injEq,and_true,true_and] at s x z;obtain ⟨q,n⟩:=x;subst s k z i q n;exact ⟨o,c,a,d,f,g,b,r,e,E.le (by omega),capJm.one F,y.rd.le (by omega),A.le (by omega)⟩
end Go.Proofs.YtpneolgdghbinaaGreat
