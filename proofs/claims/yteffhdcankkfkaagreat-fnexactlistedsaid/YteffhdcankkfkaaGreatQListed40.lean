/- Several texts in one: SAg, SGet. -/
import Derived.Test.YteffhdcankkfkaaGreatQListed39
namespace Go.Proofs.YteffhdcankkfkaaGreat
open Go.ChangeShapes Go.WideShapes Go.ChangeAt Go.RowKit Go.Joins
set_option linter.unusedVariables false
set_option linter.unusedSimpArgs false
set_option maxRecDepth 100000
set_option maxHeartbeats 40000000
def Q1f (m:Am):Bool:=decide (0<=m.id) && decide (m.id < 6) && decide (0<=m.lim) && decide (m.lim<=16) && Q0k m.c && Q0k m.t
theorem Q1X {m:Am}:Q1f m=true↔(0<=m.id/\m.id < 6/\0<=m.lim/\m.lim<=16/\Q0k m.c=true/\Q0k m.t=true/\True):=by simp[Q1f,and_assoc]
theorem Q8Y {m:Am} (h1:0<=m.id) (h2:m.id < 6) (h3:0<=m.lim) (h4:m.lim<=16):Q1f m=(Q0k m.c && Q0k m.t):=by simp[Q1f,h1,h2,h3,h4]
theorem Q8A (m:Am):Q1f m=((decide (0<=m.id) && decide (m.id < 6)) && (decide (0<=m.lim) && decide (m.lim<=16)) && (Q0k m.c && Q0k m.t)):=by simp[Q1f,Bool.and_assoc]
theorem Q7C (v:Value) (m:Am) (w:World) (F:RdA w.heap.size w v m) (I:m.c.length+m.t.length<=1048576):
  Calls Tryz.prog 71 #[v] w fun e H=>e=.returned (.bool (Q1f m))/\Below w.heap.size w H:=by
 obtain⟨J,L,rfl,⟨B,z,rfl,rc⟩,⟨C,A,rfl,D⟩⟩:=F;obtain⟨E,k⟩:∃W,(w.alloc (.cells #[.int .i64 m.id,.int .i64 m.lim,.bool m.dr,.slice B m.c.length z,.slice C m.t.length A] 83))=W:=⟨_,rfl⟩;have i:=alb0v0v1 k;have d:=Q00 i;clear i;have b:=alz0v0v1 k;obtain⟨l,n,p,r,s⟩:=alc5v0v1 k;have f:=Q2j B z m.c E ((rc.kept d.out (Kaq _)).le d.out.size) (by omega)
 have u:=fun W (h:Below w.heap.size w W)=>Q2j C A m.t W ((D.kept h (Kaq _)).le h.size) (by omega)
 have g:=Q00 u;clear u rc D
 by_cases h1:0<=m.id
 ·by_cases h2:m.id < 6
  ·by_cases h3:0<=m.lim
   ·by_cases h4:m.lim<=16
    ·have y:=Q00 (Q8Y h1 h2 h3 h4)
     generalize Q0k m.c=t1 at *
     cases t1 with
     |false=>
      go_enter Tryz.func71,Tryz.ntmps71;go_wp2_with fail;refine(f).mono ?_;rintro e x ⟨rfl,a⟩;replace l:=bKq0v0v0 a l b;replace n:=bKq0v0v0 a n b;replace p:=bKq0v0v0 a p b;replace r:=bKq0v0v0 a r b;replace s:=bKq0v0v0 a s b;replace b:w.heap.size < x.heap.size:=Kbq b a.size;replace d:=Q00 (d.out.trans (a.mono d.out.size));clear a;go_wp2;go_ret;exact⟨by rw[y.out];rfl,d.out⟩
     |true=>
      go_enter Tryz.func71,Tryz.ntmps71;go_wp2_with fail;refine(f).mono ?_;rintro e x ⟨rfl,a⟩;replace l:=bKq0v0v0 a l b;replace n:=bKq0v0v0 a n b;replace p:=bKq0v0v0 a p b;replace r:=bKq0v0v0 a r b;replace s:=bKq0v0v0 a s b;replace b:w.heap.size < x.heap.size:=Kbq b a.size;replace d:=Q00 (d.out.trans (a.mono d.out.size));clear a;go_wp2_with fail;refine(g.out x d.out).mono ?_;rintro e G ⟨rfl,a⟩;replace l:=bKq0v0v0 a l b;replace n:=bKq0v0v0 a n b;replace p:=bKq0v0v0 a p b;replace r:=bKq0v0v0 a r b;replace s:=bKq0v0v0 a s b
      replace b:w.heap.size < G.heap.size:=Kbq b a.size;replace d:=Q00 (d.out.trans (a.mono d.out.size));clear a;go_wp2
      all_goals go_ret
      all_goals exact⟨by rw[y.out];first|rfl|simp,d.out⟩
    ·have j:=Q00 (Q13 (Q1X (m:=m)) (fun q=>h4 q.2.2.2.1))
     clear f g;go_enter Tryz.func71,Tryz.ntmps71;go_wp2
     all_goals go_ret
     all_goals exact⟨Q03 j.out,d.out⟩
   ·have j:=Q00 (Q13 (Q1X (m:=m)) (fun q=>h3 q.2.2.1))
    clear f g;go_enter Tryz.func71,Tryz.ntmps71;go_wp2
    all_goals go_ret
    all_goals exact⟨Q03 j.out,d.out⟩
  ·have j:=Q00 (Q13 (Q1X (m:=m)) (fun q=>h2 q.2.1))
   clear f g;go_enter Tryz.func71,Tryz.ntmps71;go_wp2
   all_goals go_ret
   all_goals exact⟨Q03 j.out,d.out⟩
 ·have j:=Q00 (Q13 (Q1X (m:=m)) (fun q=>h1 q.1))
  clear f g;go_enter Tryz.func71,Tryz.ntmps71;go_wp2
  all_goals go_ret
  all_goals exact⟨Q03 j.out,d.out⟩
theorem Q77 (n:Int) (w:World):Calls Tryz.prog 62 #[.int .i64 n] w fun e a=>e=.returned (.bool (decide (0<=n) && decide (n < 6)))/\w=a:=by
 go_enter Tryz.func62,Tryz.ntmps62;go_wp2
 all_goals go_ret
 all_goals refine⟨Q03 ?_,rfl⟩
 all_goals first|(simp[*];done)|(simp;omega)
theorem QbD (n:Int) (w:World):Calls Tryz.prog 63 #[.int .i64 n] w fun e a=>e=.returned (.bool (decide (0<=n) && decide (n<=16)))/\w=a:=by
 go_enter Tryz.func63,Tryz.ntmps63;go_wp2
 all_goals go_ret
 all_goals refine⟨Q03 ?_,rfl⟩
 all_goals first|(simp[*];done)|(simp;omega)
abbrev agi (vc vt:Value) (i l:Int) (d:Bool):Value:=.agg #[vc,vt,.int .i64 i,.int .i64 l,.bool d]
def OwnG (lo hi:Nat) (w:World) (v:Value) (m:Am):Prop:=∃g h mid,v=agi (.slice (some ⟨g,0,none⟩) m.c.length m.c.length) (.slice (some ⟨h,0,none⟩) m.t.length m.t.length) m.id m.lim m.dr/\QiY lo mid w (.slice (some ⟨g,0,none⟩) m.c.length m.c.length) m.c/\QiY mid hi w (.slice (some ⟨h,0,none⟩) m.t.length m.t.length) m.t/\lo<=mid/\mid<=hi
theorem OwnG.step {a b lo hi:Nat} {w d:World} {v:Value} {m:Am} (h:OwnG a b w v m) (s:Stp lo hi w d) (l:hi<=a\/b<=lo):OwnG a b d v m:=by
 obtain⟨g,f,c,e,i,h2,j,k⟩:=h;exact⟨g,f,c,e,InRow.step i s (by omega),InRow.step h2 s (by omega),j,k⟩
theorem OwnG.mono {a b a' b':Nat} {w:World} {v:Value} {m:Am} (h:OwnG a b w v m) (d:a'<=a) (h2:b<=b'):OwnG a' b' w v m:=by
 obtain⟨g,f,c,e,k,l,i,j⟩:=h;exact⟨g,f,c,e,InRow.mono k d (Kaq _),InRow.mono l (Kaq _) h2,Kdq d i,Kdq j h2⟩
theorem Q8p (v:Value) (m:Am) (w:World) (hR:RdA w.heap.size w v m) (hf:m.c.length+m.t.length<=1048576):
  Calls Tryz.prog 163 #[v] w fun e w'=> ∃o1 n1 c1 o2 n2 c2 i l d,e=.returned (.tuple #[agi (.slice o1 n1 c1) (.slice o2 n2 c2) i l d,.bool (Q1f m)])/\(Q1f m=true->OwnG w.heap.size w'.heap.size w' (agi (.slice o1 n1 c1) (.slice o2 n2 c2) i l d) m)/\Below w.heap.size w w':=by
 obtain⟨vc,vt,rfl,⟨oc,cc,rfl,rc⟩,⟨ot,ct,rfl,rt⟩⟩:=hR;obtain⟨W0,U⟩:∃W,((w.alloc (.cells #[.int .i64 m.id,.int .i64 m.lim,.bool m.dr,.slice oc m.c.length cc,.slice ot m.t.length ct] 83)).alloc (.cells #[.slice none 0 0,.slice none 0 0,.int .i64 0,.int .i64 0,.bool false] 132))=W:=⟨_,rfl⟩;have X:=alb0v0v2 U;have z:=Q00 X;clear X;have q:=alz0v0v2 U;obtain⟨M,N,O,P,R⟩:=alc5v0v2 U;have k:=alz0v1v2 U;obtain⟨F,G,H,I,J⟩:=alc5v1v2 U;obtain⟨r,s,u,x,y⟩:=alf5v1v2 U;have af:w.heap.size+1 < W0.heap.size:=k
 have h1:=Q4w oc cc m.c W0 ((rc.kept z.out (Kaq _)).le z.out.size) (by omega)
 have h2:=fun W (h:Below w.heap.size w W)=>Q4w ot ct m.t W ((rt.kept h (Kaq _)).le h.size) (by omega)
 have H2:=Q00 h2
 have aa:=fun W=>Q77 m.id W
 have ab:=fun W=>QbD m.lim W
 have HE:=Q00 (Q8A m);clear h2 rc rt;generalize (decide (0<=m.id) && decide (m.id < 6))=bk at *;generalize (decide (0<=m.lim) && decide (m.lim<=16))=bl at *;generalize Q0k m.c=t1 at *;generalize Q0k m.t=t2 at *
 by_cases hall:(bk && bl && (t1 && t2))=true
 ·obtain⟨rfl,rfl,rfl,rfl⟩:bk=true/\bl=true/\t1=true/\t2=true:=by cases bk <;> cases bl <;> cases t1 <;> cases t2 <;> simp_all
  go_enter Tryz.func163,Tryz.ntmps163;go_wp2_with fail;refine(h1).mono ?_;rintro e C ⟨o1,n1,c1,rfl,Y,n⟩;obtain⟨g,rfl,rfl,rfl,A⟩:=Y (by simp);have HO:=Q00 A;have ag:=(A.lt g rfl).1;have ac:=(A.lt g rfl).2;clear A Y;replace M:=bKq0v0v0 n M q;replace N:=bKq0v0v0 n N q;replace O:=bKq0v0v0 n O q;replace P:=bKq0v0v0 n P q;replace R:=bKq0v0v0 n R q;replace q:w.heap.size < C.heap.size:=Kbq q n.size;replace F:=bKq0v0v0 n F k;replace G:=bKq0v0v0 n G k;replace H:=bKq0v0v0 n H k;replace I:=bKq0v0v0 n I k;replace J:=bKq0v0v0 n J k
  replace r:C.frozen? ⟨w.heap.size+1,0,none⟩=false:=(n.frozen (p:=⟨w.heap.size+1,0,none⟩) k).trans r;replace s:C.frozen? ⟨w.heap.size+1,1,none⟩=false:=(n.frozen (p:=⟨w.heap.size+1,1,none⟩) k).trans s;replace u:C.frozen? ⟨w.heap.size+1,2,none⟩=false:=(n.frozen (p:=⟨w.heap.size+1,2,none⟩) k).trans u;replace x:C.frozen? ⟨w.heap.size+1,3,none⟩=false:=(n.frozen (p:=⟨w.heap.size+1,3,none⟩) k).trans x;replace y:C.frozen? ⟨w.heap.size+1,4,none⟩=false:=(n.frozen (p:=⟨w.heap.size+1,4,none⟩) k).trans y;replace k:w.heap.size+1 < C.heap.size:=Kbq k n.size
  replace z:=Q00 (z.out.trans (n.mono z.out.size));clear n;obtain⟨B,L⟩:∃W,(C.alloc (.cells #[.slice (some ⟨g,0,none⟩) m.c.length m.c.length] 119))=W:=⟨_,rfl⟩;have j:=alb0v0v1 L;replace M:=bKq0v0v0 j M q;replace N:=bKq0v0v0 j N q;replace O:=bKq0v0v0 j O q;replace P:=bKq0v0v0 j P q;replace R:=bKq0v0v0 j R q;replace q:w.heap.size < B.heap.size:=Kbq q j.size;replace F:=bKq0v0v0 j F k;replace G:=bKq0v0v0 j G k;replace H:=bKq0v0v0 j H k;replace I:=bKq0v0v0 j I k;replace J:=bKq0v0v0 j J k
  replace r:B.frozen? ⟨w.heap.size+1,0,none⟩=false:=(j.frozen (p:=⟨w.heap.size+1,0,none⟩) k).trans r;replace s:B.frozen? ⟨w.heap.size+1,1,none⟩=false:=(j.frozen (p:=⟨w.heap.size+1,1,none⟩) k).trans s;replace u:B.frozen? ⟨w.heap.size+1,2,none⟩=false:=(j.frozen (p:=⟨w.heap.size+1,2,none⟩) k).trans u;replace x:B.frozen? ⟨w.heap.size+1,3,none⟩=false:=(j.frozen (p:=⟨w.heap.size+1,3,none⟩) k).trans x;replace y:B.frozen? ⟨w.heap.size+1,4,none⟩=false:=(j.frozen (p:=⟨w.heap.size+1,4,none⟩) k).trans y
  replace k:w.heap.size+1 < B.heap.size:=Kbq k j.size;replace HO:=Q00 (Q0a HO.out j);replace z:=Q00 (z.out.trans (j.mono z.out.size));clear j;have V:=alz0v0v1 L
  have x0:B.cell? ⟨C.heap.size,0,none⟩=some (.slice (some ⟨g,0,none⟩) m.c.length m.c.length):=by rw[<-L];simp[go_sem]
  go_wp2_with fail;refine(H2.out B z.out).mono ?_;rintro e E ⟨o2,n2,c2,rfl,Z,n⟩;obtain⟨h,rfl,rfl,rfl,A⟩:=Z (by simp);have HP:=Q00 A;have ai:=(A.lt h rfl).1;clear A Z
  have ah:g < B.heap.size:=by have h:=ac;rw[<-L];simp;omega
  replace M:=bKq0v0v0 n M q;replace N:=bKq0v0v0 n N q;replace O:=bKq0v0v0 n O q;replace P:=bKq0v0v0 n P q;replace R:=bKq0v0v0 n R q;replace q:w.heap.size < E.heap.size:=Kbq q n.size;replace F:=bKq0v0v0 n F k;replace G:=bKq0v0v0 n G k;replace H:=bKq0v0v0 n H k;replace I:=bKq0v0v0 n I k;replace J:=bKq0v0v0 n J k;replace r:E.frozen? ⟨w.heap.size+1,0,none⟩=false:=(n.frozen (p:=⟨w.heap.size+1,0,none⟩) k).trans r;replace s:E.frozen? ⟨w.heap.size+1,1,none⟩=false:=(n.frozen (p:=⟨w.heap.size+1,1,none⟩) k).trans s
  replace u:E.frozen? ⟨w.heap.size+1,2,none⟩=false:=(n.frozen (p:=⟨w.heap.size+1,2,none⟩) k).trans u;replace x:E.frozen? ⟨w.heap.size+1,3,none⟩=false:=(n.frozen (p:=⟨w.heap.size+1,3,none⟩) k).trans x;replace y:E.frozen? ⟨w.heap.size+1,4,none⟩=false:=(n.frozen (p:=⟨w.heap.size+1,4,none⟩) k).trans y;replace k:w.heap.size+1 < E.heap.size:=Kbq k n.size;replace x0:=bKq0v0v0 n x0 V;replace V:C.heap.size < E.heap.size:=Kbq V n.size;replace HO:=Q00 (Q0a HO.out n);replace z:=Q00 (z.out.trans (n.mono z.out.size));clear n
  obtain⟨D,T⟩:∃W,(E.alloc (.cells #[.slice (some ⟨h,0,none⟩) m.t.length m.t.length] 119))=W:=⟨_,rfl⟩;have f:=alb0v0v1 T;replace M:=bKq0v0v0 f M q;replace N:=bKq0v0v0 f N q;replace O:=bKq0v0v0 f O q;replace P:=bKq0v0v0 f P q;replace R:=bKq0v0v0 f R q;replace q:w.heap.size < D.heap.size:=Kbq q f.size;replace F:=bKq0v0v0 f F k;replace G:=bKq0v0v0 f G k;replace H:=bKq0v0v0 f H k;replace I:=bKq0v0v0 f I k;replace J:=bKq0v0v0 f J k
  replace r:D.frozen? ⟨w.heap.size+1,0,none⟩=false:=(f.frozen (p:=⟨w.heap.size+1,0,none⟩) k).trans r;replace s:D.frozen? ⟨w.heap.size+1,1,none⟩=false:=(f.frozen (p:=⟨w.heap.size+1,1,none⟩) k).trans s;replace u:D.frozen? ⟨w.heap.size+1,2,none⟩=false:=(f.frozen (p:=⟨w.heap.size+1,2,none⟩) k).trans u;replace x:D.frozen? ⟨w.heap.size+1,3,none⟩=false:=(f.frozen (p:=⟨w.heap.size+1,3,none⟩) k).trans x;replace y:D.frozen? ⟨w.heap.size+1,4,none⟩=false:=(f.frozen (p:=⟨w.heap.size+1,4,none⟩) k).trans y
  replace k:w.heap.size+1 < D.heap.size:=Kbq k f.size;replace x0:=bKq0v0v0 f x0 V;replace V:C.heap.size < D.heap.size:=Kbq V f.size;replace HO:=Q00 (Q0a HO.out f);replace HP:=Q00 (Q0a HP.out f);replace z:=Q00 (z.out.trans (f.mono z.out.size));clear f;have zy:=alz0v0v1 T
  have y0:D.cell? ⟨E.heap.size,0,none⟩=some (.slice (some ⟨h,0,none⟩) m.t.length m.t.length):=by rw[<-T];simp[go_sem]
  have ad:W0.heap.size<=B.heap.size:=by omega
  have ae:=(HP.out.lt h rfl).2;go_wp2_with (first|(go_at_call 62;refine(aa _).mono ?_;rintro e w9 ⟨rfl,rfl⟩)|(go_at_call 63;refine(ab _).mono ?_;rintro e w9 ⟨rfl,rfl⟩));refine bodyPost_ret (v:=.tuple #[agi (.slice (some ⟨g,0,none⟩) m.c.length m.c.length) (.slice (some ⟨h,0,none⟩) m.t.length m.t.length) m.id m.lim m.dr,.bool true]) (by simp[results,Tryz.results163,go_sem,F,G,H,I,J]) rfl ⟨_,_,_,_,_,_,_,_,_,by rw[HE.out];rfl,fun _=>?_, ?_⟩
  ·refine⟨g,h,B.heap.size,rfl,InRow.mono (InRow.step (a:=W0.heap.size) (b:=B.heap.size) ⟨HO.out,fun b e=>by simp[Value.ownBlock]at e;omega⟩ (Q4D D (w.heap.size+1) _ _ _ _ _) (.inl (by omega))) (by omega) (Kaq _),InRow.mono (InRow.step (a:=B.heap.size) (b:=D.heap.size) ⟨HP.out,fun b e=>by simp[Value.ownBlock]at e;omega⟩ (Q4D D (w.heap.size+1) _ _ _ _ _) (.inl (by omega))) (Kaq _) (by rw[Q88];exact Kaq _),by omega,by rw[Q88];omega⟩
  ·exact Q4d z.out (by omega) _ _ _ _ _
 ·have HN:Hid (Q1f m=false):=by unfold Hid;rw[HE.out];simpa using hall
  go_enter Tryz.func163,Tryz.ntmps163;go_wp2_with fail;refine(h1).mono ?_;rintro e C ⟨o1,n1,c1,rfl,Y,n⟩;clear Y;replace M:=bKq0v0v0 n M q;replace N:=bKq0v0v0 n N q;replace O:=bKq0v0v0 n O q;replace P:=bKq0v0v0 n P q;replace R:=bKq0v0v0 n R q;replace q:w.heap.size < C.heap.size:=Kbq q n.size;replace F:=bKq0v0v0 n F k;replace G:=bKq0v0v0 n G k;replace H:=bKq0v0v0 n H k;replace I:=bKq0v0v0 n I k;replace J:=bKq0v0v0 n J k;replace r:C.frozen? ⟨w.heap.size+1,0,none⟩=false:=(n.frozen (p:=⟨w.heap.size+1,0,none⟩) k).trans r
  replace s:C.frozen? ⟨w.heap.size+1,1,none⟩=false:=(n.frozen (p:=⟨w.heap.size+1,1,none⟩) k).trans s;replace u:C.frozen? ⟨w.heap.size+1,2,none⟩=false:=(n.frozen (p:=⟨w.heap.size+1,2,none⟩) k).trans u;replace x:C.frozen? ⟨w.heap.size+1,3,none⟩=false:=(n.frozen (p:=⟨w.heap.size+1,3,none⟩) k).trans x;replace y:C.frozen? ⟨w.heap.size+1,4,none⟩=false:=(n.frozen (p:=⟨w.heap.size+1,4,none⟩) k).trans y;replace k:w.heap.size+1 < C.heap.size:=Kbq k n.size;replace z:=Q00 (z.out.trans (n.mono z.out.size));clear n
  obtain⟨B,L⟩:∃W,(C.alloc (.cells #[.slice o1 n1 c1] 119))=W:=⟨_,rfl⟩;have j:=alb0v0v1 L;replace M:=bKq0v0v0 j M q;replace N:=bKq0v0v0 j N q;replace O:=bKq0v0v0 j O q;replace P:=bKq0v0v0 j P q;replace R:=bKq0v0v0 j R q;replace q:w.heap.size < B.heap.size:=Kbq q j.size;replace F:=bKq0v0v0 j F k;replace G:=bKq0v0v0 j G k;replace H:=bKq0v0v0 j H k;replace I:=bKq0v0v0 j I k;replace J:=bKq0v0v0 j J k;replace r:B.frozen? ⟨w.heap.size+1,0,none⟩=false:=(j.frozen (p:=⟨w.heap.size+1,0,none⟩) k).trans r
  replace s:B.frozen? ⟨w.heap.size+1,1,none⟩=false:=(j.frozen (p:=⟨w.heap.size+1,1,none⟩) k).trans s;replace u:B.frozen? ⟨w.heap.size+1,2,none⟩=false:=(j.frozen (p:=⟨w.heap.size+1,2,none⟩) k).trans u;replace x:B.frozen? ⟨w.heap.size+1,3,none⟩=false:=(j.frozen (p:=⟨w.heap.size+1,3,none⟩) k).trans x;replace y:B.frozen? ⟨w.heap.size+1,4,none⟩=false:=(j.frozen (p:=⟨w.heap.size+1,4,none⟩) k).trans y;replace k:w.heap.size+1 < B.heap.size:=Kbq k j.size;replace z:=Q00 (z.out.trans (j.mono z.out.size));clear j;have V:=alz0v0v1 L
  have x0:B.cell? ⟨C.heap.size,0,none⟩=some (.slice o1 n1 c1):=by rw[<-L];simp[go_sem]
  go_wp2_with fail;refine(H2.out B z.out).mono ?_;rintro e E ⟨o2,n2,c2,rfl,Z,n⟩;clear Z;replace M:=bKq0v0v0 n M q;replace N:=bKq0v0v0 n N q;replace O:=bKq0v0v0 n O q;replace P:=bKq0v0v0 n P q;replace R:=bKq0v0v0 n R q;replace q:w.heap.size < E.heap.size:=Kbq q n.size;replace F:=bKq0v0v0 n F k;replace G:=bKq0v0v0 n G k;replace H:=bKq0v0v0 n H k;replace I:=bKq0v0v0 n I k;replace J:=bKq0v0v0 n J k;replace r:E.frozen? ⟨w.heap.size+1,0,none⟩=false:=(n.frozen (p:=⟨w.heap.size+1,0,none⟩) k).trans r
  replace s:E.frozen? ⟨w.heap.size+1,1,none⟩=false:=(n.frozen (p:=⟨w.heap.size+1,1,none⟩) k).trans s;replace u:E.frozen? ⟨w.heap.size+1,2,none⟩=false:=(n.frozen (p:=⟨w.heap.size+1,2,none⟩) k).trans u;replace x:E.frozen? ⟨w.heap.size+1,3,none⟩=false:=(n.frozen (p:=⟨w.heap.size+1,3,none⟩) k).trans x;replace y:E.frozen? ⟨w.heap.size+1,4,none⟩=false:=(n.frozen (p:=⟨w.heap.size+1,4,none⟩) k).trans y;replace k:w.heap.size+1 < E.heap.size:=Kbq k n.size;replace x0:=bKq0v0v0 n x0 V;replace V:C.heap.size < E.heap.size:=Kbq V n.size
  replace z:=Q00 (z.out.trans (n.mono z.out.size));clear n;obtain⟨D,T⟩:∃W,(E.alloc (.cells #[.slice o2 n2 c2] 119))=W:=⟨_,rfl⟩;have f:=alb0v0v1 T;replace M:=bKq0v0v0 f M q;replace N:=bKq0v0v0 f N q;replace O:=bKq0v0v0 f O q;replace P:=bKq0v0v0 f P q;replace R:=bKq0v0v0 f R q;replace q:w.heap.size < D.heap.size:=Kbq q f.size;replace F:=bKq0v0v0 f F k;replace G:=bKq0v0v0 f G k;replace H:=bKq0v0v0 f H k;replace I:=bKq0v0v0 f I k;replace J:=bKq0v0v0 f J k
  replace r:D.frozen? ⟨w.heap.size+1,0,none⟩=false:=(f.frozen (p:=⟨w.heap.size+1,0,none⟩) k).trans r;replace s:D.frozen? ⟨w.heap.size+1,1,none⟩=false:=(f.frozen (p:=⟨w.heap.size+1,1,none⟩) k).trans s;replace u:D.frozen? ⟨w.heap.size+1,2,none⟩=false:=(f.frozen (p:=⟨w.heap.size+1,2,none⟩) k).trans u;replace x:D.frozen? ⟨w.heap.size+1,3,none⟩=false:=(f.frozen (p:=⟨w.heap.size+1,3,none⟩) k).trans x;replace y:D.frozen? ⟨w.heap.size+1,4,none⟩=false:=(f.frozen (p:=⟨w.heap.size+1,4,none⟩) k).trans y
  replace k:w.heap.size+1 < D.heap.size:=Kbq k f.size;replace x0:=bKq0v0v0 f x0 V;replace V:C.heap.size < D.heap.size:=Kbq V f.size;replace z:=Q00 (z.out.trans (f.mono z.out.size));clear f;have zy:=alz0v0v1 T
  have y0:D.cell? ⟨E.heap.size,0,none⟩=some (.slice o2 n2 c2):=by rw[<-T];simp[go_sem]
  clear HE
  cases t1 <;> cases t2 <;> cases bk <;> cases bl <;> first|(exfalso;simp at hall;done)|skip
  all_goals (
   clear hall;go_wp2_with (first|(go_at_call 62;refine(aa _).mono ?_;rintro e w9 ⟨rfl,rfl⟩)|(go_at_call 63;refine(ab _).mono ?_;rintro e w9 ⟨rfl,rfl⟩))
   refine bodyPost_ret (v:=.tuple #[agi (.slice none 0 0) (.slice none 0 0) 0 0 false,.bool false]) (by simp[results,Tryz.results163,go_sem,F,G,H,I,J]) rfl ⟨_,_,_,_,_,_,_,_,_,by rw[HN.out],fun h=>absurd (h.symm.trans HN.out) (by decide),Q4d z.out (by omega) _ _ _ _ _⟩)
theorem Q8t {l:List Sl} {a p:Int} (h:(Q2x l a p).2=false):Q9n l a p=sl0:=by unfold Q9n;rw[h];rfl
theorem Q8P {l:List Sl} {a p:Int} {k:Nat} (h:Q2x l a p=((k:Int),true)):Q9n l a p=l.getD k sl0:=by unfold Q9n;rw[h];simp
theorem Qek (b m c:Nat) (l:List Sl) (a p:Int) (w:World) (Z:0 < l.length) (hl:l.length<=1048576) (hf:Q0g a p=true) (I:b < w.heap.size) (Y:∀i,i < l.length->∀j,j < Q0u.k->w.cell? ⟨b,m+i * Q0u.k+j,none⟩=(Q0u.cs (l.getD i Q0u.d))[j]?):
  Calls Tryz.prog 119 #[tab (.slice (some ⟨b,m,none⟩) l.length c),Q8x a p] w fun e w'=>e=.returned (.tuple #[slot (Q9n l a p),.bool (Q2x l a p).2])/\Below w.heap.size w w':=by
 have V:=Q00 Y;clear Y;obtain⟨X,H⟩:∃W,(((w.alloc (.cells #[.slice (some ⟨b,m,none⟩) l.length c] 32)).alloc (.cells #[.int .i64 a,.int .i64 p] 73)).alloc (.cells #[.bool false,.int .i64 0,.int .i64 0,.int .i64 0,.int .i64 0] 201))=W:=⟨_,rfl⟩;have P:=alb0v0v3 H;have y:=Q00 P;clear P;have G:=alz0v0v3 H
 have O:X.cell? ⟨w.heap.size,0,none⟩=some (.slice (some ⟨b,m,none⟩) l.length c):=by rw[<-H];simp[go_sem]
 have n:=alz0v1v3 H;obtain⟨M,N⟩:=alc2v1v3 H;have f:=alz0v2v3 H;obtain⟨z,A,B,D,E⟩:=alc5v2v3 H;obtain⟨q,r,t,u,x⟩:=alf5v2v3 H;have F:=Qc5 (some ⟨b,m,none⟩) c l a p X (.inr ⟨b,m,rfl,Kbq I y.out.size,(fun i hi j hj=>(y.out.cell (p:=⟨b,m+i * Q0u.k+j,none⟩) I).trans (V.out i hi j hj))⟩) Z hl hf
 rcases Q3R l Z a p with L|⟨k,hk,⟨L,_⟩|⟨L,_⟩⟩
 ·skip
  have R:=Q00 (Q8t (l:=l) (a:=a) (p:=p) (by rw[L]));have T:=Q00 L;rw[L]at F;clear L;go_enter Tryz.func119,Tryz.ntmps119;go_wp2_with fail;refine(F).mono ?_;rintro e h ⟨rfl,g⟩;replace O:=bKq0v0v0 g O G;replace G:w.heap.size < h.heap.size:=Kbq G g.size;replace M:=bKq0v0v0 g M n;replace N:=bKq0v0v0 g N n;replace n:w.heap.size+1 < h.heap.size:=Kbq n g.size;replace z:=bKq0v0v0 g z f;replace A:=bKq0v0v0 g A f;replace B:=bKq0v0v0 g B f;replace D:=bKq0v0v0 g D f;replace E:=bKq0v0v0 g E f
  replace q:h.frozen? ⟨w.heap.size+1+1,0,none⟩=false:=(g.frozen (p:=⟨w.heap.size+1+1,0,none⟩) f).trans q;replace r:h.frozen? ⟨w.heap.size+1+1,1,none⟩=false:=(g.frozen (p:=⟨w.heap.size+1+1,1,none⟩) f).trans r;replace t:h.frozen? ⟨w.heap.size+1+1,2,none⟩=false:=(g.frozen (p:=⟨w.heap.size+1+1,2,none⟩) f).trans t;replace u:h.frozen? ⟨w.heap.size+1+1,3,none⟩=false:=(g.frozen (p:=⟨w.heap.size+1+1,3,none⟩) f).trans u;replace x:h.frozen? ⟨w.heap.size+1+1,4,none⟩=false:=(g.frozen (p:=⟨w.heap.size+1+1,4,none⟩) f).trans x
  replace f:w.heap.size+1+1 < h.heap.size:=Kbq f g.size;replace y:=Q00 (y.out.trans (g.mono y.out.size));clear g;clear F;go_wp2;refine bodyPost_ret (v:=.tuple #[slot sl0,.bool false]) (by simp[results,Tryz.results119,go_sem,z,A,B,D,E]) rfl ⟨by rw[R.out,T.out],Q2g (s:=sl0) y.out (by omega)⟩
 ·skip
  have R:=Q00 (Q8t (l:=l) (a:=a) (p:=p) (by rw[L]));have T:=Q00 L;rw[L]at F;clear L;go_enter Tryz.func119,Tryz.ntmps119;go_wp2_with fail;refine(F).mono ?_;rintro e h ⟨rfl,g⟩;replace O:=bKq0v0v0 g O G;replace G:w.heap.size < h.heap.size:=Kbq G g.size;replace M:=bKq0v0v0 g M n;replace N:=bKq0v0v0 g N n;replace n:w.heap.size+1 < h.heap.size:=Kbq n g.size;replace z:=bKq0v0v0 g z f;replace A:=bKq0v0v0 g A f;replace B:=bKq0v0v0 g B f;replace D:=bKq0v0v0 g D f;replace E:=bKq0v0v0 g E f
  replace q:h.frozen? ⟨w.heap.size+1+1,0,none⟩=false:=(g.frozen (p:=⟨w.heap.size+1+1,0,none⟩) f).trans q;replace r:h.frozen? ⟨w.heap.size+1+1,1,none⟩=false:=(g.frozen (p:=⟨w.heap.size+1+1,1,none⟩) f).trans r;replace t:h.frozen? ⟨w.heap.size+1+1,2,none⟩=false:=(g.frozen (p:=⟨w.heap.size+1+1,2,none⟩) f).trans t;replace u:h.frozen? ⟨w.heap.size+1+1,3,none⟩=false:=(g.frozen (p:=⟨w.heap.size+1+1,3,none⟩) f).trans u;replace x:h.frozen? ⟨w.heap.size+1+1,4,none⟩=false:=(g.frozen (p:=⟨w.heap.size+1+1,4,none⟩) f).trans x
  replace f:w.heap.size+1+1 < h.heap.size:=Kbq f g.size;replace y:=Q00 (y.out.trans (g.mono y.out.size));clear g;clear F;go_wp2;refine bodyPost_ret (v:=.tuple #[slot sl0,.bool false]) (by simp[results,Tryz.results119,go_sem,z,A,B,D,E]) rfl ⟨by rw[R.out,T.out],Q2g (s:=sl0) y.out (by omega)⟩
 ·skip
  have R:=Q00 (Q8P L);have T:=Q00 L;rw[L]at F;clear L;have J:=RdL.slot (C:=w.heap.size) V.out k hk;obtain⟨s,U⟩:∃s,l.getD k sl0=s:=⟨_,rfl⟩;rw[U]at J R;clear U
  have aa:(k:Int) < (l.length:Int):=by omega
  go_enter Tryz.func119,Tryz.ntmps119;go_wp2_with fail;refine(F).mono ?_;rintro e h ⟨rfl,g⟩;replace O:=bKq0v0v0 g O G;replace G:w.heap.size < h.heap.size:=Kbq G g.size;replace M:=bKq0v0v0 g M n;replace N:=bKq0v0v0 g N n;replace n:w.heap.size+1 < h.heap.size:=Kbq n g.size;replace z:=bKq0v0v0 g z f;replace A:=bKq0v0v0 g A f;replace B:=bKq0v0v0 g B f;replace D:=bKq0v0v0 g D f;replace E:=bKq0v0v0 g E f;replace q:h.frozen? ⟨w.heap.size+1+1,0,none⟩=false:=(g.frozen (p:=⟨w.heap.size+1+1,0,none⟩) f).trans q
  replace r:h.frozen? ⟨w.heap.size+1+1,1,none⟩=false:=(g.frozen (p:=⟨w.heap.size+1+1,1,none⟩) f).trans r;replace t:h.frozen? ⟨w.heap.size+1+1,2,none⟩=false:=(g.frozen (p:=⟨w.heap.size+1+1,2,none⟩) f).trans t;replace u:h.frozen? ⟨w.heap.size+1+1,3,none⟩=false:=(g.frozen (p:=⟨w.heap.size+1+1,3,none⟩) f).trans u;replace x:h.frozen? ⟨w.heap.size+1+1,4,none⟩=false:=(g.frozen (p:=⟨w.heap.size+1+1,4,none⟩) f).trans x;replace f:w.heap.size+1+1 < h.heap.size:=Kbq f g.size;replace y:=Q00 (y.out.trans (g.mono y.out.size));clear g
  have e0:=(y.out.cell (p:=⟨b,m+k * 5,none⟩) I).trans J.1;have e1:=(y.out.cell (p:=⟨b,m+k * 5+1,none⟩) I).trans J.2.1;have e2:=(y.out.cell (p:=⟨b,m+k * 5+2,none⟩) I).trans J.2.2.1;have e3:=(y.out.cell (p:=⟨b,m+k * 5+3,none⟩) I).trans J.2.2.2.1;have e4:=(y.out.cell (p:=⟨b,m+k * 5+4,none⟩) I).trans J.2.2.2.2;clear F J;go_wp2;refine bodyPost_ret (v:=.tuple #[slot s,.bool true]) (by simp[results,Tryz.results119,go_sem,z,A,B,D,E]) rfl ⟨by rw[R.out,T.out],Q2g (s:=s) y.out (by omega)⟩
theorem Qhe (b n c:Nat) (l:List Sl) (a p:Int) (w:World) (Z:0 < l.length) (hl:l.length<=1048576) (hf:Q0g a p=true) (I:b < w.heap.size) (Y:∀i,i < l.length->∀j,j < Q0u.k->w.cell? ⟨b,n+i * Q0u.k+j,none⟩=(Q0u.cs (l.getD i Q0u.d))[j]?):
  Calls Tryz.prog 211 #[tab (.slice (some ⟨b,n,none⟩) l.length c),Q8x a p] w fun e w'=>e=.returned (.tuple #[slot (Q9n l a p),.bool (Q2x l a p).2])/\Below w.heap.size w w':=by
 have V:=Q00 Y;clear Y;obtain⟨X,H⟩:∃W,(((w.alloc (.cells #[.slice (some ⟨b,n,none⟩) l.length c] 119)).alloc (.cells #[.int .i64 a,.int .i64 p] 73)).alloc (.cells #[.bool false,.int .i64 0,.int .i64 0,.int .i64 0,.int .i64 0] 271))=W:=⟨_,rfl⟩;have P:=alb0v0v3 H;have y:=Q00 P;clear P;have G:=alz0v0v3 H
 have O:X.cell? ⟨w.heap.size,0,none⟩=some (.slice (some ⟨b,n,none⟩) l.length c):=by rw[<-H];simp[go_sem]
 have m:=alz0v1v3 H;obtain⟨M,N⟩:=alc2v1v3 H;have f:=alz0v2v3 H;obtain⟨z,A,B,D,E⟩:=alc5v2v3 H;obtain⟨q,r,t,u,x⟩:=alf5v2v3 H;have F:=Q5H b n c l a p X Z hl hf (Kbq I y.out.size) (fun i hi j hj=>(y.out.cell (p:=⟨b,n+i * Q0u.k+j,none⟩) I).trans (V.out i hi j hj))
 rcases Q3R l Z a p with L|⟨k,hk,⟨L,_⟩|⟨L,_⟩⟩
 ·skip
  have R:=Q00 (Q8t (l:=l) (a:=a) (p:=p) (by rw[L]));have T:=Q00 L;rw[L]at F;clear L;go_enter Tryz.func211,Tryz.ntmps211;go_wp2_with fail;refine(F).mono ?_;rintro e h ⟨rfl,g⟩;replace O:=bKq0v0v0 g O G;replace G:w.heap.size < h.heap.size:=Kbq G g.size;replace M:=bKq0v0v0 g M m;replace N:=bKq0v0v0 g N m;replace m:w.heap.size+1 < h.heap.size:=Kbq m g.size;replace z:=bKq0v0v0 g z f;replace A:=bKq0v0v0 g A f;replace B:=bKq0v0v0 g B f;replace D:=bKq0v0v0 g D f;replace E:=bKq0v0v0 g E f
  replace q:h.frozen? ⟨w.heap.size+1+1,0,none⟩=false:=(g.frozen (p:=⟨w.heap.size+1+1,0,none⟩) f).trans q;replace r:h.frozen? ⟨w.heap.size+1+1,1,none⟩=false:=(g.frozen (p:=⟨w.heap.size+1+1,1,none⟩) f).trans r;replace t:h.frozen? ⟨w.heap.size+1+1,2,none⟩=false:=(g.frozen (p:=⟨w.heap.size+1+1,2,none⟩) f).trans t;replace u:h.frozen? ⟨w.heap.size+1+1,3,none⟩=false:=(g.frozen (p:=⟨w.heap.size+1+1,3,none⟩) f).trans u;replace x:h.frozen? ⟨w.heap.size+1+1,4,none⟩=false:=(g.frozen (p:=⟨w.heap.size+1+1,4,none⟩) f).trans x
  replace f:w.heap.size+1+1 < h.heap.size:=Kbq f g.size;replace y:=Q00 (y.out.trans (g.mono y.out.size));clear g;clear F;go_wp2;refine bodyPost_ret (v:=.tuple #[slot sl0,.bool false]) (by simp[results,Tryz.results211,go_sem,z,A,B,D,E]) rfl ⟨by rw[R.out,T.out],Q2g (s:=sl0) y.out (by omega)⟩
 ·skip
  have R:=Q00 (Q8t (l:=l) (a:=a) (p:=p) (by rw[L]));have T:=Q00 L;rw[L]at F;clear L;go_enter Tryz.func211,Tryz.ntmps211;go_wp2_with fail;refine(F).mono ?_;rintro e h ⟨rfl,g⟩;replace O:=bKq0v0v0 g O G;replace G:w.heap.size < h.heap.size:=Kbq G g.size;replace M:=bKq0v0v0 g M m;replace N:=bKq0v0v0 g N m;replace m:w.heap.size+1 < h.heap.size:=Kbq m g.size;replace z:=bKq0v0v0 g z f;replace A:=bKq0v0v0 g A f;replace B:=bKq0v0v0 g B f;replace D:=bKq0v0v0 g D f;replace E:=bKq0v0v0 g E f
  replace q:h.frozen? ⟨w.heap.size+1+1,0,none⟩=false:=(g.frozen (p:=⟨w.heap.size+1+1,0,none⟩) f).trans q;replace r:h.frozen? ⟨w.heap.size+1+1,1,none⟩=false:=(g.frozen (p:=⟨w.heap.size+1+1,1,none⟩) f).trans r;replace t:h.frozen? ⟨w.heap.size+1+1,2,none⟩=false:=(g.frozen (p:=⟨w.heap.size+1+1,2,none⟩) f).trans t;replace u:h.frozen? ⟨w.heap.size+1+1,3,none⟩=false:=(g.frozen (p:=⟨w.heap.size+1+1,3,none⟩) f).trans u;replace x:h.frozen? ⟨w.heap.size+1+1,4,none⟩=false:=(g.frozen (p:=⟨w.heap.size+1+1,4,none⟩) f).trans x
  replace f:w.heap.size+1+1 < h.heap.size:=Kbq f g.size;replace y:=Q00 (y.out.trans (g.mono y.out.size));clear g;clear F;go_wp2;refine bodyPost_ret (v:=.tuple #[slot sl0,.bool false]) (by simp[results,Tryz.results211,go_sem,z,A,B,D,E]) rfl ⟨by rw[R.out,T.out],Q2g (s:=sl0) y.out (by omega)⟩
 ·skip
  have R:=Q00 (Q8P L);have T:=Q00 L;rw[L]at F;clear L;have J:=RdL.slot (C:=w.heap.size) V.out k hk;obtain⟨s,U⟩:∃s,l.getD k sl0=s:=⟨_,rfl⟩;rw[U]at J R;clear U
  have aa:(k:Int) < (l.length:Int):=by omega
  go_enter Tryz.func211,Tryz.ntmps211;go_wp2_with fail;refine(F).mono ?_;rintro e h ⟨rfl,g⟩;replace O:=bKq0v0v0 g O G;replace G:w.heap.size < h.heap.size:=Kbq G g.size;replace M:=bKq0v0v0 g M m;replace N:=bKq0v0v0 g N m;replace m:w.heap.size+1 < h.heap.size:=Kbq m g.size;replace z:=bKq0v0v0 g z f;replace A:=bKq0v0v0 g A f;replace B:=bKq0v0v0 g B f;replace D:=bKq0v0v0 g D f;replace E:=bKq0v0v0 g E f;replace q:h.frozen? ⟨w.heap.size+1+1,0,none⟩=false:=(g.frozen (p:=⟨w.heap.size+1+1,0,none⟩) f).trans q
  replace r:h.frozen? ⟨w.heap.size+1+1,1,none⟩=false:=(g.frozen (p:=⟨w.heap.size+1+1,1,none⟩) f).trans r;replace t:h.frozen? ⟨w.heap.size+1+1,2,none⟩=false:=(g.frozen (p:=⟨w.heap.size+1+1,2,none⟩) f).trans t;replace u:h.frozen? ⟨w.heap.size+1+1,3,none⟩=false:=(g.frozen (p:=⟨w.heap.size+1+1,3,none⟩) f).trans u;replace x:h.frozen? ⟨w.heap.size+1+1,4,none⟩=false:=(g.frozen (p:=⟨w.heap.size+1+1,4,none⟩) f).trans x;replace f:w.heap.size+1+1 < h.heap.size:=Kbq f g.size;replace y:=Q00 (y.out.trans (g.mono y.out.size));clear g
  have e0:=(y.out.cell (p:=⟨b,n+k * 5,none⟩) I).trans J.1;have e1:=(y.out.cell (p:=⟨b,n+k * 5+1,none⟩) I).trans J.2.1;have e2:=(y.out.cell (p:=⟨b,n+k * 5+2,none⟩) I).trans J.2.2.1;have e3:=(y.out.cell (p:=⟨b,n+k * 5+3,none⟩) I).trans J.2.2.2.1;have e4:=(y.out.cell (p:=⟨b,n+k * 5+4,none⟩) I).trans J.2.2.2.2;clear F J;go_wp2;refine bodyPost_ret (v:=.tuple #[slot s,.bool true]) (by simp[results,Tryz.results211,go_sem,z,A,B,D,E]) rfl ⟨by rw[R.out,T.out],Q2g (s:=s) y.out (by omega)⟩
end Go.Proofs.YteffhdcankkfkaaGreat
