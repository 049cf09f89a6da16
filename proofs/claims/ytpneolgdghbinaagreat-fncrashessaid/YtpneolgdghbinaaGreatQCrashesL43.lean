/- Several texts in one: SBTick, BalUse, CrashLMath. -/
import Derived.Test.YtpneolgdghbinaaGreatQCrashesL37
import Derived.Test.YtpneolgdghbinaaGreatQCrashesL35
import Derived.Test.YtpneolgdghbinaaGreatQCrashesL42
namespace Go.Proofs.YtpneolgdghbinaaGreat
open Go.ChangeShapes Go.WideShapes Go.ChangeAt Go.RowKit Go.Joins
set_option linter.unusedVariables false
set_option linter.unusedSimpArgs false
set_option maxRecDepth 100000
set_option maxHeartbeats 40000000
theorem Bx.turn {lo:Nat} {w a:World} {g b:Nat} {c:Int} {k:Value} {f d:Int} {i l:Value} {m:Bm} {t:List Sl} (h:Bx lo w g b c k f d i l m) (s:Stp g (g+1) w a) (u:t.length=m.t.length) (base:Nat) (r:lo<=base) (v:a.ownsRow base Q1B 5 (.slice (some ⟨g,0,none⟩) m.t.length b) m.t.length (t.flatMap Q0g.cs)):Bx lo a g b c k f d i l ⟨m.j,m.p,t⟩:=by
 obtain⟨n,h2,q,_,⟨z,A,G,H,B,I,C,J,D,E,F,x,y⟩⟩:=h;have hs:=s.size;exact⟨n,h2,q,⟨base,r,by dsimp only;rw[u];exact v⟩,⟨z,A,G,H,B,by omega,C,by omega,D,E,F,x.step s (by omega),y.step s (by omega)⟩⟩
theorem QiN {lo:Nat} {w:World} {g a:Nat} {b:Int} {i:Value} {d c:Int} {f j:Value} {m:Bm} (h:Bx lo w g a b i d c f j m):∃base,lo<=base/\w.ownsRow base Q1B 5 (.slice (some ⟨g,0,none⟩) m.t.length a) m.t.length (m.t.flatMap Q0g.cs):=h.row
theorem Q7V (z:Int) (o:Option Addr) (nj c:Nat) (B y:Int) (ob:Option Addr) (np cb:Nat) (oR:Option Addr) (nr cR:Nat) (ot:Option Addr) (nt ct:Nat) (A:List Cd) (lb:List Bk) (E:List (List (List Int))) (lt:List Sl) (now:Int) (w:World)
  (ak:nj=A.length) (al:nt=lt.length) (h1:RdC w.heap.size w o A) (ax:o=none->c=0) (h2:Q4P w.heap.size w (plv y (.slice ob np cb) (.slice oR nr cR)) ⟨y,lb,E⟩) (h4:RdS w.heap.size w ot lt) (hf:Q6e ⟨⟨z,A,B⟩,⟨y,lb,E⟩,lt⟩):
  Calls Tryz.prog 32 #[Q0O z (.slice o nj c) B y (.slice ob np cb) (.slice oR nr cR) (.slice ot nt ct),.int .i64 now] w fun e w'=> ∃v',e=.returned (.tuple #[v',.int .i64 (Q7g ⟨⟨z,A,B⟩,⟨y,lb,E⟩,lt⟩ now)])/\InBm w.heap.size w'.heap.size w' v' (Q7t ⟨⟨z,A,B⟩,⟨y,lb,E⟩,lt⟩ now)/\Below w.heap.size w w':=by
 have aa:=Q02 (fun W (f:Below w.heap.size w W)=>Q2G z o nj c B y ob np cb oR nr cR ot nt ct A lb E lt W ak al ((h1.kept f (Kaq _)).le f.size) ax ((h2.kept f (Kaq _)).le f.size) ((h4.kept f (Kaq _)).le f.size) hf);have f7:lt.length<=1048576:=hf.2.2;have R:=Q02 (fun h=>Q3V (m:=⟨⟨z,A,B⟩,⟨y,lb,E⟩,lt⟩) h);have V:=Q02 (fun h=>Q1N (m:=⟨⟨z,A,B⟩,⟨y,lb,E⟩,lt⟩) h);have X:=Q02 (fun h=>Q1F (m:=⟨⟨z,A,B⟩,⟨y,lb,E⟩,lt⟩) h)
 have HM:=Q02 (show Q7t ⟨⟨z,A,B⟩,⟨y,lb,E⟩,lt⟩ now=if(Q1J ⟨⟨z,A,B⟩,⟨y,lb,E⟩,lt⟩ && (decide (0<=now) && decide (now<=100000)))=true then⟨⟨z,A,B⟩,⟨y,lb,E⟩,(Q8x lt now).1⟩else bm0 from rfl);have Z:=Q02 (show Q7g ⟨⟨z,A,B⟩,⟨y,lb,E⟩,lt⟩ now=if(Q1J ⟨⟨z,A,B⟩,⟨y,lb,E⟩,lt⟩ && (decide (0<=now) && decide (now<=100000)))=true then(((Q8x lt now).2:Nat):Int)else -1 from rfl);dsimp only at R V X;clear h1 h2 h4 ak al hf;obtain⟨bb,ai⟩:∃x,Q1J ⟨⟨z,A,B⟩,⟨y,lb,E⟩,lt⟩=x:=⟨_,rfl⟩;obtain⟨mr,ac⟩:∃r,Q7t ⟨⟨z,A,B⟩,⟨y,lb,E⟩,lt⟩ now=r:=⟨_,rfl⟩
 obtain⟨ae,ad⟩:∃r,Q7g ⟨⟨z,A,B⟩,⟨y,lb,E⟩,lt⟩ now=r:=⟨_,rfl⟩;obtain⟨sb,ap⟩:∃r,(decide (0<=now) && decide (now<=100000))=r:=⟨_,rfl⟩;have ag:=Q02 (fun W=>Q2I now W);rw[ac,ad];rw[ai]at aa R V X HM Z;rw[ac]at HM;rw[ad]at Z;rw[ap]at HM Z ag;clear ai ac ad ap;obtain⟨W0,F⟩:∃W,((w.alloc (.cells #[.int .i64 z,.slice o nj c,.int .i64 B,.int .i64 y,.slice ob np cb,.slice oR nr cR,.slice ot nt ct] 34)).alloc (.cells #[.int .i64 0,.slice none 0 0,.int .i64 0,.int .i64 0,.slice none 0 0,.slice none 0 0,.slice none 0 0] 34))=W:=⟨_,rfl⟩;have O:=alb0v0v2 F
 have k:=Q02 O;clear O;have i:=alz0v0v2 F;obtain⟨z0,z1,z2,z3,z4,z5,z6⟩:=alc7v0v2 F;have b:=alz0v1v2 F;obtain⟨G,H,I,J,L,M,N⟩:=alc7v1v2 F;obtain⟨l,n,p,q,s,t,u⟩:=alf7v1v2 F;have aJ:w.heap.size+1 < W0.heap.size:=b;go_enter Tryz.func32,Tryz.ntmps32;go_wp2_with fail;refine(aa.out W0 k.out).mono ?_;rintro e P ⟨xo,xn,xc,kq,yo,yn,yc,sq,kr,uo,un,uc,vo,vn,vc,rfl,aj,f⟩;have ab:=Q02 aj;have aE:=f.size;clear aj aa;replace z0:=bC f z0 i;replace z1:=bC f z1 i;replace z2:=bC f z2 i;replace z3:=bC f z3 i;replace z4:=bC f z4 i
 replace z5:=bC f z5 i;replace z6:=bC f z6 i;replace i:=Kbq i f.size;replace G:=bC f G b;replace H:=bC f H b;replace I:=bC f I b;replace J:=bC f J b;replace L:=bC f L b;replace M:=bC f M b;replace N:=bC f N b;replace l:=bF f l b;replace n:=bF f n b;replace p:=bF f p b;replace q:=bF f q b;replace s:=bF f s b;replace t:=bF f t b;replace u:=bF f u b;replace b:=Kbq b f.size;replace k:=Q02 (k.out.trans (f.mono k.out.size));clear f
 cases bb with
 |false=>
  obtain⟨W2,j⟩:∃W,(P.alloc (.cells #[.slice xo xn xc,.int .i64 kq,.slice yo yn yc,.int .i64 sq,.int .i64 kr,.slice uo un uc,.slice vo vn vc] 93))=W:=⟨_,rfl⟩;have a:=alb0v0v1 j;replace z0:=bC a z0 i;replace z1:=bC a z1 i;replace z2:=bC a z2 i;replace z3:=bC a z3 i;replace z4:=bC a z4 i;replace z5:=bC a z5 i;replace z6:=bC a z6 i;replace i:=Kbq i a.size;replace G:=bC a G b;replace H:=bC a H b;replace I:=bC a I b;replace J:=bC a J b;replace L:=bC a L b;replace M:=bC a M b;replace N:=bC a N b
  replace l:=bF a l b;replace n:=bF a n b;replace p:=bF a p b;replace q:=bF a q b;replace s:=bF a s b;replace t:=bF a t b;replace u:=bF a u b;replace b:=Kbq b a.size;replace k:=Q02 (k.out.trans (a.mono k.out.size));clear a;have zx:=alz0v0v1 j;obtain⟨x0,x1,x2,x3,x4,x5,x6⟩:=alc7v0v1 j;clear ab
  have e0:ae= -1:=by rw[Z.out];rfl
  subst e0;go_wp2;refine bodyPost_ret (v:=.tuple #[Q0O 0 (.slice none 0 0) 0 0 (.slice none 0 0) (.slice none 0 0) (.slice none 0 0),.int .i64 (-1)]) (by simp[results,Tryz.results32,go_sem,G,H,I,J,L,M,N]) rfl ⟨_,rfl, ?_,Q0r k.out (by omega) _ _ _ _ _ _ _⟩;rw[HM.out,Q0y];exact Q6w _ _ _ (by have:=k.out.size;omega)
 |true=>
  have hn:=R.out rfl;have aq:=V.out rfl;have ar:=X.out rfl;obtain⟨g,rfl,rfl,aB,bx⟩:=Bx.of (ab.out rfl) hn;rw[<-aq]at bx;have C:=Q02 bx;have ah:=Q02 ar;clear bx ab R V X aq ar;obtain⟨W2,j⟩:∃W,(P.alloc (.cells #[.slice (some ⟨g,0,none⟩) lt.length xc,.int .i64 kq,.slice yo yn yc,.int .i64 sq,.int .i64 kr,.slice uo un uc,.slice vo vn vc] 93))=W:=⟨_,rfl⟩;have a:=alb0v0v1 j;replace z0:=bC a z0 i;replace z1:=bC a z1 i;replace z2:=bC a z2 i;replace z3:=bC a z3 i;replace z4:=bC a z4 i;replace z5:=bC a z5 i;replace z6:=bC a z6 i
  replace i:=Kbq i a.size;replace G:=bC a G b;replace H:=bC a H b;replace I:=bC a I b;replace J:=bC a J b;replace L:=bC a L b;replace M:=bC a M b;replace N:=bC a N b;replace l:=bF a l b;replace n:=bF a n b;replace p:=bF a p b;replace q:=bF a q b;replace s:=bF a s b;replace t:=bF a t b;replace u:=bF a u b;replace b:=Kbq b a.size;replace k:=Q02 (k.out.trans (a.mono k.out.size));clear a;have zx:=alz0v0v1 j;obtain⟨x0,x1,x2,x3,x4,x5,x6⟩:=alc7v0v1 j
  replace C:=Q02 (C.out.kept (show Below P.heap.size P W2 by rw[<-j];exact KBq.alloc (Kaq _) _));have aF:P.heap.size < W2.heap.size:=zx;have Y:=ag.out W2
  cases sb with
  |false=>
   go_wp2_with fail;refine Y.mono ?_;rintro e _ ⟨rfl,rfl⟩;clear Y C
   have e0:ae= -1:=by rw[Z.out];rfl
   subst e0;go_wp2;refine bodyPost_ret (v:=.tuple #[Q0O 0 (.slice none 0 0) 0 0 (.slice none 0 0) (.slice none 0 0) (.slice none 0 0),.int .i64 (-1)]) (by simp[results,Tryz.results32,go_sem,G,H,I,J,L,M,N]) rfl ⟨_,rfl, ?_,Q0r k.out (by omega) _ _ _ _ _ _ _⟩;rw[HM.out,Q0y];exact Q6w _ _ _ (by have:=k.out.size;omega)
  |true=>
   go_wp2_with fail;refine Y.mono ?_;rintro e _ ⟨rfl,rfl⟩;clear Y;obtain⟨base,ay,D⟩:=QiN C.out;dsimp only at D
   have aC:g < P.heap.size:=by
    have h5:g < W2.heap.size:=(D.lt g rfl).2
    rcases Nat.lt_or_ge g P.heap.size with h|h
    ·exact h
    ·exfalso
     have h6:g=P.heap.size:=by have h7:W2.heap.size=P.heap.size+1:=(by rw[<-j];simp);omega
     rcases D.2 with⟨h8,_⟩|⟨g9,c9,az,h8,_,h9,_⟩
     ·simp at h8
     ·simp at h8
      have aw:=alx0v0v1 j;rw[<-h8.1,h6,aw]at h9;injection h9 with h9;injection h9 with _ h9 _;exact absurd h9 (by decide)
   have T:=Q02 (Qaq g xc base lt.length lt now W2 rfl ah.out D);have U:=Q02 (Qbn lt now);clear D
   have aI:w.heap.size < W0.heap.size:=by omega
   have aD:w.heap.size+1 < P.heap.size:=by omega
   have aA:W0.heap.size<=g:=by omega
   obtain⟨rl,an⟩:∃x,(Q8x lt now).1=x:=⟨_,rfl⟩;obtain⟨rn,ao⟩:∃x,(Q8x lt now).2=x:=⟨_,rfl⟩;rw[an]at T U HM;rw[ao]at T Z;clear an ao
   have e0:ae=(rn:Int):=by rw[Z.out];rfl
   subst e0;clear Z;go_wp2_with fail;refine(T.out).mono ?_;rintro e w5 ⟨rfl,am,s5⟩;have aG:=s5.size;replace x0:=s5.cellP x0 (.inr (by(try dsimp only);omega));replace x1:=s5.cellP x1 (.inr (by(try dsimp only);omega));replace x2:=s5.cellP x2 (.inr (by(try dsimp only);omega));replace x3:=s5.cellP x3 (.inr (by(try dsimp only);omega));replace x4:=s5.cellP x4 (.inr (by(try dsimp only);omega));replace x5:=s5.cellP x5 (.inr (by(try dsimp only);omega));replace x6:=s5.cellP x6 (.inr (by(try dsimp only);omega));replace G:=s5.cellP G (.inl (by(try dsimp only);omega))
   replace H:=s5.cellP H (.inl (by(try dsimp only);omega));replace I:=s5.cellP I (.inl (by(try dsimp only);omega));replace J:=s5.cellP J (.inl (by(try dsimp only);omega));replace L:=s5.cellP L (.inl (by(try dsimp only);omega));replace M:=s5.cellP M (.inl (by(try dsimp only);omega));replace N:=s5.cellP N (.inl (by(try dsimp only);omega));replace l:=Stp.frozen s5 l (by omega) (.inl (by(try dsimp only);omega));replace n:=Stp.frozen s5 n (by omega) (.inl (by(try dsimp only);omega));replace p:=Stp.frozen s5 p (by omega) (.inl (by(try dsimp only);omega))
   replace q:=Stp.frozen s5 q (by omega) (.inl (by(try dsimp only);omega));replace s:=Stp.frozen s5 s (by omega) (.inl (by(try dsimp only);omega));replace t:=Stp.frozen s5 t (by omega) (.inl (by(try dsimp only);omega));replace u:=Stp.frozen s5 u (by omega) (.inl (by(try dsimp only);omega));replace k:=Q02 (k.out.trans (s5.below (by omega) k.out.size));replace C:=Q02 (Bx.turn C.out s5 U.out base ay am);clear am s5 T z0 z1 z2 z3 z4 z5 z6 zx j
   have af:=Q02 (Q67 W0.heap.size g lt.length xc kq yo yn yc sq kr uo un uc vo vn vc ⟨⟨z,A,B⟩,⟨y,lb,E⟩,rl⟩ w5 U.out.symm (by dsimp only;rw[U.out];exact f7) (by omega) C.out);clear C;go_wp2_with fail;refine(af.out).mono ?_;rintro e w6 ⟨tO,tn,tc,rfl,au,d⟩;have aH:=d.size;replace G:=bC d G (by omega);replace H:=bC d H (by omega);replace I:=bC d I (by omega);replace J:=bC d J (by omega);replace L:=bC d L (by omega);replace M:=bC d M (by omega);replace N:=bC d N (by omega);replace l:=bF d l (by omega);replace n:=bF d n (by omega)
   replace p:=bF d p (by omega);replace q:=bF d q (by omega);replace s:=bF d s (by omega);replace t:=bF d t (by omega);replace u:=bF d u (by omega);replace k:=Q02 (k.out.trans (d.mono k.out.size));have av:=Q02 au;clear au d af x0 x1 x2 x3 x4 x5 x6;go_wp2;refine bodyPost_ret (v:=.tuple #[Q0O kq (.slice yo yn yc) sq kr (.slice uo un uc) (.slice vo vn vc) (.slice tO tn tc),.int .i64 rn]) (by simp[results,Tryz.results32,go_sem,G,H,I,J,L,M,N]) rfl ⟨_,rfl, ?_,Q0r k.out (by omega) _ _ _ _ _ _ _⟩;rw[HM.out,Q0y]
   exact(av.out.step (Q0U _ _ _ _ _ _ _ _ _) (.inl (by omega))).mono (by omega) (Kaq _)
def BalRd (w:World) (v:Value) (m:Bm):Prop:=∃(o:Option Addr) (c:Nat) (ob:Option Addr) (np cb:Nat) (oR:Option Addr) (nr cR:Nat) (ot:Option Addr) (ct:Nat),v=Q0O m.j.key (.slice o m.j.l.length c) m.j.safe m.p.key (.slice ob np cb) (.slice oR nr cR) (.slice ot m.t.length ct)/\RdC w.heap.size w o m.j.l/\(o=none->c=0)/\Q4P w.heap.size w (plv m.p.key (.slice ob np cb) (.slice oR nr cR)) m.p/\RdS w.heap.size w ot m.t/\Q6e m
theorem BalRd.kept {w b:World} {v:Value} {m:Bm} (h:BalRd w v m) (a:Below w.heap.size w b):BalRd b v m:=by
 obtain⟨o,c,n,j,f,l,k,d,p,g,rfl,q,r,s,t,i⟩:=h;exact⟨o,c,n,j,f,l,k,d,p,g,rfl,(q.kept a (Kaq _)).le a.size,r,(s.kept a (Kaq _)).le a.size,(t.kept a (Kaq _)).le a.size,i⟩
theorem OrBr.brd {lo hi:Nat} {w:World} {q:Int} {o:Option Addr} {s c:Nat} {v r:Int} {n:Option Addr} {j b:Nat} {l:Option Addr} {k a:Nat} {p:Option Addr} {u d:Nat} {m:Bm} (h:OrBr lo hi w (Q0O q (.slice o s c) v r (.slice n j b) (.slice l k a) (.slice p u d)) m) (y:hi<=w.heap.size) (x:fitBm m/\m.t.length<=16):BalRd w (Q0O q (.slice o s c) v r (.slice n j b) (.slice l k a) (.slice p u d)) m:=by
 obtain⟨D,lb,E,lt,rfl,g,i,z,A,B,C,f⟩:=h.use y x;exact⟨o,c,n,j,b,l,k,a,p,d,by rw[g,i],z,A,B,C,f⟩
theorem InBm.brd {lo hi:Nat} {w:World} {v:Value} {m:Bm} (h:InBm lo hi w v m) (g:hi<=w.heap.size) (f:Q6e m):BalRd w v m:=by
 obtain⟨o,c,j,b,i,a,k,d,rfl,l,n,p,q⟩:=Q5V h g;exact⟨o,c,j,_,b,i,_,a,k,d,rfl,l,n,p,q,f⟩
theorem Q97 {m:Bm} (h:Q1J m=true):Q6e m:=(Q64 h).b0
theorem BalRd.pool {w:World} {j:Int} {n:Value} {l a:Int} {b d q:Value} {m:Bm} (h:BalRd w (Q0O j n l a b d q) m):Q4P w.heap.size w (plv a b d) m.p:=by
 obtain⟨o,c,z,v,s,y,x,r,A,t,e,B,C,k,D,u⟩:=h;simp only[Value.agg.injEq,Array.mk.injEq,List.cons.injEq,and_true,true_and,Value.int.injEq]at e;obtain⟨_,_,_,f,g,i,_⟩:=e;rw[f,g,i];exact k
theorem BalRd.tab {w:World} {j:Int} {r:Value} {p k:Int} {q s:Value} {b:Option Addr} {a d:Nat} {m:Bm} (h:BalRd w (Q0O j r p k q s (.slice b a d)) m):a=m.t.length/\RdS w.heap.size w b m.t/\m.t.length<=1048576:=by
 obtain⟨o,c,A,x,v,z,y,u,l,f,e,B,C,D,n,i⟩:=h;simp only[Value.agg.injEq,Array.mk.injEq,List.cons.injEq,and_true,true_and,Value.int.injEq]at e;obtain⟨_,_,_,_,_,_,g⟩:=e;injection g with e1 e2 e3;rw[e1];exact⟨e2,n,i.2.2⟩
theorem Q4l {v:Value} {m:Bm} {w:World} (h:BalRd w v m):
  Calls Tryz.prog 24 #[v] w fun e y=>e=.returned (.bool (Q1J m))/\Below w.heap.size w y:=by
 obtain⟨o,c,n,g,b,k,i,a,q,d,rfl,r,s,u,x,f⟩:=h;exact Q9p m.j.key o m.j.l.length c m.j.safe m.p.key n g b k i a q m.t.length d m.j.l m.p.l m.p.ring m.t w rfl rfl r s u x f
theorem QhP (n:Nat):(List.replicate n sl0).all isV=true:=by
 rw[List.all_eq_true];intro x hx;rw[List.eq_of_mem_replicate hx]
 decide
theorem Qip {n:Nat} (a:1<=n) (h2:n<=16):Q0e (List.replicate n sl0)=true:=by
 have e:Q7c (n:Int)=List.replicate n sl0:=by unfold Q7c;rw[if_pos ⟨by omega,by omega⟩];simp
 rw[<-e];exact Qfx (by omega) (by omega)
theorem QeP (n k:Nat):Q6j (List.replicate n sl0) k=0:=by
 unfold Q6j;rw[List.length_eq_zero_iff,List.filter_eq_nil_iff];intro x hx;rw[List.eq_of_mem_replicate (List.mem_of_mem_take hx)]
 decide
theorem Qdn {l:List Sl} (h:l.all isV=true) (i:Nat):(Q1u l i).all isV=true:=by
 unfold Q1u;exact Q4t _ _ _ _ _ (Q7W h _ (by decide))
theorem Qex (now:Int):∀(f:Nat) (l:List Sl) (c:Nat),l.all isV=true->(Q8p now f l c).1.all isV=true
 |0,l,_,h=>by unfold Q8p;exact h
 |f+1,l,c,h=>by
  unfold Q8p
  split
  ·exact h
  ·exact Qex now f _ _ (Qdn h _)
theorem QgG {m:Bm} {keep:Int} (h:Q1J m=false\/keep < 0):Q1Z m keep=bm0:=by
 unfold Q1Z QbH;rw[if_neg];intro h2;rw[Bool.and_eq_true,decide_eq_true_eq]at h2
 rcases h with h|h
 ·rw[h]at h2;exact absurd h2.1 (by decide)
 ·omega
theorem Qa5 {m:Bm} {keep:Int} (a:Q1J m=true) (c:0<=keep):
  Q1Z m keep=Qco m keep/\Q0f (Q4W m.j keep).key (Q4W m.j keep).l (Q4W m.j keep).safe=true/\Q1J (Qco m keep)=true/\Q4X (Qco m keep).t=0/\Q1M (Q0x (Q4W m.j keep))=true:=by
 have b:=Qhp (Q2x a) c;have f:=Q0d.1 (Q1F a);have d:=Qip (n:=m.t.length) (by omega) (by omega);refine⟨?_,b,Q7A b d (QhP _) rfl, ?_,Q2V b⟩
 ·unfold Q1Z QbH
  rw[a,decide_eq_true c]
  rfl
 ·show Q4X (List.replicate m.t.length sl0)=0
  unfold Q4X Qe1;rw[if_pos d,QeP]
  rfl
theorem Qe4 {m:Bm} {k i g:Int} (h:QaS m k i g=true):
  Q1J (Q1O m k i g)=true/\(Q1O m k i g).j.safe=((Q1O m k i g).j.l.length:Int)/\(Q1Z (Q1O m k i g) 0).p=(Q1O m k i g).p:=by
 unfold QaS at h;rw[Bool.and_eq_true]at h;obtain⟨d,n⟩:=h
 have r:Q1J m=true:=by unfold Qhy at d;rw[Bool.and_eq_true]at d;exact d.1
 have e:Q1O m k i g=Q5P m k i g:=by unfold Q1O;rw[if_pos d]
 have f:Q1J (Q5P m k i g)=true:=Qcy r
 have hs:(Q5P m k i g).j.safe=((Q5P m k i g).j.l.length:Int):=by
  unfold Q5P;rw[if_pos n];exact(Q9G n).2.2.2.2.1
 rw[e];refine⟨f,hs, ?_⟩;rw[(Qa5 f (Int.le_refl 0)).1]
 show Q0x (Q4W (Q5P m k i g).j 0)=_
 have s:Q4W (Q5P m k i g).j 0=(Q5P m k i g).j:=by
  have t:=Q2x f;unfold Q4W Qi1 QaG;rw[t,if_pos (by rfl),if_neg (by rw[hs];omega)];generalize (Q5P m k i g).j=q at hs ⊢;obtain⟨a,b,c⟩:=q;dsimp only at hs ⊢;rw[hs];simp
 rw[s];exact(Q1N f).symm
theorem QdG {m:Bm} (a:Q1J m=true):Q1J (Q7t m 60)=true/\0<=Q7g m 60:=by
 have e:Qcj m 60=true:=by unfold Qcj;rw[a];rfl
 unfold Q7t Q7g;rw[if_pos e,if_pos e];have b:=Q2x a;have c:=(Qep 60 (Q1F a)).1;have hv:(Q8x m.t 60).1.all isV=true:=Qex 60 _ _ _ (Q72 a);have hs:=Q1N a;refine⟨?_,by omega⟩;unfold Qh6;exact Q7A (m:=⟨m.j,m.p,(Q8x m.t 60).1⟩) b c hv (by first|exact hs|exact hs.symm)
end Go.Proofs.YtpneolgdghbinaaGreat
