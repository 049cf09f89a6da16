/- Several texts in one: ShAs, ShAs2. -/
import Derived.Test.YteffhdcankkfkaaGreatQListed16
import Derived.Test.YteffhdcankkfkaaGreatQListed17
namespace Go.Proofs.YteffhdcankkfkaaGreat
open Go.ChangeShapes Go.WideShapes Go.ChangeAt Go.RowKit Go.Joins
set_option linter.unusedVariables false
set_option linter.unusedSimpArgs false
set_option maxRecDepth 100000
set_option maxHeartbeats 40000000
theorem bCA {C b j:Nat} {w w':World} {u:Value} (h:Below C w w') (hc:w.cell? ⟨b,j,none⟩=some u) (hz:b < C):w'.cell? ⟨b,j,none⟩=some u:=(h.cell (p:=⟨b,j,none⟩) hz).trans hc
structure Ah where
 id:Int
 lim:Int
 dr:Bool
 c:Hd
 t:Hd
def Q1Q:Lay Ah:=⟨5,fun h=> [.int .i64 h.id,.int .i64 h.lim,.bool h.dr,.slice h.c.1 h.c.2.1 h.c.2.2,.slice h.t.1 h.t.2.1 h.t.2.2],⟨0,0,false,(none,0,0),(none,0,0)⟩,fun _=>rfl⟩
abbrev amD:Am:=⟨0,0,false,[],[]⟩
abbrev Qj3 (h:Ah):Value:=agt h.id h.lim h.dr (.slice h.c.1 h.c.2.1 h.c.2.2) (.slice h.t.1 h.t.2.1 h.t.2.2)
def RiA (lo hi:Nat) (w:World) (v:Value) (m:Am):Prop:=∃o1 c1 o2 c2,v=agt m.id m.lim m.dr (.slice o1 m.c.length c1) (.slice o2 m.t.length c2)/\RiV Q0u lo hi w (.slice o1 m.c.length c1) m.c/\RiV Q0u lo hi w (.slice o2 m.t.length c2) m.t
def QA (lo hi:Nat) (w:World) (v:Value) (m:Am):Prop:=∃v1 v2 a b a' b',v=agt m.id m.lim m.dr v1 v2/\(lo<=a/\b<=hi/\lo<=a'/\b'<=hi)/\InL Q0u 201 a b w v1 m.c/\InL Q0u 201 a' b' w v2 m.t/\(v1.ownBlock=none\/v1.ownBlock≠v2.ownBlock)
theorem RiA.rs:Stps RiA:=⟨fun ⟨o1,c1,o2,c2,e,h1,h2⟩ s hd=>⟨o1,c1,o2,c2,e,h1.step s hd,h2.step s hd⟩⟩
theorem RiA.rm:Monos RiA:=⟨fun ⟨o1,c1,o2,c2,e,h1,h2⟩ k1 k2=>⟨o1,c1,o2,c2,e,h1.mono k1 k2,h2.mono k1 k2⟩⟩
theorem QA.qs:Stps QA:=⟨fun ⟨v1,v2,a,b,a',b',e,k,h1,h2,h3⟩ s hd=>⟨v1,v2,a,b,a',b',e,k,InRow.step h1 s (by omega),InRow.step h2 s (by omega),h3⟩⟩
theorem QA.qr {lo hi:Nat} {w:World} {v:Value} {m:Am} (h:QA lo hi w v m):RiA lo hi w v m:=by
 obtain⟨q,r,a,b,a',b',e,k,l,h2,_⟩:=h;obtain⟨f,c,i,n⟩:=InRow.ri l;obtain⟨g,d,j,p⟩:=InRow.ri h2;subst i j;exact⟨f,c,g,d,e,RiV.mono ⟨f,c,rfl,n⟩ k.1 k.2.1,RiV.mono ⟨g,d,rfl,p⟩ k.2.2.1 k.2.2.2⟩
def elA:El Ah Am:=⟨Q1Q,Qj3,RiA,QA,amD,by decide,RiA.rs,RiA.rm,QA.qs,QA.qr⟩
theorem RiA.rd {C:Nat} {w:World} {v:Value} {m:Am} (h:RiA 0 C w v m):RdA C w v m:=by
 obtain⟨o1,c1,o2,c2,e,⟨o1',c1',e1,r1⟩,⟨o2',c2',e2,r2⟩⟩:=h;exact⟨_,_,e,⟨o1',c1',e1,r1.rd⟩,⟨o2',c2',e2,r2.rd⟩⟩
theorem RiA.on {w a:World} {v:Value} {m:Am} (h:RiA 0 w.heap.size w v m) (b:Below w.heap.size w a):RdA a.heap.size a v m:=
 (RiA.rm.go (RiA.rs.go h (Stp.of (lo:=0) (hi:=0) b) (.inl (Kcq _))) (Kaq _) b.size).rd
theorem RiA.cells {a C:Nat} {w:World} {o:Option Addr} {n c:Nat} {xs:List Am} (h:RiE elA a C w (.slice o n c) xs) (i:Nat) (hi:i < xs.length) {m:Am} (I:xs.getD i amD=m):
  ∃b f k g l j,o=some ⟨b,f,none⟩/\b < C/\w.cell? ⟨b,f+i * 5,none⟩=some (.int .i64 m.id)/\w.cell? ⟨b,f+i * 5+1,none⟩=some (.int .i64 m.lim)/\w.cell? ⟨b,f+i * 5+2,none⟩=some (.bool m.dr)/\w.cell? ⟨b,f+i * 5+3,none⟩=some (.slice k m.c.length g)/\w.cell? ⟨b,f+i * 5+4,none⟩=some (.slice l m.t.length j)/\RiA a C w (agt m.id m.lim m.dr (.slice k m.c.length g) (.slice l m.t.length j)) m/\RiV Q0u a C w (.slice k m.c.length g) m.c/\RiV Q0u a C w (.slice l m.t.length j) m.t:=by
 obtain⟨b,f,y,rfl,H,p,x⟩:=h.at i hi;rw[show xs.getD i elA.d=m from I]at x;obtain⟨k,g,l,j,e,z,A⟩:=x;have q:Value.agg #[.int .i64 y.id,.int .i64 y.lim,.bool y.dr,.slice y.c.1 y.c.2.1 y.c.2.2,.slice y.t.1 y.t.2.1 y.t.2.2]=Value.agg #[.int .i64 m.id,.int .i64 m.lim,.bool m.dr,.slice k m.c.length g,.slice l m.t.length j]:=e;simp only[Value.agg.injEq,Array.mk.injEq,List.cons.injEq,and_true]at q;obtain⟨B,D,E,F,G⟩:=q;have r:w.cell? ⟨b,f+i * 5,none⟩=some _:=p 0 (by decide);rw[B]at r;have s:w.cell? ⟨b,f+i * 5+1,none⟩=some _:=p 1 (by decide);rw[D]at s
 have h2:w.cell? ⟨b,f+i * 5+2,none⟩=some _:=p 2 (by decide);rw[E]at h2;have u:w.cell? ⟨b,f+i * 5+3,none⟩=some _:=p 3 (by decide);rw[F]at u;have v:w.cell? ⟨b,f+i * 5+4,none⟩=some _:=p 4 (by decide);rw[G]at v;exact⟨b,f,k,g,l,j,rfl,H,r,s,h2,u,v,⟨k,g,l,j,rfl,z,A⟩,z,A⟩
def Q97 (xs:List Am) (i:Nat):Nat:=(xs.getD i amD).c.length+(xs.getD i amD).t.length
def QhF (xs:List Am):Nat:=Q0K (Q97 xs) xs.length
def Qio (xs:List Am):Prop:=xs.length<=maxLen/\∀i,i < xs.length->(xs.getD i amD).c.length<=maxLen/\(xs.getD i amD).t.length<=maxLen
theorem QdU (m:Am) (k l:Option Addr) (g i:Nat) (n:Int) (w:World) (C:m.c.length<=maxLen) (B:m.t.length<=maxLen) (G:0<=n) (H:n<=1048576):
  Calls Tryz.prog 100 #[agt m.id m.lim m.dr (.slice k m.c.length g) (.slice l m.t.length i),.int .i64 n] w fun e J=>e=.returned (.int .i64 (if n - m.c.length - m.t.length < 0 then -1 else n - m.c.length - m.t.length))/\Below w.heap.size w J:=by
 obtain⟨d,z⟩:∃q,m.c.length=q:=⟨_,rfl⟩;obtain⟨l2,A⟩:∃q,m.t.length=q:=⟨_,rfl⟩;rw[z]at C ⊢;rw[A]at B ⊢;clear z A
 have b:=fun W=>Q6P k d g n W C G H
 have f:Below w.heap.size w (w.alloc (.cells #[.int .i64 m.id,.int .i64 m.lim,.bool m.dr,.slice k d g,.slice l l2 i] 171)):=KBq.alloc (Kaq _) _;have u:=World.alloc_heap_new w (.cells #[.int .i64 m.id,.int .i64 m.lim,.bool m.dr,.slice k d g,.slice l l2 i] 171)
 have y:w.heap.size < (w.alloc (.cells #[.int .i64 m.id,.int .i64 m.lim,.bool m.dr,.slice k d g,.slice l l2 i] 171)).heap.size:=by simp
 have E:(w.alloc (.cells #[.int .i64 m.id,.int .i64 m.lim,.bool m.dr,.slice k d g,.slice l l2 i] 171)).cell? ⟨w.heap.size,3,none⟩=some (.slice k d g):=Q05 u 3 _ rfl
 by_cases h:n - d < 0
 ·rw[if_pos h]at b
  rw[if_pos (by omega)];go_enter Tryz.func100,Tryz.ntmps100;go_wp2_with fail;refine(b _).mono ?_;rintro e D ⟨rfl,a⟩;have s:=Q00 (f.trans (a.mono (KIq y)));clear a f u E;go_wp2;go_ret;exact⟨rfl,s.out⟩
 ·rw[if_neg h]at b
  have j:=fun W=>Q6P l l2 i (n - d) W B (by omega) (by omega)
  obtain⟨q,x⟩:∃q:Int,(if n - d - l2 < 0 then -1 else n - d - l2)=q:=⟨_,rfl⟩;rw[x]at j ⊢;have F:=Q00 x;clear x;have I:¬(n - (d:Int) < 0):=h;go_enter Tryz.func100,Tryz.ntmps100;go_wp2_with fail;refine(b _).mono ?_;rintro e D ⟨rfl,a⟩;have s:=Q00 (f.trans (a.mono (KIq y)));have L:D.cell? ⟨w.heap.size,4,none⟩=some (.slice l l2 i):=Q05 ((a.block _ y).trans u) 4 _ rfl;clear a f u E b;go_wp2_with fail;refine(j _).mono ?_;rintro e M ⟨rfl,r⟩;have p:=Q00 (s.out.trans (r.mono s.out.size));clear r L j
  by_cases hqn:q < 0
  ·have v:Hid (q= -1):=by have:=F.out;unfold Hid;split at this <;> omega
   go_wp2;go_ret;exact⟨by rw[v.out];rfl,p.out⟩
  ·go_wp2
   go_ret;exact⟨rfl,p.out⟩
theorem Q9W (v:Value) (xs:List Am) (n:Int) (w:World) (A:RiE elA 0 w.heap.size w v xs) (X:Qio xs) (h0:0<=n) (h1:n<=1048576):
  Calls Tryz.prog 47 #[v,.int .i64 n] w fun e w'=>(e=.returned (.int .i64 (-1))\/∃z:Int,e=.returned (.int .i64 z)/\0<=z/\z<=n/\(xs.length:Int)+(QhF xs:Int)<=n)/\Below w.heap.size w w':=by
 obtain⟨o,cap,V⟩:=A.len;subst V;obtain⟨F,M⟩:=X;have E:=F;unfold maxLen at E
 by_cases h:n - xs.length < 0
 ·go_enter Tryz.func47,Tryz.ntmps47
  go_wp2;go_ret;exact⟨.inl rfl,KBq⟩
 ·go_enter Tryz.func47,Tryz.ntmps47
  go_wp2
  go_loopw [1,5] (fun n' i wr=> ∃(k:Nat) (z:Int),k<=xs.length/\i=.int .i64 (k:Int)/\n'=.int .i64 z/\0<=z/\z<=n - (xs.length:Int) - (Q0K (Q97 xs) k:Int)/\Hid (Below w.heap.size w wr))
   (fun _ i _=>xs.length - (intOf i).toNat)
  case atStart=>exact⟨0,n - xs.length,Kcq _,rfl,rfl,by omega,by simp[Q0K],KBq⟩
  case round=>
   obtain⟨k,z,hk,rfl,rfl,u,H,a⟩:=hrel
   by_cases hlt:k < xs.length
   ·obtain⟨m,B⟩:∃m,xs.getD k amD=m:=⟨_,rfl⟩
    obtain⟨b,aa,Z,T,o2,U,rfl,p,I,J,L,C,D,_⟩:=RiA.cells A k hlt B;have d:=M k hlt;rw[B]at d
    have Y:(0:Int)<=(Q0K (Q97 xs) k:Int):=by omega
    have x:=Q00 (QdU m Z o2 T U z wr d.1 d.2 u (by omega));have l:=Q00 (show Q0K (Q97 xs) (k+1)=Q0K (Q97 xs) k+(m.c.length+m.t.length)by rw[<-B];rfl);replace I:=bCA a.out I p;replace J:=bCA a.out J p;replace L:=bCA a.out L p;replace C:=bCA a.out C p;replace D:=bCA a.out D p;have HR:=Q00 A
    have z1:(k:Int) < (xs.length:Int):=by omega
    clear d A M B;obtain⟨O,f⟩:∃q,m.c.length=q:=⟨_,rfl⟩;obtain⟨P,g⟩:∃q,m.t.length=q:=⟨_,rfl⟩;rw[f,g]at x l;rw[f]at C;rw[g]at D;clear f g;generalize Q0K (Q97 xs) k=sk at *;obtain⟨y,G⟩:∃y:Int,(if z - O - P < 0 then -1 else z - O - P)=y:=⟨_,rfl⟩;rw[G]at x;have R:=Q00 G;clear G;go_wp2_with fail;refine x.out.mono ?_;rintro e w2 ⟨rfl,r⟩;have j:=Q00 (a.out.trans (r.mono a.out.size));clear r I J L C D x
    by_cases hyn:y < 0
    ·go_wp2
     go_ret;exact⟨.inl rfl,j.out⟩
    ·have N:¬(y < 0):=hyn
     go_wp2;go_roundw
     case rel=>exact⟨k+1,y,by omega,by go_num,rfl,by omega,(by have:=R.out;rw[l.out];split at this <;> push_cast <;> omega),j.out⟩
     case measure=>simp[intOf];omega
   ·have e:k=xs.length:=by omega
    subst e;have s:Q0K (Q97 xs) xs.length=QhF xs:=rfl;rw[s]at H;clear s;go_wp2;go_ret;exact⟨.inr ⟨z,rfl,u,by omega,by omega⟩,a.out⟩
theorem Qhc {e:TypeId} {w wr:World} {base B g c n:Nat} {l:List Ah} {k:Nat} (h:Ah) (b:B<=g) (d:wr.ownsRow base e 5 (.slice (some ⟨g,0,none⟩) n c) n (l.flatMap Q1Q.cs)) (f:Below B w wr):
  (((((wr.setCell ⟨g,k * 5,none⟩ (.int .i64 h.id)).setCell ⟨g,k * 5+1,none⟩ (.int .i64 h.lim)).setCell ⟨g,k * 5+2,none⟩ (.bool h.dr)).setCell ⟨g,k * 5+3,none⟩ (.slice h.c.1 h.c.2.1 h.c.2.2)).setCell ⟨g,k * 5+4,none⟩ (.slice h.t.1 h.t.2.1 h.t.2.2)).ownsRow base e 5 (.slice (some ⟨g,0,none⟩) n c) n ((l.set k h).flatMap Q1Q.cs)/\Below B w (((((wr.setCell ⟨g,k * 5,none⟩ (.int .i64 h.id)).setCell ⟨g,k * 5+1,none⟩ (.int .i64 h.lim)).setCell ⟨g,k * 5+2,none⟩ (.bool h.dr)).setCell ⟨g,k * 5+3,none⟩ (.slice h.c.1 h.c.2.1 h.c.2.2)).setCell ⟨g,k * 5+4,none⟩ (.slice h.t.1 h.t.2.1 h.t.2.2))/\Stp g (g+1) wr (((((wr.setCell ⟨g,k * 5,none⟩ (.int .i64 h.id)).setCell ⟨g,k * 5+1,none⟩ (.int .i64 h.lim)).setCell ⟨g,k * 5+2,none⟩ (.bool h.dr)).setCell ⟨g,k * 5+3,none⟩ (.slice h.c.1 h.c.2.1 h.c.2.2)).setCell ⟨g,k * 5+4,none⟩ (.slice h.t.1 h.t.2.1 h.t.2.2)):=by
 have q:=(((((d.stored (k * 5) (.int .i64 h.id)).1.stored (k * 5+1) (.int .i64 h.lim)).1.stored (k * 5+2) (.bool h.dr)).1.stored (k * 5+3) (.slice h.c.1 h.c.2.1 h.c.2.2)).1.stored (k * 5+4) (.slice h.t.1 h.t.2.1 h.t.2.2)).1;rw[Q3q Q1Q rfl (a:=h) rfl]at q
 exact⟨q,(((((f.setCell (p:=⟨g,k * 5,none⟩) b _).setCell (p:=⟨g,k * 5+1,none⟩) b _).setCell (p:=⟨g,k * 5+2,none⟩) b _).setCell (p:=⟨g,k * 5+3,none⟩) b _).setCell (p:=⟨g,k * 5+4,none⟩) b _),((((((Stp.refl wr).trans (Q07 _ g (k * 5) _)).trans (Q07 _ g (k * 5+1) _)).trans (Q07 _ g (k * 5+2) _)).trans (Q07 _ g (k * 5+3) _)).trans (Q07 _ g (k * 5+4) _))⟩
theorem QiR:(Tryz.prog.info? 83).map (fun i=>(i.zero,i.size,i.bytes))=some (some (.agg #[.int .i64 0,.int .i64 0,.bool false,.slice none 0 0,.slice none 0 0]),5,72):=by kernel_rfl
theorem Qag (v:Value) (xs:List Am) (w:World) (hR:RiE elA 0 w.heap.size w v xs) (aj:xs.length<=1048576) (hx:∀i,i < xs.length->(xs.getD i amD).c.length+(xs.getD i amD).t.length<=1048576):
  Calls Tryz.prog 52 #[v] w fun e w'=> ∃v',e=.returned v'/\InE elA 83 w.heap.size w'.heap.size w' v' xs/\Below w.heap.size w w':=by
 obtain⟨o,cap,ev⟩:=hR.len;subst ev;obtain⟨i0,hi,af,ag,ah⟩:=info_parts QiR;have ab:=Q00 hR;have HX:=Q00 hx;clear hR hx;go_enter Tryz.func52,Tryz.ntmps52;go_wp2_with (at_make;refine wpList_make_full _ rfl _ _ 35 rfl w.heap.size 83 i0 (agt 0 0 false (.slice none 0 0) (.slice none 0 0)) 5 Tryz.underlying35 hi af ag _ _ _ _ xs.length rfl rfl rfl rfl ?b2 ?b3 ?b4 ?_)
 case b2=>rw[ah];omega
 case b3=>unfold maxLen;omega
 case b4=>simp
 intro w3 p n;have G:=Q00 (show Below w.heap.size w w3 from KBq.grown n (Kaq _) (fun k h=>by cases h))
 have J:Hid (w3.ownsRow w.heap.size 83 5 (.slice (some ⟨w.heap.size,0,none⟩) xs.length xs.length) xs.length ((Q2X Q1Q [] xs.length 0).flatMap Q1Q.cs)):=by
  rw[Q54,<-Q11 Q1Q (agt 0 0 false (.slice none 0 0) (.slice none 0 0)) rfl];exact p
 have P:w.heap.size+1<=w3.heap.size:=(p.lt w.heap.size rfl).2;clear p n;go_wp2
 go_loopw [4] (fun iv wr=> ∃(k:Nat) (hs:List Ah) (L H:Nat->Nat),k<=xs.length/\iv=.int .i64 (k:Int)/\Hid (wr.ownsRow w.heap.size 83 5 (.slice (some ⟨w.heap.size,0,none⟩) xs.length xs.length) xs.length ((Q2X Q1Q hs xs.length k).flatMap Q1Q.cs))/\Hid (RwE elA (xs.take k) (w.heap.size+1) wr.heap.size wr hs L H)/\Hid (Below w.heap.size w wr)/\w.heap.size+1<=wr.heap.size)
  (fun iv _=>xs.length - (intOf iv).toNat)
 case atStart=>exact⟨0,[],fun _=> 0,fun _=> 0,Kcq _,rfl,J.out,by rw[List.take_zero];exact RwE.nil _ _ _ _ _ _,G.out,P⟩
 case round=>
  obtain⟨k,hs,L,H,ac,rfl,HO,HR,f,ap⟩:=hrel;clear J G P
  have O:hs.length=k:=by have h1:=HR.out.len;rw[List.length_take]at h1;omega
  have I:=Q00 O
  by_cases hlt:k < xs.length
  ·have z1:(k:Int) < (xs.length:Int):=by omega
   obtain⟨m,hm⟩:∃m,xs.getD k amD=m:=⟨_,rfl⟩;have HS:=Q00 (Q3H (xs:=xs) amD hlt);have E:=HX.out k hlt;rw[hm]at HS E;obtain⟨b,ax,o1,c1,o2,c2,rfl,l,p0,p1,p2,V,X,rr,_⟩:=RiA.cells ab.out k hlt hm;have HL:=Q00 (Qd9 _ m wr (rr.on f.out) E);replace p0:=bCA f.out p0 l;replace p1:=bCA f.out p1 l;replace p2:=bCA f.out p2 l;replace V:=bCA f.out V l;replace X:=bCA f.out X l;have HW:=Q00 hlt;clear rr hm E O;obtain⟨q1,r⟩:∃q,m.c.length=q:=⟨_,rfl⟩;obtain⟨q2,s⟩:∃q,m.t.length=q:=⟨_,rfl⟩;have HQ:=Q00 (And.intro r s);rw[r,s]at HL;rw[r]at V
   rw[s]at X;clear r s;go_wp2_with fail;refine HL.out.mono ?_;rintro e g ⟨v4,rfl,ai,j⟩;obtain⟨vc,vt,R,rfl,T,U,k1,k2⟩:=ai;obtain⟨z,B,rfl,_⟩:=InL.rd (L:=Q0u) T;obtain⟨F,C,rfl,_⟩:=InL.rd (L:=Q0u) U
   have aa:Hid (QA wr.heap.size g.heap.size g (agt m.id m.lim m.dr (.slice z m.c.length B) (.slice F m.t.length C)) m):=⟨_,_,wr.heap.size,R,R,g.heap.size,rfl,by omega,T,U,by
    cases z with
    |none=>exact .inl rfl
    |some a=>right;intro e;have h1:=T.2 a.block rfl;have h2:=(U.1.lt a.block e.symm).1;omega⟩
   have d:=Q0a HO.out j
   have ad:((Q2X Q1Q hs xs.length k).flatMap Q1Q.cs).length=xs.length * 5:=by rw[Q0f,Q6i ac I.out];rfl
   obtain⟨u0,aq⟩:∃u,g.cell? ⟨w.heap.size,k * 5,none⟩=some u:=⟨_,(d.cellAt (k * 5) (by omega)).trans (KGq (by omega))⟩;have ak:=d.frozenAt (k * 5);obtain⟨u1,ar⟩:∃u,g.cell? ⟨w.heap.size,k * 5+1,none⟩=some u:=⟨_,(d.cellAt (k * 5+1) (by omega)).trans (KGq (by omega))⟩;have al:=d.frozenAt (k * 5+1);obtain⟨u2,au⟩:∃u,g.cell? ⟨w.heap.size,k * 5+2,none⟩=some u:=⟨_,(d.cellAt (k * 5+2) (by omega)).trans (KGq (by omega))⟩;have am:=d.frozenAt (k * 5+2)
   obtain⟨u3,av⟩:∃u,g.cell? ⟨w.heap.size,k * 5+3,none⟩=some u:=⟨_,(d.cellAt (k * 5+3) (by omega)).trans (KGq (by omega))⟩;have an:=d.frozenAt (k * 5+3);obtain⟨u4,aw⟩:∃u,g.cell? ⟨w.heap.size,k * 5+4,none⟩=some u:=⟨_,(d.cellAt (k * 5+4) (by omega)).trans (KGq (by omega))⟩;have ao:=d.frozenAt (k * 5+4);have Z:=Q00 (f.out.trans (j.mono f.out.size))
   obtain⟨L2,Y,D⟩:∃L2 Y,RwE elA (xs.take k++[m]) (w.heap.size+1) g.heap.size g (hs++[⟨m.id,m.lim,m.dr,(z,m.c.length,B),(F,m.t.length,C)⟩]) L2 Y:=⟨_,_,HR.out.kept j|>.snoc (l2:=wr.heap.size) (h2:=g.heap.size) (y:=⟨m.id,m.lim,m.dr,(z,m.c.length,B),(F,m.t.length,C)⟩) (x:=m) (Kaq _) (by omega) j.size (show elA.Q wr.heap.size g.heap.size g (elA.val ⟨m.id,m.lim,m.dr,(z,m.c.length,B),(F,m.t.length,C)⟩) m from aa.out)⟩;rw[<-HS.out]at D;have ST:=Q00 (Qhc (k:=k) ⟨m.id,m.lim,m.dr,(z,m.c.length,B),(F,m.t.length,C)⟩ (Kaq w.heap.size) d Z.out)
   have HF:=Q00 (Q6r (L:=Q1Q) HW.out I.out ⟨m.id,m.lim,m.dr,(z,m.c.length,B),(F,m.t.length,C)⟩);have A:=Q00 D
   have ae:w.heap.size+1<=g.heap.size:=by have:=j.size;omega
   have M:=HQ.out.1;have N:=HQ.out.2;rw[M,N]at ST HF A ⊢;clear M N d j ad D T U k1 k2 p0 p1 p2 V X HL;go_wp2;go_roundw
   case rel=>
    refine⟨k+1,hs++[⟨m.id,m.lim,m.dr,(z,q1,B),(F,q2,C)⟩],L2,Y,by omega,by go_num,(by have h:=ST.out.1;rw[HF.out]at h;exact h), ?_,ST.out.2.1,by simpa using ae⟩;exact RwE.mono (A.out.step ST.out.2.2 (fun i hi=> .inl (A.out.bd i hi).1)) (Kaq _) (by simp)
   case measure=>simp[intOf];omega
  ·have e:k=xs.length:=by omega
   subst e;go_wp2;go_ret;have h2:=HR.out;rw[List.take_length]at h2;exact⟨_,rfl,InE.filled HO.out h2 (by omega),f.out⟩
theorem Q8y (v1 v2:Value) (xs:List Am) (w:World) (G:RiE elA 0 w.heap.size w v1 xs) (h2:RiE elA 0 w.heap.size w v2 xs) (hl:xs.length<=1048576) (X:∀i,i < xs.length->(xs.getD i amD).c.length+(xs.getD i amD).t.length<=1048576):
  Calls Tryz.prog 35 #[v1,v2] w fun e w'=>e=.returned (.bool true)/\Below w.heap.size w w':=by
 obtain⟨oa,ca,J⟩:=G.len;obtain⟨ob,cb,L⟩:=h2.len;subst J L;go_enter Tryz.func35,Tryz.ntmps35;go_wp2
 go_loopw [5] (fun i wr=> ∃k:Nat,k<=xs.length/\i=.int .i64 k/\Hid (Below w.heap.size w wr))
  (fun i _=>xs.length - (intOf i).toNat)
 case atStart=>exact⟨0,Kcq _,rfl,KBq⟩
 case round=>
  obtain⟨k,hk,rfl,f⟩:=hrel
  by_cases hlt:k < xs.length
  ·have z1:(k:Int) < (xs.length:Int):=by omega
   obtain⟨m,H⟩:∃m,xs.getD k amD=m:=⟨_,rfl⟩;have r:=X k hlt;rw[H]at r;obtain⟨y,b,Y,N,Z,O,rfl,g,A,B,C,s,u,T,_⟩:=RiA.cells G k hlt H;obtain⟨z,d,o3,P,o4,R,rfl,h,D,E,F,v,x,U,_⟩:=RiA.cells h2 k hlt H
   have M:Hid (∀W,Below w.heap.size w W->Calls Tryz.prog 82 #[agt m.id m.lim m.dr (.slice Y m.c.length N) (.slice Z m.t.length O),agt m.id m.lim m.dr (.slice o3 m.c.length P) (.slice o4 m.t.length R)] W fun e w'=>e=.returned (.bool true)/\Below W.heap.size W w'):=fun W V=>QcC _ _ m W (T.on V) (U.on V) r
   replace A:=bCA f.out A g;replace B:=bCA f.out B g;replace C:=bCA f.out C g;replace s:=bCA f.out s g;replace u:=bCA f.out u g;replace D:=bCA f.out D h;replace E:=bCA f.out E h;replace F:=bCA f.out F h;replace v:=bCA f.out v h;replace x:=bCA f.out x h;have H1:=Q00 G;have H2:=Q00 h2;have j:y < wr.heap.size:=Kbq g f.out.size;have l:z < wr.heap.size:=Kbq h f.out.size;obtain⟨q1,n⟩:∃q,m.c.length=q:=⟨_,rfl⟩;obtain⟨q2,p⟩:∃q,m.t.length=q:=⟨_,rfl⟩;rw[n,p]at M;rw[n]at s v;rw[p]at u x
   clear n p T U G h2 H r X;go_wp2
   go_region_held3 (fun w'=>w'.cell? ⟨y,b+k * 5,none⟩=some (.int .i64 m.id)/\w'.cell? ⟨y,b+k * 5+1,none⟩=some (.int .i64 m.lim)/\w'.cell? ⟨y,b+k * 5+2,none⟩=some (.bool m.dr)/\w'.cell? ⟨y,b+k * 5+3,none⟩=some (.slice Y q1 N)/\w'.cell? ⟨y,b+k * 5+4,none⟩=some (.slice Z q2 O)/\w'.cell? ⟨z,d+k * 5,none⟩=some (.int .i64 m.id)/\w'.cell? ⟨z,d+k * 5+1,none⟩=some (.int .i64 m.lim)/\w'.cell? ⟨z,d+k * 5+2,none⟩=some (.bool m.dr)/\w'.cell? ⟨z,d+k * 5+3,none⟩=some (.slice o3 q1 P)/\w'.cell? ⟨z,d+k * 5+4,none⟩=some (.slice o4 q2 R)) (first|exact⟨A,B,C,s,u,D,E,F,v,x⟩) (first|(go_at_call 82;refine(M.out _ (KHq f.out)).mono ?_;rintro e w2 ⟨rfl,a⟩;replace a:Below wr.heap.size wr w2:=(KHq KBq).trans a;have A:=bCA a A j;have B:=bCA a B j;have C:=bCA a C j;have s:=bCA a s j;have u:=bCA a u j;have D:=bCA a D l;have E:=bCA a E l;have F:=bCA a F l;have v:=bCA a v l;have x:=bCA a x l))
   have I:=Q00 (f.out.trans (a.mono f.out.size));clear a A B C s u D E F v x;go_wp2;go_roundw
   case rel=>exact⟨k+1,by omega,by go_num,I.out⟩
   case measure=>simp[intOf];omega
  ·have e:k=xs.length:=by omega
   subst e;go_wp2;go_ret;exact⟨rfl,f.out⟩
def QiA (kk:Int) (m:Am):Am:=⟨kk,kk+1,(kk+1+1) % 3==0,mkL QdS 5 (kk+1+1+1) m.c.length,mkL QdS 5 (kk+1+1+1+5 * (m.c.length:Int)) m.t.length⟩
def nA (xs:List Am) (i:Nat):Nat:=3+5 * ((xs.getD i amD).c.length+(xs.getD i amD).t.length)
def nAs (xs:List Am):Nat:=Q0K (nA xs) xs.length
def Qh4 (k:Int) (xs:List Am) (j:Nat):Am:=QiA (k+(Q0K (nA xs) j:Int)) (xs.getD j amD)
def QhW (k:Int) (xs:List Am):List Am:=(List.range xs.length).map (Qh4 k xs)
theorem QfO (k:Int) (xs:List Am):(QhW k xs).length=xs.length:=by simp[QhW]
theorem QhZ (xs:List Am) (i:Nat):Q0K (nA xs) i<=3 * i+5 * Q0K (Q97 xs) i:=by
 induction i with
 |zero=>simp[Q0K]
 |succ i ih=>
  have a:Q0K (nA xs) (i+1)=Q0K (nA xs) i+nA xs i:=rfl;have h2:Q0K (Q97 xs) (i+1)=Q0K (Q97 xs) i+Q97 xs i:=rfl;rw[a,h2];unfold nA Q97 at *;omega
theorem Q7m (lo hi:Nat) (v:Value) (xs:List Am) (k:Int) (w:World) (hv:InE elA 83 lo hi w v xs) (h0:0<=k) (h1:k<=100000000) (hn:xs.length<=1048576) (hz:QhF xs<=1048576):
  Calls Tryz.prog 39 #[v,.int .i64 k] w fun e w'=>e=.returned (.int .i64 (k+(nAs xs:Int)))/\InE elA 83 lo hi w' v (QhW k xs)/\Stp lo hi w w':=by
 obtain⟨E,L,H,l,r,p⟩:=hv
 rcases l.1.2 with⟨rfl,h2⟩|⟨g,cap,a4,rfl,hg,_⟩
 ·have e:xs=[]:=List.eq_nil_of_length_eq_zero (by rw[<-r.len];exact h2)
  subst e;have H9:=Q00 (And.intro l (And.intro r p));have a9:E.length=0:=h2;clear l r p h2;go_enter Tryz.func39,Tryz.ntmps39;go_wp2;refine wp_loop_rounds 1 ?_;rw[rounds_succ];go_wp2;go_ret;exact⟨by simp[nAs,Q0K],⟨E,L,H,H9.out.1,H9.out.2.1,fun i hi=>absurd hi (KMq _)⟩,Stp.refl _⟩
 ·have D:=r.len
  have aP:g < w.heap.size:=(l.1.lt g rfl).2;have au:lo<=g:=(l.1.lt g rfl).1;have ar:g < hi:=l.2 g rfl;have R:=Q00 (fun i hi=>p i hi g rfl);have am:=Q00 r.sep;have ab:=Q00 r.bd
  have aI:Hid (Qcx (.slice (some ⟨g,0,none⟩) xs.length cap) xs.length L H):=fun i hi b e=>p i hi b e
  have aj:Hid (InL Q1Q 83 lo hi w (.slice (some ⟨g,0,none⟩) xs.length cap) E):=by rw[<-D];exact l
  have ao:Hid (RwE elA (Q1D (Qh4 k xs) xs amD 0) lo hi w E L H):=by rw[Q3I];exact r
  rw[D];clear l r p D hg;go_enter Tryz.func39,Tryz.ntmps39;go_wp2
  go_loopw [1,5] (fun q j wr=> ∃(i:Nat) (hs:List Ah),i<=xs.length/\j=.int .i64 (i:Int)/\q=.int .i64 (k+(Q0K (nA xs) i:Int))/\Hid (InL Q1Q 83 lo hi wr (.slice (some ⟨g,0,none⟩) xs.length cap) hs)/\Hid (RwE elA (Q1D (Qh4 k xs) xs amD i) lo hi wr hs L H)/\Hid (Stp lo hi w wr))
   (fun _ j _=>xs.length - (intOf j).toNat)
  case atStart=>exact⟨0,E,Kcq _,rfl,by simp[Q0K],aj.out,ao.out,Stp.refl _⟩
  case round=>
   obtain⟨i,hs,a7,rfl,rfl,n,A,F⟩:=hrel;clear aj ao
   by_cases hlt:i < xs.length
   ·skip
    have bb:hs.length=xs.length:=by have:=A.out.len;rw[Q0X]at this;exact this
    obtain⟨m,hm⟩:∃m,xs.getD i amD=m:=⟨_,rfl⟩;obtain⟨y,hy⟩:∃y,hs.getD i Q1Q.d=y:=⟨_,rfl⟩;have HY:=Q00 hy;have U:=A.out.row i (by rw[Q0X];exact hlt);rw[show(Q1D (Qh4 k xs) xs amD i).getD i elA.d=m from(Q4P _ _ _ _ hlt).trans hm,show elA.L.d=Q1Q.d from rfl,hy]at U;obtain⟨v1,v2,a,b,a2,b2,e,kb,ic,it,aA⟩:=U;have e':Value.agg #[.int .i64 y.id,.int .i64 y.lim,.bool y.dr,.slice y.c.1 y.c.2.1 y.c.2.2,.slice y.t.1 y.t.2.1 y.t.2.2]=Value.agg #[.int .i64 m.id,.int .i64 m.lim,.bool m.dr,v1,v2]:=e;simp only[Value.agg.injEq,Array.mk.injEq,List.cons.injEq,and_true]at e';obtain⟨_,_,_,e1,e2⟩:=e'
    have az:Hid (Qh4 k xs i=QiA (k+(Q0K (nA xs) i:Int)) m):=by unfold Hid Qh4;rw[hm]
    have an:=Q00 (show(Q0K (nA xs) (i+1):Int)=(Q0K (nA xs) i:Int)+(3+5 * (m.c.length:Int)+5 * (m.t.length:Int))by rw[show Q0K (nA xs) (i+1)=Q0K (nA xs) i+nA xs i from rfl];unfold nA;rw[hm];push_cast;omega);have aN:=QhZ xs i;have aT:=Q6j (Q97 xs) (KIq hlt);have aq:=Q3o (Q97 xs) hlt;rw[show Q97 xs i=m.c.length+m.t.length by unfold Q97;rw[hm]]at aq;have aD:Q0K (Q97 xs) xs.length<=1048576:=hz;obtain⟨f,aw⟩:∃q:Int,k+(Q0K (nA xs) i:Int)=q:=⟨_,rfl⟩
    have a8:0<=f/\f<=200000000:=by omega
    have aR:m.c.length<=1048576:=by omega
    have aS:m.t.length<=1048576:=by omega
    have aG:Hid (k+(Q0K (nA xs) (i+1):Int)=f+1+1+1+5 * (m.c.length:Int)+5 * (m.t.length:Int)):=by unfold Hid;rw[an.out];omega
    rw[aw]at az ⊢;clear aw an aN aT aq aD hm hy e
    have z1:(i:Int) < (xs.length:Int):=by omega
    have a5:(f+1+1).tmod 3=(f+1+1) % 3:=Int.tmod_eq_emod_of_nonneg (by omega);obtain⟨B,hB⟩:∃B,((f+1+1) % 3==0)=B:=⟨_,rfl⟩;have aU:wr.frozen? ⟨g,i * 5,none⟩=false:=InL.frozE (n.out) (i * 5);obtain⟨bc,aX⟩:∃z,wr.cell? ⟨g,i * 5,none⟩=some z:=InL.someE (L:=Q1Q) (hs) (n.out) i 0 (by(try simp) <;> omega) (by decide)
    have I:InL Q1Q 83 lo hi (wr.setCell ⟨g,i * 5,none⟩ (.int .i64 (f))) (.slice (some ⟨g,0,none⟩) xs.length cap) (hs.set i { y with id:=f }):=by
     have h:=InL.putE (L:=Q1Q) (hs) (n.out) i 0 (by(try simp) <;> omega) (by decide) (.int .i64 (f)) { y with id:=f } (by rw[HY.out];rfl);exact h
    have aV:(wr.setCell ⟨g,i * 5,none⟩ (.int .i64 (f))).frozen? ⟨g,i * 5+1,none⟩=false:=InL.frozE (I) (i * 5+1);obtain⟨be,aY⟩:∃z,(wr.setCell ⟨g,i * 5,none⟩ (.int .i64 (f))).cell? ⟨g,i * 5+1,none⟩=some z:=InL.someE (L:=Q1Q) (hs.set i { y with id:=f }) (I) i 1 (by(try simp) <;> omega) (by decide)
    have J:InL Q1Q 83 lo hi ((wr.setCell ⟨g,i * 5,none⟩ (.int .i64 (f))).setCell ⟨g,i * 5+1,none⟩ (.int .i64 (f+1))) (.slice (some ⟨g,0,none⟩) xs.length cap) (hs.set i { y with id:=f,lim:=f+1 }):=by
     have h:=InL.putE (L:=Q1Q) (hs.set i { y with id:=f }) (I) i 1 (by(try simp) <;> omega) (by decide) (.int .i64 (f+1)) { y with id:=f,lim:=f+1 } (by rw[Q0Z (by omega)];rfl);rw[List.set_set]at h;exact h
    have aW:((wr.setCell ⟨g,i * 5,none⟩ (.int .i64 (f))).setCell ⟨g,i * 5+1,none⟩ (.int .i64 (f+1))).frozen? ⟨g,i * 5+2,none⟩=false:=InL.frozE (J) (i * 5+2);obtain⟨bf,aZ⟩:∃z,((wr.setCell ⟨g,i * 5,none⟩ (.int .i64 (f))).setCell ⟨g,i * 5+1,none⟩ (.int .i64 (f+1))).cell? ⟨g,i * 5+2,none⟩=some z:=InL.someE (L:=Q1Q) (hs.set i { y with id:=f,lim:=f+1 }) (J) i 2 (by(try simp) <;> omega) (by decide)
    have M:InL Q1Q 83 lo hi (((wr.setCell ⟨g,i * 5,none⟩ (.int .i64 (f))).setCell ⟨g,i * 5+1,none⟩ (.int .i64 (f+1))).setCell ⟨g,i * 5+2,none⟩ (.bool B)) (.slice (some ⟨g,0,none⟩) xs.length cap) (hs.set i { y with id:=f,lim:=f+1,dr:=B }):=by
     have h:=InL.putE (L:=Q1Q) (hs.set i { y with id:=f,lim:=f+1 }) (J) i 2 (by(try simp) <;> omega) (by decide) (.bool B) { y with id:=f,lim:=f+1,dr:=B } (by rw[Q0Z (by omega)];rfl);rw[List.set_set]at h;exact h
    have c1:(((wr.setCell ⟨g,i * 5,none⟩ (.int .i64 (f))).setCell ⟨g,i * 5+1,none⟩ (.int .i64 (f+1))).setCell ⟨g,i * 5+2,none⟩ (.bool B)).cell? ⟨g,i * 5+3,none⟩=some v1:=by
     have h:=InL.cellE (L:=Q1Q) (hs.set i { y with id:=f,lim:=f+1,dr:=B }) (M) i 3 (by(try simp) <;> omega) (by decide);rw[Q0Z (by omega)]at h;rw[<-e1];exact h
    have c2:(((wr.setCell ⟨g,i * 5,none⟩ (.int .i64 (f))).setCell ⟨g,i * 5+1,none⟩ (.int .i64 (f+1))).setCell ⟨g,i * 5+2,none⟩ (.bool B)).cell? ⟨g,i * 5+4,none⟩=some v2:=by
     have h:=InL.cellE (L:=Q1Q) (hs.set i { y with id:=f,lim:=f+1,dr:=B }) (M) i 4 (by(try simp) <;> omega) (by decide);rw[Q0Z (by omega)]at h;rw[<-e2];exact h
    have ah:=Q00 M;have HP:=Q00 (show Stp g (g+1) wr (((wr.setCell ⟨g,i * 5,none⟩ (.int .i64 (f))).setCell ⟨g,i * 5+1,none⟩ (.int .i64 (f+1))).setCell ⟨g,i * 5+2,none⟩ (.bool B))from((((Stp.refl wr).trans (Q07 _ g _ _)).trans (Q07 _ g _ _)).trans (Q07 _ g _ _)))
    have G:∀j,j < xs.length->g+1<=L j\/H j<=g:=fun j T=>by have:=R.out j T;omega
    have aJ:=Q00 G;have C:=Q00 (A.out.step HP.out (fun j T=>G j (by rw[Q0X]at T;exact T)));have a6:=G i hlt;have s:=Q00 (InRow.step ic HP.out (by omega));have u:=Q00 (InRow.step it HP.out (by omega));obtain⟨o1,a1,ap,_⟩:=InRow.ri s.out;obtain⟨o2,a3,aM,_⟩:=InRow.ri u.out;have ad:=Q00 (Q38 a v1 m.c (f+1+1+1) _ s.out.1 (by omega) (by omega) aR);have X:=Q00 aA;have N:=Q00 (And.intro e1 e2);have V:=Q00 (And.intro ap aM);have a0:g < wr.heap.size:=Kbq aP F.out.size;rw[ap]at c1;have ac:=Q00 c2;clear ic it aA G e1 e2 c2 I J M
    go_wp2_with fail;rw[<-V.out.1];refine ad.out.mono ?_;rintro e w4 ⟨rfl,aB,Z⟩
    have ax:∀q,v1.ownBlock=some q->L i<=q/\q < H i:=fun q U=>by have h1:=(s.out.1.lt q U).1;have h2:=s.out.2 q U;omega
    have ay:∀q,v2.ownBlock=some q->L i<=q/\q < H i:=fun q U=>by have h1:=(u.out.1.lt q U).1;have h2:=u.out.2 q U;omega
    have s1:Stp (L i) (H i) (((wr.setCell ⟨g,i * 5,none⟩ (.int .i64 (f))).setCell ⟨g,i * 5+1,none⟩ (.int .i64 (f+1))).setCell ⟨g,i * 5+2,none⟩ (.bool B)) w4:=Stp.grown Z ax;have aO:=R.out i hlt;have ak:=Q00 (InRow.steps ah.out s1 (fun q e=>by have e:=Option.some.inj e;simp at e;omega));have O:=Q00 (InRow.kept u.out Z (Qco X.out));have c3:w4.cell? ⟨g,i * 5+4,none⟩=some v2:=s1.cellP ac.out aO;rw[V.out.2]at c3;have S1:=Q00 s1;have af:=Q00 aB;have ae:=Q00 (Q38 a2 v2 m.t (f+1+1+1+5 * (m.c.length:Int)) _ O.out.1 (by omega) (by omega) aS)
    clear c1 aB Z s1 ad ac aU aX aV aY aW aZ;go_wp2_with fail;rw[<-V.out.2];refine ae.out.mono ?_;rintro e w5 ⟨rfl,aC,aa⟩;have s2:Stp (L i) (H i) w4 w5:=Stp.grown aa ay;have P:=Q00 (World.ownsRow.kept af.out aa X.out);have ag:=Q00 aC;have al:=Q00 (InRow.steps ak.out s2 (fun q e=>by have e:=Option.some.inj e;simp at e;omega));have Y:=Q00 (S1.out.trans s2);clear c3 aC aa s2 ae af;have x:=Q00 (Stp.refl (lo:=g) (hi:=g+1) w5);have aK:Hid (InL Q1Q 83 lo hi w5 (.slice (some ⟨g,0,none⟩) xs.length cap) (hs.set i { y with id:=f,lim:=f+1,dr:=B })):=al.out
    have ai:Hid (QA (L i) (H i) w5 (Qj3 { y with id:=f,lim:=f+1,dr:=B }) (QiA f m)):=by
     rw[<-hB];refine⟨v1,v2,a,b,a2,b2,by unfold QiA;rw[<-N.out.1,<-N.out.2],kb,InRow.step ⟨P.out,s.out.2⟩ x.out (by omega),InRow.step ⟨ag.out,u.out.2⟩ x.out (by omega),X.out⟩
    have aF:Hid (RwE elA (Q1D (Qh4 k xs) xs amD (i+1)) lo hi w5 (hs.set i { y with id:=f,lim:=f+1,dr:=B }) L H):=by
     unfold Hid;rw[<-Q4U,az.out];refine C.out.set (by rw[Q0X];exact hlt) (fun j T aQ=>?_) ai.out
     have av:j < xs.length:=by rw[Q0X]at T;exact T
     have ba:=am.out j i av hlt aQ;exact elA.qs.go (elA.qs.go (C.out.row j T) Y.out (by omega)) x.out (aJ.out j av)
    have aL:=Q00 (F.out.trans ((HP.out.wide2 au ar).trans ((Y.out.wide2 (ab.out i hlt).1 (ab.out i hlt).2).trans (x.out.wide2 au ar))));clear A C ak al s u O S1 Y HP x ah n F ai P ag
    skip
    go_wp2;go_roundw
    case rel=>
     refine⟨i+1,hs.set i { y with id:=f,lim:=f+1,dr:=B },by omega,by go_num,by rw[aG.out],aK.out,aF.out,aL.out⟩
    case measure=>simp[intOf];omega
   ·have e:i=xs.length:=by omega
    subst e;have aE:Q0K (nA xs) xs.length=nAs xs:=rfl;rw[aE];have HE:Hid (Q1D (Qh4 k xs) xs amD xs.length=QhW k xs):=Q4z _ _ _;have aH:=Q00 (QfO k xs);clear aE;go_wp2;go_ret;exact⟨rfl,⟨hs,L,H,n.out,by rw[<-HE.out];exact A.out,by rw[aH.out];exact aI.out⟩,F.out⟩
end Go.Proofs.YteffhdcankkfkaaGreat
