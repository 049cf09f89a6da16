/- Several texts in one: SL4, ShP, ShBal, SL4b, SBSame2, SJS, SRep, SJCut, SNote. -/
import Derived.Deep.CutRange
import Derived.Test.YteffhdcankkfkaaGreatQListed31
namespace Go.Proofs.YteffhdcankkfkaaGreat
open Go.ChangeShapes Go.WideShapes Go.ChangeAt Go.RowKit Go.Joins
set_option linter.unusedVariables false
set_option linter.unusedSimpArgs false
set_option maxRecDepth 100000
set_option maxHeartbeats 40000000
theorem Q8z {w:World} {base:Nat} {v:Value} {l:List Bk} (h:Q1F w base v l) {o:Option Addr} {n c:Nat} (e:v=.slice o n c):o=none->c=0:=fun e'=>(InRow.cap (InRow.of h)) n c (by rw[e,e'])
theorem bC {C b j:Nat} {w w':World} {u:Value} (h:Below C w w') (hc:w.cell? ⟨b,j,none⟩=some u) (hz:b < C):w'.cell? ⟨b,j,none⟩=some u:=(h.cell (p:=⟨b,j,none⟩) hz).trans hc
theorem bF {C b j:Nat} {w w':World} (h:Below C w w') (hc:w.frozen? ⟨b,j,none⟩=false) (hz:b < C):w'.frozen? ⟨b,j,none⟩=false:=(h.frozen (p:=⟨b,j,none⟩) hz).trans hc
abbrev plv (k:Int) (vb vr:Value):Value:=.agg #[.int .i64 k,vb,vr]
theorem Q3p {w:World} {x y:Int} {z:Bool} {T:TypeId}:RdK (w.alloc (.cells #[.int .i64 x,.int .i64 y,.bool z] T)).heap.size (w.alloc (.cells #[.int .i64 x,.int .i64 y,.bool z] T)) (some ⟨w.heap.size,0,none⟩) [(x,y,z)]:=
 .inr ⟨w.heap.size,0,rfl,by simp,fun i hi j b=>by
  have a:i=0:=by simpa using hi
  subst a
  match j,b with
  |0,_=>simp[Q0L]
  |1,_=>simp[Q0L]
  |2,_=>simp[Q0L]⟩
theorem Qan:(Tryz.prog.info? 206).map (fun i=>(i.zero,i.size,i.bytes))=some (some (.slice none 0 0),1,24):=by kernel_rfl
theorem Q5O:AppOk Q0q 27 206:=⟨Tryz.underlying27,⟨_,_,Qan,rfl,by decide⟩,by decide,fun a u hu=>by
 simp[Q0q]at hu;subst hu;rfl⟩
theorem Q5c {w:World} {base s n:Nat} {e T:TypeId} {v:Value} {xs:List Value} {B:Nat} {c:Array Value} (h:w.ownsRow base e s v n xs) (b:w.heap[B]? =some (.cells c T (0,0))) (j:e≠T):v.ownBlock=none\/v.ownBlock≠some B:=by
 rcases h.2 with⟨a,h2⟩|⟨g,cap,f,a,k,i,_⟩
 ·left;rw[a];rfl
 ·right
  rw[a];intro d;simp[Value.ownBlock]at d;subst d;rw[i]at b;simp at b;exact j b.2
theorem Q18 (w:World) (B j:Nat) (u:Value):w.grownBy (w.setCell ⟨B,j,none⟩ u) (some B):=
 ⟨rfl,rfl,rfl,by simp[World.setCell],fun k b a=>Below.heap_setCell w ⟨B,j,none⟩ u k (fun e=>a (by rw[e]))⟩
theorem Q0p {W:World} {B:Nat} {c:Array Value} {T:TypeId} (h:W.heap[B]? =some (.cells c T (0,0))) (j:Nat) (u:Value):(W.setCell ⟨B,j,none⟩ u).heap[B]? =some (.cells (c.setIfInBounds j u) T (0,0)):=by
 simp[World.setCell,Array.getElem?_modify,h]
theorem Q02 {W:World} {B:Nat} {c:Array Value} {t:TypeId} (h:W.heap[B]? =some (.cells c t (0,0))) (j:Nat) (u:Value) (hj:c[j]? =some u):W.cell? ⟨B,j,none⟩=some u:=by
 simp[World.cell?,h,hj]
theorem Q04 {W:World} {B:Nat} {c:Array Value} {t:TypeId} (h:W.heap[B]? =some (.cells c t (0,0))) (j:Nat):W.frozen? ⟨B,j,none⟩=false:=by
 simp[World.frozen?,h]
structure St (W0 W:World) (lv:Value) (s:List Bk) (B:Nat) (x y:Int) (u:Bool):Prop where
 own:Q1F W W0.heap.size lv s
 bel:Below W0.heap.size W0 W
 box:W.heap[B]? =some (.cells #[.int .i64 x,.int .i64 y,.bool u] 259 (0,0))
 ge:W0.heap.size<=B
 ne:∀b,lv.ownBlock=some b->b≠B
theorem St.start {a wr:World} {f:Value} {s:List Bk} {x y:Int} {u:Bool} (d:Q1F wr a.heap.size f s) (c:Below a.heap.size a wr):St a (wr.alloc (.cells #[.int .i64 x,.int .i64 y,.bool u] 259)) f s wr.heap.size x y u:=
 ⟨World.ownsRow.alloc d _,c.alloc c.size _,World.alloc_heap_new wr _,c.size,fun b e=>by have:=(d.lt b e).2;omega⟩
theorem St.app {f W i:World} {g d:Value} {s:List Bk} {B:Nat} {x y:Int} {u:Bool} {a:Bk} {A:Obj} (h:St f W g s B x y u) (m:Q1F i f.heap.size d (s++[a])) (j:(W.alloc A).grownBy i g.ownBlock) (c:d.ownBlock=g.ownBlock\/d.ownBlock=some (W.heap.size+1)):St f i d (s++[a]) B x y u:=by
 have l:B < W.heap.size:=(KEq h.box);have hs:=h.bel.size;refine⟨m,(h.bel.alloc hs A).grown j (by simp;omega) (fun k e=>(h.own.lt k e).1), ?_,h.ge, ?_⟩
 ·rw[j.block B (by simp;omega) (fun e=>h.ne B e.symm rfl),Below.heap_alloc _ _ _ l]
  exact h.box
 ·intro b e
  rcases c with c|c
  ·exact h.ne b (by rw[<-c,e])
  ·rw[c]at e
   simp at e;omega
theorem St.put1 {d W:World} {c:Value} {s:List Bk} {B:Nat} {x y:Int} {u:Bool} (h:St d W c s B x y u) (g:Int):St d (W.setCell ⟨B,1,none⟩ (.int .i64 g)) c s B x g u:=
 ⟨World.ownsRow.kept h.own (Q18 W B 1 _) (by cases a:c.ownBlock with
  |none=>exact .inl rfl
  |some b=>exact .inr (fun e=>h.ne b a (by injection e))),h.bel.setCell (p:=⟨B,1,none⟩) h.ge _,by rw[Q0p h.box];rfl,h.ge,h.ne⟩
theorem St.put2 {f W:World} {c:Value} {s:List Bk} {B:Nat} {x y:Int} {u:Bool} (h:St f W c s B x y u) (d:Bool):St f (W.setCell ⟨B,2,none⟩ (.bool d)) c s B x y d:=
 ⟨World.ownsRow.kept h.own (Q18 W B 2 _) (by cases a:c.ownBlock with
  |none=>exact .inl rfl
  |some b=>exact .inr (fun e=>h.ne b a (by injection e))),h.bel.setCell (p:=⟨B,2,none⟩) h.ge _,by rw[Q0p h.box];rfl,h.ge,h.ne⟩
def RingO (w:World) (base:Nat) (v:Value) (T:Nat->List Int) (hsR:List Hd):Prop:=∃o3 c3 hs3,ownL Q0q 206 w base v ((o3,8,c3)::hsR)/\ownL Q0q 22 w base (.slice o3 8 c3) hs3/\Tab T 8 w base hs3
theorem Qht:(206:TypeId)≠29:=by decide
theorem Qj8:(22:TypeId)≠29:=by decide
theorem Qj5:(3:TypeId)≠29:=by decide
theorem QdR:(259:TypeId)≠29:=by decide
theorem Qjd:(22:TypeId)≠206:=by decide
theorem Qji:(3:TypeId)≠206:=by decide
theorem Q0I {w:World} {base s n:Nat} {e:TypeId} {v:Value} {xs:List Value} {B:Nat} {c:Array Value} (h:w.ownsRow base e s v n xs) (a:w.heap[B]? =some (.cells c 29 (0,0))) (b:e≠29) (j:Nat) (u:Value):(w.setCell ⟨B,j,none⟩ u).ownsRow base e s v n xs:=
 World.ownsRow.kept h (Q18 w B j u) (Q5c h a b)
theorem Q0i {w:World} {base s n:Nat} {e:TypeId} {v:Value} {xs:List Value} {B:Nat} (h:w.ownsRow base e s v n xs) (a:B < base) (j:Nat) (u:Value):(w.setCell ⟨B,j,none⟩ u).ownsRow base e s v n xs:=
 World.ownsRow.kept h (Q18 w B j u) (by
  cases hob:v.ownBlock with
  |none=>exact .inl rfl
  |some b=>exact .inr (fun e=>by have:=(h.lt b hob).1;injection e with e;omega))
theorem RingO.put {w:World} {base:Nat} {v:Value} {T:Nat->List Int} {a:List Hd} {B:Nat} {c:Array Value} (h:RingO w base v T a) (b:w.heap[B]? =some (.cells c 29 (0,0))) (j:Nat) (u:Value):RingO (w.setCell ⟨B,j,none⟩ u) base v T a:=by
 obtain⟨l,g,d,k,h2,f⟩:=h;exact⟨l,g,d,Q0I k b Qht j u,Q0I h2 b Qj8 j u,f.grown (Q18 w B j u) (fun i hi=>Q5c (f.row i hi) b Qj5)⟩
theorem RingO.low {w:World} {base:Nat} {v:Value} {T:Nat->List Int} {c:List Hd} {B:Nat} (h:RingO w base v T c) (f:B < base) (j:Nat) (u:Value):RingO (w.setCell ⟨B,j,none⟩ u) base v T c:=by
 obtain⟨l,g,a,k,h2,d⟩:=h;refine⟨l,g,a,Q0i k f j u,Q0i h2 f j u,d.grown (Q18 w B j u) (fun i hi=>?_)⟩
 cases hob:(hv a i).ownBlock with
 |none=>exact .inl rfl
 |some b=>exact .inr (fun e=>by have:=((d.row i hi).lt b hob).1;injection e with e;omega)
theorem RingO.alloc {w:World} {base:Nat} {v:Value} {T:Nat->List Int} {a:List Hd} (h:RingO w base v T a) (o:Obj):RingO (w.alloc o) base v T a:=by
 obtain⟨g,c,b,d,h2,f⟩:=h;exact⟨g,c,b,World.ownsRow.alloc d o,World.ownsRow.alloc h2 o,f.kept (KBq.alloc (Kaq _) _)⟩
theorem RingO.isSome {w:World} {base:Nat} {v:Value} {T:Nat->List Int} {a:List Hd} (h:RingO w base v T a):∃g c,v=.slice (some ⟨g,0,none⟩) (a.length+1) c:=by
 obtain⟨j,f,d,b,h2,i⟩:=h;obtain⟨g,c,e⟩:=Q74 b (by simp);exact⟨g,c,by rw[e];simp⟩
theorem Q3l (w:World) (o:Option Addr) (n c:Nat) (T:TypeId):ownL Q0q T (w.alloc (.cells #[.slice o n c] T)) w.heap.size (.slice (some ⟨w.heap.size,0,none⟩) 1 1) [(o,n,c)]:=
 ⟨by simp[Q0q],.inr ⟨w.heap.size,1,#[.slice o n c],rfl,Kaq _,heap_alloc_new w _,by simp,by unfold maxLen;omega,by simp[Q0q],by simp[Q0q]⟩⟩
theorem Q27 {V f:World} {base:Nat} {s h:Value} {d:Option Addr} {c:Nat} {a b:List Hd} {T:Nat->List Int} (hs:ownL Q0q 206 V base s [(d,8,c)]) (h2:ownL Q0q 22 V base (.slice d 8 c) a) (i:Tab T 8 V base a) (j:ownL Q0q 206 f base h ([(d,8,c)]++b)) (g:V.grownBy f s.ownBlock):RingO f base h T b:=
 ⟨d,c,a,j,World.ownsRow.kept h2 g (Q6O h2 hs Qjd),i.other hs Qji g⟩
theorem Tab.mono {R:Nat->List Int} {k:Nat} {w:World} {base b2:Nat} {hs:List Hd} (h:Tab R k w base hs) (hb:b2<=base):Tab R k w b2 hs:=⟨h.len,fun i hi=>Q06 (h.row i hi) hb,h.apart⟩
abbrev setP (W:World) (B:Nat) (a b c:Value):World:=((W.setCell ⟨B,0,none⟩ a).setCell ⟨B,1,none⟩ b).setCell ⟨B,2,none⟩ c
theorem QfC {a W:World} {B:Nat} {key:Int} {c b:Value} {T:Nat->List Int} {d:List Hd} {m n q:Value} (i:W.heap[B]? =some (.cells #[m,n,q] 29 (0,0))) (l:Below a.heap.size a W) (f:a.heap.size<=B) (k:RingO W a.heap.size b T d):
  ∃B' j,Value.pointer (some ⟨B,0,none⟩)=.pointer (some ⟨B',0,none⟩)/\Hid ((setP W B (.int .i64 key) c b).heap[B']? =some (.cells #[.int .i64 key,c,j] 29 (0,0)))/\Hid (Below a.heap.size a (setP W B (.int .i64 key) c b))/\a.heap.size<=B'/\B' < (setP W B (.int .i64 key) c b).heap.size/\Hid (RingO (setP W B (.int .i64 key) c b) a.heap.size j T d):=by
 have g:=Q0p i 0 (.int .i64 key);have h2:=Q0p g 1 c;have h:=Q0p h2 2 b;refine⟨B,b,rfl,h,((l.setCell (p:=⟨B,0,none⟩) f _).setCell (p:=⟨B,1,none⟩) f _).setCell (p:=⟨B,2,none⟩) f _,f,(KEq h),((k.put i 0 _).put g 1 _).put h2 2 _⟩
theorem Qhz {a W:World} {key:Int} {d b:Value} {T:Nat->List Int} {c:List Hd} (f:Below a.heap.size a W) (h:RingO W a.heap.size b T c):
  ∃B' g,Value.pointer (some ⟨W.heap.size,0,none⟩)=.pointer (some ⟨B',0,none⟩)/\Hid ((W.alloc (.cells #[.int .i64 key,d,b] 29)).heap[B']? =some (.cells #[.int .i64 key,d,g] 29 (0,0)))/\Hid (Below a.heap.size a (W.alloc (.cells #[.int .i64 key,d,b] 29)))/\a.heap.size<=B'/\B' < (W.alloc (.cells #[.int .i64 key,d,b] 29)).heap.size/\Hid (RingO (W.alloc (.cells #[.int .i64 key,d,b] 29)) a.heap.size g T c):=
 ⟨W.heap.size,b,rfl,World.alloc_heap_new W _,f.alloc f.size _,f.size,by simp,h.alloc _⟩
theorem Q3J {w a:World} {c:Array Value} {T:TypeId} (d:Below ((w.alloc (.cells c T)).drew).heap.size (w.alloc (.cells c T)).drew a):a.heap[w.heap.size]? =some (.cells c T (0,0)):=by
 have b:=d.block w.heap.size (by simp);have h2:(w.alloc (.cells c T)).drew.heap[w.heap.size]? =(w.alloc (.cells c T)).heap[w.heap.size]? :=rfl;exact b.trans (h2.trans (World.alloc_heap_new w (.cells c T)))
theorem Q31 {V d:World} {B n:Nat} {c:Array Value} {T:TypeId} (f:V.grownBy d (Value.slice (some ⟨n,0,none⟩) 1 1).ownBlock) (b:V.heap[B]? =some (.cells c T (0,0))) (a:B≠n):d.heap[B]? =some (.cells c T (0,0)):=
 (f.block B (KEq b) (by simp[Value.ownBlock];exact a)).trans b
theorem Q0h {W:World} {B b j:Nat} {u x y z:Value} (h:W.cell? ⟨b,j,none⟩=some u) (a:b < B):(setP W B x y z).cell? ⟨b,j,none⟩=some u:=
 (((((Below.refl B W).setCell (p:=⟨B,0,none⟩) (Kaq _) x).setCell (p:=⟨B,1,none⟩) (Kaq _) y).setCell (p:=⟨B,2,none⟩) (Kaq _) z).cell (p:=⟨b,j,none⟩) a).trans h
theorem Q8M (w:World) (a:Obj) (o:Option Addr) (n c:Nat) (T:TypeId):ownL Q0q T ((w.alloc a).alloc (.cells #[.slice o n c] T)) (w.heap.size+1) (.slice (some ⟨w.heap.size+1,0,none⟩) 1 1) [(o,n,c)]:=by
 have h:=Q3l (w.alloc a) o n c T;rw[World.size_alloc]at h;exact h
theorem Q62 (w:World) (c:Array Value) (T:TypeId) (a:Obj):((w.alloc (.cells c T)).alloc a).heap[w.heap.size]? =some (.cells c T (0,0)):=(Below.heap_alloc _ _ _ (by simp)).trans (World.alloc_heap_new w _)
theorem Q2w (w:World) (c:Array Value) (T:TypeId) (a:Obj):((w.alloc a).alloc (.cells c T)).heap[w.heap.size+1]? =some (.cells c T (0,0)):=by
 have h:=World.alloc_heap_new (w.alloc a) (.cells c T);rw[World.size_alloc]at h;exact h
theorem RingO.cap {w:World} {base n c:Nat} {g:Nat} {T:Nat->List Int} {a:List Hd} (h:RingO w base (.slice (some ⟨g,0,none⟩) n c) T a):n<=c:=by
 obtain⟨t,j,i,d,h2,l⟩:=h
 rcases d.2 with⟨e,_⟩|⟨k,cap,b,e,r,s,f,m,p,q⟩
 ·cases e
 ·injection e with e1 e2 e3
  rw[e2,e3];exact f
theorem Q0c {w:World} {B b j q:Nat} {u:Value} (h:b≠B):(w.setCell ⟨B,q,none⟩ u).cell? ⟨b,j,none⟩=w.cell? ⟨b,j,none⟩:=by
 simp only[World.cell?,Below.heap_setCell w ⟨B,q,none⟩ u b h]
theorem Q1p {w:World} {B b j q:Nat} {u:Value} (h:b≠B):(w.setCell ⟨B,q,none⟩ u).frozen? ⟨b,j,none⟩=w.frozen? ⟨b,j,none⟩:=by
 simp only[World.frozen?,Below.heap_setCell w ⟨B,q,none⟩ u b h]
theorem Q6C {w:World} {base g n c:Nat} {e:TypeId} {hs:List Hd} (h:ownL Q0q e w base (.slice (some ⟨g,0,none⟩) n c) hs) (b:3<=hs.length):ownL Q0q e w base (.slice (some ⟨g,0,none⟩) 3 c) (hs.take 3):=by
 have d:n=hs.length:=by
  obtain⟨i,f,a,_⟩:=ownL.open (L:=Q0q) h;injection a with _ e2 _
 subst d;exact Q7N (L:=Q0q) h 3 b
theorem RingO.mono {w:World} {base d:Nat} {v:Value} {T:Nat->List Int} {a:List Hd} (h:RingO w base v T a) (b:d<=base):RingO w d v T a:=by
 obtain⟨j,f,c,g,h2,i⟩:=h;exact⟨j,f,c,Q06 g b,Q06 h2 b,Tab.mono i b⟩
def Q5F (key:Int) (m:List Bk) (hsR:List Hd) (w:World) (e:Ending) (w':World):Prop:=∃o2 c2 oR2 n2 cR2 o3 c3 hs3,e=.returned (.tuple #[plv key (.slice o2 m.length c2) (.slice oR2 n2 cR2),.bool true])/\n2=(((o3,8,c3)::hsR).take 3).length/\Q1F w' w.heap.size (.slice o2 m.length c2) m/\ownL Q0q 206 w' w.heap.size (.slice oR2 n2 cR2) (((o3,8,c3)::hsR).take 3)/\ownL Q0q 22 w' w.heap.size (.slice o3 8 c3) hs3/\Tab (fun b=>Q0U key b m) 8 w' w.heap.size hs3/\Below w.heap.size w w'
theorem Qf4 {l:List Bk} {i:Int} (h:Q0m l i=false):Q6x l i= -1:=by unfold Q6x;rw[h];rfl
theorem Qcm {l:List Bk} {i:Int} (h:Q0m l i=true):Q6x l i=(Q0e l i:Int):=by unfold Q6x;rw[h];rfl
theorem QfU (key:Int) (o:Option Addr) (cap:Nat) (l:List Bk) (oR:Option Addr) (cR:Nat) (d:List Hd) (i g:Int) (m:List Bk) (w:World) (hk:Q1S key=true) (hl:Q0d l=true) (hc:Q1y 0 i g=true) (hm:doL l 0 i g=some m) (cp:l.length<=100) (hR:RdK w.heap.size w o l) (hG:RdL Q0q w.heap.size w oR d) (aV:oR=none->cR=0) (ct:d.length<=3):
  Calls Tryz.prog 177 #[plv key (.slice o l.length cap) (.slice oR d.length cR),cmd 0 i g] w fun e w'=>Q5F key m d w e w':=by
 obtain⟨W0,aw⟩:∃W,(((w.alloc (.cells #[.int .i64 key,.slice o l.length cap,.slice oR d.length cR] 29)).alloc (.cells #[.int .i64 0,.int .i64 i,.int .i64 g] 256)).alloc (.cells #[.int .i64 0,.slice none 0 0,.slice none 0 0] 29))=W:=⟨_,rfl⟩;have a7:=alb0v0v3 aw;have HB:=Q00 a7;clear a7;have zz:=alz0v0v3 aw;obtain⟨z0,z1,z2⟩:=alc3v0v3 aw;have zu:=alz0v1v3 aw;obtain⟨u0,u1,u2⟩:=alc3v1v3 aw;have zr:=alz0v2v3 aw;obtain⟨r0,r1,r2⟩:=alc3v2v3 aw;obtain⟨b3,b4,b5⟩:=alf3v2v3 aw;have cs:=zr;have HR:=Q00 hR;have HG:=Q00 hG;have ah:=HB.out.size
 have HF:=Q00 (Q59 o cap l i W0 ((hR.kept HB.out (Kaq _)).le HB.out.size) (by omega) hl);have ar:=Q00 (QeI hl hc hm);have aO:=QeL hl hc hm;have cl:=Q8w hm
 have bn:Q0m l i=false:=by rcases Q4Q hm with⟨h,_⟩|⟨_,h,_⟩|⟨_,h,_⟩|⟨_,h,_⟩ <;> first|exact h|(exact absurd h (by decide))|(exact absurd rfl h)
 rw[Qf4 bn]at HF ar;clear hR hG hl hc;have aK:=Q00 (fun t=>Q8L (l:=l) (k:=0) (i:=i) (g:=g) (fi:= -1) t);have Z0:=z0;have Z1:=z1;have Z2:=z2;have ZZ:=zz;have U0:=u0;have U1:=u1;have U2:=u2;have ZU:=zu;have Q0:=r0;have Q1:=r1;have Q2:=r2;have ZQ:=zr;have FQ0:=b3;have FQ1:=b4;have FQ2:=b5;go_enter Tryz.func177,Tryz.ntmps177;go_wp2_with fail;refine HF.out.mono ?_;rintro e w9 ⟨rfl,rfl⟩;go_wp2
 go_loopw [7,8,9] (fun lv pv tv wr=> ∃t:Nat,t<=l.length/\tv=.int .i64 (t:Int)/\pv=.bool (Q4j l 0 i g (-1) t).2/\Hid (Q1F wr W0.heap.size lv (Q4j l 0 i g (-1) t).1)/\Hid (Below W0.heap.size W0 wr))
  (fun _ _ tv _=>l.length - (intOf tv).toNat)
 case atStart=>exact⟨0,Kcq _,rfl,by simp[Q4j],KLq _ _ _ _,KBq⟩
 case round=>
  obtain⟨t,cx,rfl,rfl,HO,af⟩:=hrel;clear HF z0 z1 z2 u0 u1 u2 r0 r1 r2 b3 b4 b5 zz zu zr aw;have bm:Hid (Below w.heap.size w wr):=HB.out.trans (af.out.mono ah)
  by_cases hlt:t < l.length
  ·skip
   have cq:(t:Int) < (l.length:Int):=by omega
   have cw:(0:Int)<=(t:Int):=by omega
   rcases HR.out with hR|⟨b,bR,rfl,bO,a8⟩
   ·subst hR;simp at hlt
   obtain⟨c0,c1,c2⟩:=RdL.back (C:=w.heap.size) a8 t hlt;replace c0:=(bm.out.cell (p:=⟨b,bR+t * 3,none⟩) bO).trans c0;replace c1:=(bm.out.cell (p:=⟨b,bR+t * 3+1,none⟩) bO).trans c1;replace c2:=(bm.out.cell (p:=⟨b,bR+t * 3+2,none⟩) bO).trans c2;have bb:=Q4k l 0 i g (-1) t;have ax:=Q00 (show Q4j l 0 i g (-1) (t+1)=Q40 0 i g (-1) (Q4j l 0 i g (-1) t) t (l.getD t (0,0,false))from rfl);have au:=aK.out t;obtain⟨x,y,u,bJ⟩:∃x y u,l.getD t (0,0,false)=(x,y,u):=⟨_,_,_,rfl⟩;rw[bJ]at c0 c1 c2 ax;dsimp only at c0 c1 c2;clear bJ a8
   obtain⟨s1,s2,aA⟩:∃s1 s2,Q4j l 0 i g (-1) t=(s1,s2):=⟨_,_,rfl⟩;rw[aA]at HO ax bb au ⊢;dsimp only at HO bb au ⊢;clear aA ar aK;have bl:=bC af.out Z1 ZZ;have cr:((t:Int)== -1)=false:=beq_eq_false_iff_ne.2 (by omega)
   have aJ:¬((t:Int)= -1):=by omega
   cases s2 with
   |true=>
    have F:=ax.out;unfold Q40 at F;simp only[aJ,if_false,Bool.true_eq_false,false_and]at F;have av:=Q00 F;clear ax F
    (try have H1:=Q00 h1)
    (try have H3:=Q00 h3)
    (try clear h1 h3)
    (try clear h3)
    obtain⟨W2,a5⟩:∃W,wr.alloc (.cells #[.int .i64 x,.int .i64 y,.bool u] 259)=W:=⟨_,rfl⟩
    have f:Hid (St W0 W2 u7 s1 wr.heap.size x y u):=by rw[<-a5];exact St.start HO.out af.out
    have bk:=bC f.out.bel Z1 ZZ;have bh:=bC f.out.bel U0 ZU;have bi:=bC f.out.bel U1 ZU;have bj:=bC f.out.bel U2 ZU;have aZ:=Q02 f.out.box 0 _ rfl;have a0:=Q02 f.out.box 1 _ rfl;have a1:=Q02 f.out.box 2 _ rfl;have aL:=Q04 f.out.box 0;have aM:=Q04 f.out.box 1;have aN:=Q04 f.out.box 2
    go_wp2_with (at_builtin;refine Q08 Q3Y rfl (.tmp 69) (.tmp 71) rfl W0.heap.size _ _ rfl (World.ownsRow.alloc f.out.own (.cells #[.int .i64 x,.int .i64 y,.bool u] 259)) (some ⟨W2.heap.size,0,none⟩) 1 (W2.alloc (.cells #[.int .i64 x,.int .i64 y,.bool u] 259)).heap.size [(x,y,u)] 1 rfl rfl (fun h=>by cases h) Q3p (by simp;omega) (by have:=f.out.bel.size;simp;omega) ?_);intro v6 w6 ae ag am;have az:=Q00 (f.out.app ae ag am);clear ae ag am;go_wp2;go_roundw
    case rel=>exact⟨t+1,by omega,by go_num,by rw[av.out],by rw[av.out];exact az.out.own,az.out.bel⟩
    case measure=>simp[intOf];omega
   |false=>
    by_cases hgt:i < x
    ·skip
     have F:=ax.out;unfold Q40 at F;simp only[aJ,if_false,hgt,and_self,if_true]at F;have av:=Q00 F;clear ax F
     (try have H1:=Q00 h1)
     (try have H3:=Q00 h3)
     (try clear h1 h3)
     (try clear h3)
     obtain⟨W2,a5⟩:∃W,wr.alloc (.cells #[.int .i64 x,.int .i64 y,.bool u] 259)=W:=⟨_,rfl⟩
     have f:Hid (St W0 W2 u7 s1 wr.heap.size x y u):=by rw[<-a5];exact St.start HO.out af.out
     have bk:=bC f.out.bel Z1 ZZ;have bh:=bC f.out.bel U0 ZU;have bi:=bC f.out.bel U1 ZU;have bj:=bC f.out.bel U2 ZU;have aZ:=Q02 f.out.box 0 _ rfl;have a0:=Q02 f.out.box 1 _ rfl;have a1:=Q02 f.out.box 2 _ rfl;have aL:=Q04 f.out.box 0;have aM:=Q04 f.out.box 1;have aN:=Q04 f.out.box 2
     go_wp2_with (at_builtin;refine Q08 Q3Y rfl (.tmp 48) (.tmp 54) rfl W0.heap.size _ _ rfl (World.ownsRow.alloc f.out.own (.cells #[.int .i64 i,.int .i64 g,.bool false] 259)) (some ⟨W2.heap.size,0,none⟩) 1 (W2.alloc (.cells #[.int .i64 i,.int .i64 g,.bool false] 259)).heap.size [(i,g,false)] 1 rfl rfl (fun h=>by cases h) Q3p (by simp;omega) (by have:=f.out.bel.size;simp;omega) ?_);intro v5 w5 ae ag am;have ay:=Q00 (f.out.app ae ag am);clear ae ag am;generalize hs5:s1++[(i,g,false)]=s5 at ay av
     have cv:s5.length=s1.length+1:=by rw[<-hs5];simp
     clear hs5;have co:=bC ay.out.bel Z1 ZZ;have b8:=Q02 ay.out.box 0 _ rfl;have b9:=Q02 ay.out.box 1 _ rfl;have ca:=Q02 ay.out.box 2 _ rfl;go_wp2_with (at_builtin;refine Q08 Q3Y rfl (.tmp 69) (.tmp 71) rfl W0.heap.size _ _ rfl (World.ownsRow.alloc ay.out.own (.cells #[.int .i64 x,.int .i64 y,.bool u] 259)) (some ⟨w5.heap.size,0,none⟩) 1 (w5.alloc (.cells #[.int .i64 x,.int .i64 y,.bool u] 259)).heap.size [(x,y,u)] 1 rfl rfl (fun h=>by cases h) Q3p (by simp;omega) (by have:=ay.out.bel.size;simp;omega) ?_);intro v6 w6 ae ag am;have az:=Q00 (ay.out.app ae ag am)
     clear ae ag am;go_wp2;go_roundw
     case rel=>exact⟨t+1,by omega,by go_num,by rw[av.out],by rw[av.out];exact az.out.own,az.out.bel⟩
     case measure=>simp[intOf];omega
    ·have cu:decide (i < x)=false:=decide_eq_false hgt
     have F:=ax.out;unfold Q40 at F;simp only[aJ,if_false,hgt,and_false]at F;have av:=Q00 F;clear ax F
     (try have H1:=Q00 h1)
     (try have H3:=Q00 h3)
     (try clear h1 h3)
     (try clear h3)
     obtain⟨W2,a5⟩:∃W,wr.alloc (.cells #[.int .i64 x,.int .i64 y,.bool u] 259)=W:=⟨_,rfl⟩
     have f:Hid (St W0 W2 u7 s1 wr.heap.size x y u):=by rw[<-a5];exact St.start HO.out af.out
     have bk:=bC f.out.bel Z1 ZZ;have bh:=bC f.out.bel U0 ZU;have bi:=bC f.out.bel U1 ZU;have bj:=bC f.out.bel U2 ZU;have aZ:=Q02 f.out.box 0 _ rfl;have a0:=Q02 f.out.box 1 _ rfl;have a1:=Q02 f.out.box 2 _ rfl;have aL:=Q04 f.out.box 0;have aM:=Q04 f.out.box 1;have aN:=Q04 f.out.box 2
     go_wp2_with (at_builtin;refine Q08 Q3Y rfl (.tmp 69) (.tmp 71) rfl W0.heap.size _ _ rfl (World.ownsRow.alloc f.out.own (.cells #[.int .i64 x,.int .i64 y,.bool u] 259)) (some ⟨W2.heap.size,0,none⟩) 1 (W2.alloc (.cells #[.int .i64 x,.int .i64 y,.bool u] 259)).heap.size [(x,y,u)] 1 rfl rfl (fun h=>by cases h) Q3p (by simp;omega) (by have:=f.out.bel.size;simp;omega) ?_);intro v6 w6 ae ag am;have az:=Q00 (f.out.app ae ag am);clear ae ag am;go_wp2;go_roundw
     case rel=>exact⟨t+1,by omega,by go_num,by rw[av.out],by rw[av.out];exact az.out.own,az.out.bel⟩
     case measure=>simp[intOf];omega
  ·have e:t=l.length:=by omega
   subst e;obtain⟨s1,s2,aA⟩:∃s1 s2,Q4j l 0 i g (-1) l.length=(s1,s2):=⟨_,_,rfl⟩;have bb:=Q4k l 0 i g (-1) l.length;have au:=aK.out l.length;rw[aA]at HO ar bb au ⊢;dsimp only at HO bb au ⊢;clear aA aK hlt;have bl:=bC af.out Z1 ZZ;have bV:=bC af.out U1 ZU;have bW:=bC af.out U2 ZU
   cases s2 with
   |true=>
    obtain rfl:m=s1:=ar.out.symm;have aH:=HO;have G:=af;obtain⟨o2,c2,e2,bf⟩:=ownL.open (L:=Q0L) aH.out;have bP:=Q00 (Q8z aH.out e2);subst e2;have aY:=Q00 bf;clear bf au;have a:Hid (Below w.heap.size w wr):=HB.out.trans (G.out.mono ah);have b7:=G.out.size;have aI:=Q00 (HG.out.kept a.out (Kaq _));clear HG;have T:=bC G.out Z0 ZZ;have V:=bC G.out Z2 ZZ;have aP:=bC G.out Q0 ZQ;have aR:=bC G.out Q1 ZQ;have aT:=bC G.out Q2 ZQ
    have a9:m.length<=1000:=by omega
    go_upto_region 21 with fail
    go_cut [11]from 83 to 94 (fun s11 wx=> ∃B v',s11=.pointer (some ⟨B,0,none⟩)/\Hid (wx.heap[B]? =some (.cells #[.int .i64 key,.slice o2 m.length c2,v'] 29 (0,0)))/\Hid (Below wr.heap.size wr wx)/\wr.heap.size<=B/\B < wx.heap.size/\Hid (RingO wx wr.heap.size v' (fun b=>Q0U key b m) d))
    case first=>
     have I:w.heap.size < wr.heap.size:=by have:=ZZ;omega
     go_region_held3 (fun w'=>w'.cell? ⟨w.heap.size,0,none⟩=some (.int .i64 key)/\w'.cell? ⟨w.heap.size,2,none⟩=some (.slice oR d.length cR)) (first|with_reducible exact⟨M,N⟩|with_reducible exact⟨aC,aD⟩|with_reducible exact⟨T,V⟩|with_reducible exact⟨Q0h M (show w.heap.size < wr.heap.size by omega),Q0h N (show w.heap.size < wr.heap.size by omega)⟩|with_reducible exact⟨Q0h M (show w.heap.size < n.heap.size by omega),Q0h N (show w.heap.size < n.heap.size by omega)⟩|with_reducible exact⟨Q0h M (show w.heap.size < n.heap.size+1 by omega),Q0h N (show w.heap.size < n.heap.size+1 by omega)⟩|go_keep) (first|(go_at_call 175;have ak:=Q1j key o2 c2 m wr.drew ((aY.out.kept (KHq KBq) (Kaq _)).le (by simp)) a9 hk aO;with_reducible refine ak.mono ?_;clear ak;rintro e n ⟨A,z,an,rfl,Z,aa,hb⟩;have r:Below wr.heap.size wr n:=Below.trans (show Below wr.heap.size wr wr.drew from(KHq KBq)) (hb.mono (by simp));have J:=r.size;have Z:=Q06 Z (show wr.heap.size<=_ by simp);have aa:=Tab.mono aa (show wr.heap.size<=_ by simp);have aC:=bC r T I;have aD:=bC r V I;clear hb)|(go_at_call 175;have ak:=Q1j key o2 c2 m (wr.alloc (.cells #[.int .i64 0,.slice none 0 0,.slice none 0 0] 29)).drew ((aY.out.kept (KHq (KBq.alloc (Kaq _) _)) (Kaq _)).le (by simp)) a9 hk aO;with_reducible refine ak.mono ?_;clear ak;rintro e n ⟨A,z,an,rfl,Z,aa,hb⟩;have r:Below wr.heap.size wr n:=Below.trans (show Below wr.heap.size wr (wr.alloc (.cells #[.int .i64 0,.slice none 0 0,.slice none 0 0] 29)).drew from(KHq (KBq.alloc (Kaq _) _))) (hb.mono (by simp));have J:=r.size;have Z:=Q06 Z (show wr.heap.size<=_ by simp);have aa:=Tab.mono aa (show wr.heap.size<=_ by simp);have aC:=bC r T I;have aD:=bC r V I;have a6:=Q3J hb;have aB:=(KEq a6);clear hb)|(have j:Below n.heap.size n (n.alloc (.cells #[.slice A 8 z] 206)):=((Below.refl n.heap.size n).alloc (Kaq _) (.cells #[.slice A 8 z] 206));have c:ownL Q0q 206 (n.alloc (.cells #[.slice A 8 z] 206)) wr.heap.size (.slice (some ⟨n.heap.size,0,none⟩) 1 1) [(A,8,z)]:=Q06 (Q3l n A 8 z _) (by(try simp) <;> omega);have aj:Below w.heap.size w (n.alloc (.cells #[.slice A 8 z] 206)):=a.out.trans ((r.mono a.out.size).trans (j.mono (Kdq a.out.size J)));refine Q0o Q5O rfl (.tmp 90) (.tmp 92) rfl wr.heap.size (.slice (some ⟨n.heap.size,0,none⟩) 1 1) [(A,8,z)] rfl c oR cR w.heap.size d d.length rfl rfl aV (aI.out.kept (r.trans (j.mono J)) a.out.size) (by simp;omega) (by simp;omega) ?_;intro v4 x1 Y D al;have R:=Q27 c (Q0a Z j) (aa.kept j) Y D;obtain⟨g4,c4,e4⟩:=RingO.isSome R;subst e4;have s:Below wr.heap.size wr x1:=(r.trans (j.mono J)).grown D (by(try simp) <;> omega) (fun k h=>(c.lt k h).1);have bg:=s.size;have M:=bC s T I;have N:=bC s V I;(try have ab:=Q31 D ((Below.heap_alloc _ _ _ aB).trans a6) (Nat.ne_of_lt aB));(try have bo:=Q02 ab 0 _ rfl);(try have bx:=Q04 ab 0);(try have bp:=Q02 ab 1 _ rfl);(try have bz:=Q04 ab 1);(try have bq:=Q02 ab 2 _ rfl);(try have bA:=Q04 ab 2);clear Y D al c aj j)|(have j:Below n.heap.size n ((n.alloc (.cells #[.int .i64 0,.slice none 0 0,.slice none 0 0] 29)).alloc (.cells #[.slice A 8 z] 206)):=(((Below.refl n.heap.size n).alloc (Kaq _) (.cells #[.int .i64 0,.slice none 0 0,.slice none 0 0] 29)).alloc (by simp) (.cells #[.slice A 8 z] 206));have c:ownL Q0q 206 ((n.alloc (.cells #[.int .i64 0,.slice none 0 0,.slice none 0 0] 29)).alloc (.cells #[.slice A 8 z] 206)) wr.heap.size (.slice (some ⟨n.heap.size+1,0,none⟩) 1 1) [(A,8,z)]:=Q06 (Q8M n (.cells #[.int .i64 0,.slice none 0 0,.slice none 0 0] 29) A 8 z _) (by(try simp) <;> omega);have aj:Below w.heap.size w ((n.alloc (.cells #[.int .i64 0,.slice none 0 0,.slice none 0 0] 29)).alloc (.cells #[.slice A 8 z] 206)):=a.out.trans ((r.mono a.out.size).trans (j.mono (Kdq a.out.size J)));refine Q0o Q5O rfl (.tmp 90) (.tmp 92) rfl wr.heap.size (.slice (some ⟨n.heap.size+1,0,none⟩) 1 1) [(A,8,z)] rfl c oR cR w.heap.size d d.length rfl rfl aV (aI.out.kept (r.trans (j.mono J)) a.out.size) (by simp;omega) (by simp;omega) ?_;intro v4 x1 Y D al;have R:=Q27 c (Q0a Z j) (aa.kept j) Y D;obtain⟨g4,c4,e4⟩:=RingO.isSome R;subst e4;have s:Below wr.heap.size wr x1:=(r.trans (j.mono J)).grown D (by(try simp) <;> omega) (fun k h=>(c.lt k h).1);have bg:=s.size;have M:=bC s T I;have N:=bC s V I;have ac:=Q31 D (Q62 n #[.int .i64 0,.slice none 0 0,.slice none 0 0] 29 (.cells #[.slice A 8 z] 206)) (Nat.ne_of_lt (Nat.lt_succ_self _));(try have br:=Q02 ac 0 _ rfl);(try have bB:=Q04 ac 0);(try have bs:=Q02 ac 1 _ rfl);(try have bD:=Q04 ac 1);(try have bt:=Q02 ac 2 _ rfl);(try have bE:=Q04 ac 2);clear Y D al c aj j)|(have j:Below n.heap.size n ((n.alloc (.cells #[.slice A 8 z] 206)).alloc (.cells #[.int .i64 0,.slice none 0 0,.slice none 0 0] 29)):=(((Below.refl n.heap.size n).alloc (Kaq _) (.cells #[.slice A 8 z] 206)).alloc (by simp) (.cells #[.int .i64 0,.slice none 0 0,.slice none 0 0] 29));have c:ownL Q0q 206 ((n.alloc (.cells #[.slice A 8 z] 206)).alloc (.cells #[.int .i64 0,.slice none 0 0,.slice none 0 0] 29)) wr.heap.size (.slice (some ⟨n.heap.size,0,none⟩) 1 1) [(A,8,z)]:=Q06 (World.ownsRow.alloc (Q3l n A 8 z _) (.cells #[.int .i64 0,.slice none 0 0,.slice none 0 0] 29)) (by(try simp) <;> omega);have aj:Below w.heap.size w ((n.alloc (.cells #[.slice A 8 z] 206)).alloc (.cells #[.int .i64 0,.slice none 0 0,.slice none 0 0] 29)):=a.out.trans ((r.mono a.out.size).trans (j.mono (Kdq a.out.size J)));refine Q0o Q5O rfl (.tmp 90) (.tmp 92) rfl wr.heap.size (.slice (some ⟨n.heap.size,0,none⟩) 1 1) [(A,8,z)] rfl c oR cR w.heap.size d d.length rfl rfl aV (aI.out.kept (r.trans (j.mono J)) a.out.size) (by simp;omega) (by simp;omega) ?_;intro v4 x1 Y D al;have R:=Q27 c (Q0a Z j) (aa.kept j) Y D;obtain⟨g4,c4,e4⟩:=RingO.isSome R;subst e4;have s:Below wr.heap.size wr x1:=(r.trans (j.mono J)).grown D (by(try simp) <;> omega) (fun k h=>(c.lt k h).1);have bg:=s.size;have M:=bC s T I;have N:=bC s V I;have ad:=Q31 D (Q2w n #[.int .i64 0,.slice none 0 0,.slice none 0 0] 29 (.cells #[.slice A 8 z] 206)) (Nat.ne_of_gt (Nat.lt_succ_self _));(try have bu:=Q02 ad 0 _ rfl);(try have bG:=Q04 ad 0);(try have bv:=Q02 ad 1 _ rfl);(try have bH:=Q04 ad 1);(try have bw:=Q02 ad 2 _ rfl);(try have bI:=Q04 ad 2);clear Y D al c aj j))
     all_goals (go_wp2_with fail;go_meet)
     all_goals first
      |with_reducible exact QfC ab s (by omega) R
      |with_reducible exact QfC ac s (by omega) R
      |with_reducible exact QfC ad s (by omega) R
      |with_reducible exact Qhz s R
    case rest=>
    obtain⟨B,v',rfl,P,O,cj,ck,Hr⟩:=hcut;obtain⟨g4,c4,e4⟩:=RingO.isSome Hr.out;subst e4;have bQ:=RingO.cap Hr.out;have cm:=ZQ
    have q:w.heap.size+1+1 < wr.heap.size:=by omega
    have cn:=O.out.size;have bc:=bC O.out aP q;have a2:=bF O.out (bF G.out FQ0 ZQ) q;have ce:=Q02 P.out 0 _ rfl;have bX:=Q04 P.out 0;have bd:=bC O.out aR q;have a3:=bF O.out (bF G.out FQ1 ZQ) q;have cf:=Q02 P.out 1 _ rfl;have bY:=Q04 P.out 1;have be:=bC O.out aT q;have a4:=bF O.out (bF G.out FQ2 ZQ) q;have cg:=Q02 P.out 2 _ rfl;have bZ:=Q04 P.out 2;clear T V aP aR aT;have aX:=Q00 (Q0a aH.out O.out);have aW:Hid (Below w.heap.size w wc):=a.out.trans (O.out.mono a.out.size)
    have ba:B≠w.heap.size+1+1:=by omega
    have E:w.heap.size+1+1≠B:=by omega
    by_cases h4:d.length=3
    ·skip
     have bN:(d.length:Int)=3:=by omega
     have ch:3<=c4:=by omega
     obtain⟨W5,H⟩:∃W,wc.setCell ⟨B,2,none⟩ (.slice (some ⟨g4,0,none⟩) 3 c4)=W:=⟨_,rfl⟩
     have ai:W5.heap[B]? =some (.cells #[.int .i64 key,.slice o2 m.length c2,.slice (some ⟨g4,0,none⟩) 3 c4] 29 (0,0)):=by rw[<-H];exact Q0p P.out 2 _
     have cb:=Q02 ai 0 _ rfl
     have bS:W5.cell? ⟨w.heap.size+1+1,0,none⟩=some (.int .i64 0):=by rw[<-H];exact(Q0c E).trans bc
     have b0:W5.frozen? ⟨w.heap.size+1+1,0,none⟩=false:=by rw[<-H];exact(Q1p E).trans a2
     have cc:=Q02 ai 1 _ rfl
     have bT:W5.cell? ⟨w.heap.size+1+1,1,none⟩=some (.slice none 0 0):=by rw[<-H];exact(Q0c E).trans bd
     have b1:W5.frozen? ⟨w.heap.size+1+1,1,none⟩=false:=by rw[<-H];exact(Q1p E).trans a3
     have cd:=Q02 ai 2 _ rfl
     have bU:W5.cell? ⟨w.heap.size+1+1,2,none⟩=some (.slice none 0 0):=by rw[<-H];exact(Q0c E).trans be
     have b2:W5.frozen? ⟨w.heap.size+1+1,2,none⟩=false:=by rw[<-H];exact(Q1p E).trans a4
     have bL:Hid (Q1F W5 W0.heap.size (.slice o2 m.length c2) m):=by rw[<-H];exact Q0I aX.out P.out QdR 2 _
     have bM:Hid (RingO W5 wr.heap.size (.slice (some ⟨g4,0,none⟩) (d.length+1) c4) (fun b=>Q0U key b m) d):=by rw[<-H];exact Hr.out.put P.out 2 _
     have bK:Hid (Below w.heap.size w W5):=by rw[<-H];exact aW.out.setCell (p:=⟨B,2,none⟩) (show w.heap.size<=B by have:=a.out.size;omega) _
     obtain⟨A,z,an,ao,ap,aq⟩:=((bM.out.low q 0 (.int .i64 key)).low q 1 (.slice o2 m.length c2)).low q 2 (.slice (some ⟨g4,0,none⟩) 3 c4);have aE:=Q00 ao;have aF:=Q00 ap;have aG:=Q00 aq;clear ao ap aq;go_wp2;refine bodyPost_ret (v:=.tuple #[plv key (.slice o2 m.length c2) (.slice (some ⟨g4,0,none⟩) 3 c4),.bool true]) (by simp[results,Tryz.results177,go_sem,bS,bT,bU]) rfl ?_;unfold Q5F;refine⟨o2,c2,some ⟨g4,0,none⟩,3,c4,A,z,an,rfl, ?_, ?_, ?_,Q06 aF.out (by omega),Tab.mono aG.out (by omega), ?_⟩
     ·simp;omega
     ·exact Q06 (Q0i (Q0i (Q0i bL.out ZQ 0 _) ZQ 1 _) ZQ 2 _) ah
     ·exact Q06 (Q6C aE.out (by simp;omega)) (by omega)
     ·exact((bK.out.setCell (p:=⟨w.heap.size+1+1,0,none⟩) (by(try simp) <;> omega) _).setCell (p:=⟨w.heap.size+1+1,1,none⟩) (by(try simp) <;> omega) _).setCell (p:=⟨w.heap.size+1+1,2,none⟩) (by(try simp) <;> omega) _
    ·skip
     have bN:¬((d.length:Int)+1 > 3):=by omega
     have ci:decide (3 < (d.length:Int)+1)=false:=decide_eq_false (by omega);obtain⟨A,z,an,ao,ap,aq⟩:=((Hr.out.low q 0 (.int .i64 key)).low q 1 (.slice o2 m.length c2)).low q 2 (.slice (some ⟨g4,0,none⟩) (d.length+1) c4);have aE:=Q00 ao;have aF:=Q00 ap;have aG:=Q00 aq;clear ao ap aq;go_wp2;refine bodyPost_ret (v:=.tuple #[plv key (.slice o2 m.length c2) (.slice (some ⟨g4,0,none⟩) (d.length+1) c4),.bool true]) (by simp[results,Tryz.results177,go_sem,bc,bd,be,ba,E]) rfl ?_;unfold Q5F
     refine⟨o2,c2,some ⟨g4,0,none⟩,(d.length+1),c4,A,z,an,rfl, ?_, ?_, ?_,Q06 aF.out (by omega),Tab.mono aG.out (by omega), ?_⟩
     ·simp;omega
     ·exact Q06 (Q0i (Q0i (Q0i aX.out ZQ 0 _) ZQ 1 _) ZQ 2 _) ah
     ·have e:((A,8,z)::d).take 3=(A,8,z)::d:=List.take_of_length_le (by simp;omega)
      rw[e];exact Q06 aE.out (by omega)
     ·exact((aW.out.setCell (p:=⟨w.heap.size+1+1,0,none⟩) (by(try simp) <;> omega) _).setCell (p:=⟨w.heap.size+1+1,1,none⟩) (by(try simp) <;> omega) _).setCell (p:=⟨w.heap.size+1+1,2,none⟩) (by(try simp) <;> omega) _
   |false=>
    have b6:s1++[(i,g,false)]=m:=ar.out;go_wp2_with (at_builtin;refine Q08 Q3Y rfl (.tmp 75) (.tmp 81) rfl W0.heap.size _ _ rfl (World.ownsRow.alloc HO.out (.cells #[.int .i64 i,.int .i64 g,.bool false] 259)) (some ⟨wr.heap.size,0,none⟩) 1 (wr.alloc (.cells #[.int .i64 i,.int .i64 g,.bool false] 259)).heap.size [(i,g,false)] 1 rfl rfl (fun h=>by cases h) Q3p (by simp;omega) (by have:=af.out.size;simp;omega) ?_);intro vt wt ae ag _
    (try rw[b6]at ae)
    have aH:=Q00 ae;have G:=Q00 ((af.out.alloc af.out.size (.cells #[.int .i64 i,.int .i64 g,.bool false] 259)).grown ag (by have:=af.out.size;simp;omega) (fun k e=>(HO.out.lt k e).1));clear ae ag b6 ar HO bl bV bW bm af;obtain⟨o2,c2,e2,bf⟩:=ownL.open (L:=Q0L) aH.out;have bP:=Q00 (Q8z aH.out e2);subst e2;have aY:=Q00 bf;clear bf;have a:Hid (Below w.heap.size w wt):=HB.out.trans (G.out.mono ah);have b7:=G.out.size;have aI:=Q00 (HG.out.kept a.out (Kaq _));clear HG;have U:=bC G.out Z0 ZZ;have X:=bC G.out Z2 ZZ
    have aQ:=bC G.out Q0 ZQ;have aS:=bC G.out Q1 ZQ;have aU:=bC G.out Q2 ZQ
    have a9:m.length<=1000:=by omega
    go_upto_region 21 with fail
    go_cut [11]from 83 to 94 (fun s11 wx=> ∃B v',s11=.pointer (some ⟨B,0,none⟩)/\Hid (wx.heap[B]? =some (.cells #[.int .i64 key,.slice o2 m.length c2,v'] 29 (0,0)))/\Hid (Below wt.heap.size wt wx)/\wt.heap.size<=B/\B < wx.heap.size/\Hid (RingO wx wt.heap.size v' (fun b=>Q0U key b m) d))
    case first=>
     have I:w.heap.size < wt.heap.size:=by have:=ZZ;omega
     go_region_held3 (fun w'=>w'.cell? ⟨w.heap.size,0,none⟩=some (.int .i64 key)/\w'.cell? ⟨w.heap.size,2,none⟩=some (.slice oR d.length cR)) (first|with_reducible exact⟨M,N⟩|with_reducible exact⟨aC,aD⟩|with_reducible exact⟨U,X⟩|with_reducible exact⟨Q0h M (show w.heap.size < wt.heap.size by omega),Q0h N (show w.heap.size < wt.heap.size by omega)⟩|with_reducible exact⟨Q0h M (show w.heap.size < n.heap.size by omega),Q0h N (show w.heap.size < n.heap.size by omega)⟩|with_reducible exact⟨Q0h M (show w.heap.size < n.heap.size+1 by omega),Q0h N (show w.heap.size < n.heap.size+1 by omega)⟩|go_keep) (first|(go_at_call 175;have ak:=Q1j key o2 c2 m wt.drew ((aY.out.kept (KHq KBq) (Kaq _)).le (by simp)) a9 hk aO;with_reducible refine ak.mono ?_;clear ak;rintro e n ⟨A,z,an,rfl,Z,aa,hb⟩;have r:Below wt.heap.size wt n:=Below.trans (show Below wt.heap.size wt wt.drew from(KHq KBq)) (hb.mono (by simp));have J:=r.size;have Z:=Q06 Z (show wt.heap.size<=_ by simp);have aa:=Tab.mono aa (show wt.heap.size<=_ by simp);have aC:=bC r U I;have aD:=bC r X I;clear hb)|(go_at_call 175;have ak:=Q1j key o2 c2 m (wt.alloc (.cells #[.int .i64 0,.slice none 0 0,.slice none 0 0] 29)).drew ((aY.out.kept (KHq (KBq.alloc (Kaq _) _)) (Kaq _)).le (by simp)) a9 hk aO;with_reducible refine ak.mono ?_;clear ak;rintro e n ⟨A,z,an,rfl,Z,aa,hb⟩;have r:Below wt.heap.size wt n:=Below.trans (show Below wt.heap.size wt (wt.alloc (.cells #[.int .i64 0,.slice none 0 0,.slice none 0 0] 29)).drew from(KHq (KBq.alloc (Kaq _) _))) (hb.mono (by simp));have J:=r.size;have Z:=Q06 Z (show wt.heap.size<=_ by simp);have aa:=Tab.mono aa (show wt.heap.size<=_ by simp);have aC:=bC r U I;have aD:=bC r X I;have a6:=Q3J hb;have aB:=(KEq a6);clear hb)|(have j:Below n.heap.size n (n.alloc (.cells #[.slice A 8 z] 206)):=((Below.refl n.heap.size n).alloc (Kaq _) (.cells #[.slice A 8 z] 206));have c:ownL Q0q 206 (n.alloc (.cells #[.slice A 8 z] 206)) wt.heap.size (.slice (some ⟨n.heap.size,0,none⟩) 1 1) [(A,8,z)]:=Q06 (Q3l n A 8 z _) (by(try simp) <;> omega);have aj:Below w.heap.size w (n.alloc (.cells #[.slice A 8 z] 206)):=a.out.trans ((r.mono a.out.size).trans (j.mono (Kdq a.out.size J)));refine Q0o Q5O rfl (.tmp 90) (.tmp 92) rfl wt.heap.size (.slice (some ⟨n.heap.size,0,none⟩) 1 1) [(A,8,z)] rfl c oR cR w.heap.size d d.length rfl rfl aV (aI.out.kept (r.trans (j.mono J)) a.out.size) (by simp;omega) (by simp;omega) ?_;intro v4 x1 Y D al;have R:=Q27 c (Q0a Z j) (aa.kept j) Y D;obtain⟨g4,c4,e4⟩:=RingO.isSome R;subst e4;have s:Below wt.heap.size wt x1:=(r.trans (j.mono J)).grown D (by(try simp) <;> omega) (fun k h=>(c.lt k h).1);have bg:=s.size;have M:=bC s U I;have N:=bC s X I;(try have ab:=Q31 D ((Below.heap_alloc _ _ _ aB).trans a6) (Nat.ne_of_lt aB));(try have bo:=Q02 ab 0 _ rfl);(try have bx:=Q04 ab 0);(try have bp:=Q02 ab 1 _ rfl);(try have bz:=Q04 ab 1);(try have bq:=Q02 ab 2 _ rfl);(try have bA:=Q04 ab 2);clear Y D al c aj j)|(have j:Below n.heap.size n ((n.alloc (.cells #[.int .i64 0,.slice none 0 0,.slice none 0 0] 29)).alloc (.cells #[.slice A 8 z] 206)):=(((Below.refl n.heap.size n).alloc (Kaq _) (.cells #[.int .i64 0,.slice none 0 0,.slice none 0 0] 29)).alloc (by simp) (.cells #[.slice A 8 z] 206));have c:ownL Q0q 206 ((n.alloc (.cells #[.int .i64 0,.slice none 0 0,.slice none 0 0] 29)).alloc (.cells #[.slice A 8 z] 206)) wt.heap.size (.slice (some ⟨n.heap.size+1,0,none⟩) 1 1) [(A,8,z)]:=Q06 (Q8M n (.cells #[.int .i64 0,.slice none 0 0,.slice none 0 0] 29) A 8 z _) (by(try simp) <;> omega);have aj:Below w.heap.size w ((n.alloc (.cells #[.int .i64 0,.slice none 0 0,.slice none 0 0] 29)).alloc (.cells #[.slice A 8 z] 206)):=a.out.trans ((r.mono a.out.size).trans (j.mono (Kdq a.out.size J)));refine Q0o Q5O rfl (.tmp 90) (.tmp 92) rfl wt.heap.size (.slice (some ⟨n.heap.size+1,0,none⟩) 1 1) [(A,8,z)] rfl c oR cR w.heap.size d d.length rfl rfl aV (aI.out.kept (r.trans (j.mono J)) a.out.size) (by simp;omega) (by simp;omega) ?_;intro v4 x1 Y D al;have R:=Q27 c (Q0a Z j) (aa.kept j) Y D;obtain⟨g4,c4,e4⟩:=RingO.isSome R;subst e4;have s:Below wt.heap.size wt x1:=(r.trans (j.mono J)).grown D (by(try simp) <;> omega) (fun k h=>(c.lt k h).1);have bg:=s.size;have M:=bC s U I;have N:=bC s X I;have ac:=Q31 D (Q62 n #[.int .i64 0,.slice none 0 0,.slice none 0 0] 29 (.cells #[.slice A 8 z] 206)) (Nat.ne_of_lt (Nat.lt_succ_self _));(try have br:=Q02 ac 0 _ rfl);(try have bB:=Q04 ac 0);(try have bs:=Q02 ac 1 _ rfl);(try have bD:=Q04 ac 1);(try have bt:=Q02 ac 2 _ rfl);(try have bE:=Q04 ac 2);clear Y D al c aj j)|(have j:Below n.heap.size n ((n.alloc (.cells #[.slice A 8 z] 206)).alloc (.cells #[.int .i64 0,.slice none 0 0,.slice none 0 0] 29)):=(((Below.refl n.heap.size n).alloc (Kaq _) (.cells #[.slice A 8 z] 206)).alloc (by simp) (.cells #[.int .i64 0,.slice none 0 0,.slice none 0 0] 29));have c:ownL Q0q 206 ((n.alloc (.cells #[.slice A 8 z] 206)).alloc (.cells #[.int .i64 0,.slice none 0 0,.slice none 0 0] 29)) wt.heap.size (.slice (some ⟨n.heap.size,0,none⟩) 1 1) [(A,8,z)]:=Q06 (World.ownsRow.alloc (Q3l n A 8 z _) (.cells #[.int .i64 0,.slice none 0 0,.slice none 0 0] 29)) (by(try simp) <;> omega);have aj:Below w.heap.size w ((n.alloc (.cells #[.slice A 8 z] 206)).alloc (.cells #[.int .i64 0,.slice none 0 0,.slice none 0 0] 29)):=a.out.trans ((r.mono a.out.size).trans (j.mono (Kdq a.out.size J)));refine Q0o Q5O rfl (.tmp 90) (.tmp 92) rfl wt.heap.size (.slice (some ⟨n.heap.size,0,none⟩) 1 1) [(A,8,z)] rfl c oR cR w.heap.size d d.length rfl rfl aV (aI.out.kept (r.trans (j.mono J)) a.out.size) (by simp;omega) (by simp;omega) ?_;intro v4 x1 Y D al;have R:=Q27 c (Q0a Z j) (aa.kept j) Y D;obtain⟨g4,c4,e4⟩:=RingO.isSome R;subst e4;have s:Below wt.heap.size wt x1:=(r.trans (j.mono J)).grown D (by(try simp) <;> omega) (fun k h=>(c.lt k h).1);have bg:=s.size;have M:=bC s U I;have N:=bC s X I;have ad:=Q31 D (Q2w n #[.int .i64 0,.slice none 0 0,.slice none 0 0] 29 (.cells #[.slice A 8 z] 206)) (Nat.ne_of_gt (Nat.lt_succ_self _));(try have bu:=Q02 ad 0 _ rfl);(try have bG:=Q04 ad 0);(try have bv:=Q02 ad 1 _ rfl);(try have bH:=Q04 ad 1);(try have bw:=Q02 ad 2 _ rfl);(try have bI:=Q04 ad 2);clear Y D al c aj j))
     all_goals (go_wp2_with fail;go_meet)
     all_goals first
      |with_reducible exact QfC ab s (by omega) R
      |with_reducible exact QfC ac s (by omega) R
      |with_reducible exact QfC ad s (by omega) R
      |with_reducible exact Qhz s R
    case rest=>
    obtain⟨B,v',rfl,P,O,cj,ck,Hr⟩:=hcut;obtain⟨g4,c4,e4⟩:=RingO.isSome Hr.out;subst e4;have bQ:=RingO.cap Hr.out;have cm:=ZQ
    have q:w.heap.size+1+1 < wt.heap.size:=by omega
    have cn:=O.out.size;have bc:=bC O.out aQ q;have a2:=bF O.out (bF G.out FQ0 ZQ) q;have ce:=Q02 P.out 0 _ rfl;have bX:=Q04 P.out 0;have bd:=bC O.out aS q;have a3:=bF O.out (bF G.out FQ1 ZQ) q;have cf:=Q02 P.out 1 _ rfl;have bY:=Q04 P.out 1;have be:=bC O.out aU q;have a4:=bF O.out (bF G.out FQ2 ZQ) q;have cg:=Q02 P.out 2 _ rfl;have bZ:=Q04 P.out 2;clear U X aQ aS aU;have aX:=Q00 (Q0a aH.out O.out);have aW:Hid (Below w.heap.size w wc):=a.out.trans (O.out.mono a.out.size)
    have ba:B≠w.heap.size+1+1:=by omega
    have E:w.heap.size+1+1≠B:=by omega
    by_cases h4:d.length=3
    ·skip
     have bN:(d.length:Int)=3:=by omega
     have ch:3<=c4:=by omega
     obtain⟨W5,H⟩:∃W,wc.setCell ⟨B,2,none⟩ (.slice (some ⟨g4,0,none⟩) 3 c4)=W:=⟨_,rfl⟩
     have ai:W5.heap[B]? =some (.cells #[.int .i64 key,.slice o2 m.length c2,.slice (some ⟨g4,0,none⟩) 3 c4] 29 (0,0)):=by rw[<-H];exact Q0p P.out 2 _
     have cb:=Q02 ai 0 _ rfl
     have bS:W5.cell? ⟨w.heap.size+1+1,0,none⟩=some (.int .i64 0):=by rw[<-H];exact(Q0c E).trans bc
     have b0:W5.frozen? ⟨w.heap.size+1+1,0,none⟩=false:=by rw[<-H];exact(Q1p E).trans a2
     have cc:=Q02 ai 1 _ rfl
     have bT:W5.cell? ⟨w.heap.size+1+1,1,none⟩=some (.slice none 0 0):=by rw[<-H];exact(Q0c E).trans bd
     have b1:W5.frozen? ⟨w.heap.size+1+1,1,none⟩=false:=by rw[<-H];exact(Q1p E).trans a3
     have cd:=Q02 ai 2 _ rfl
     have bU:W5.cell? ⟨w.heap.size+1+1,2,none⟩=some (.slice none 0 0):=by rw[<-H];exact(Q0c E).trans be
     have b2:W5.frozen? ⟨w.heap.size+1+1,2,none⟩=false:=by rw[<-H];exact(Q1p E).trans a4
     have bL:Hid (Q1F W5 W0.heap.size (.slice o2 m.length c2) m):=by rw[<-H];exact Q0I aX.out P.out QdR 2 _
     have bM:Hid (RingO W5 wt.heap.size (.slice (some ⟨g4,0,none⟩) (d.length+1) c4) (fun b=>Q0U key b m) d):=by rw[<-H];exact Hr.out.put P.out 2 _
     have bK:Hid (Below w.heap.size w W5):=by rw[<-H];exact aW.out.setCell (p:=⟨B,2,none⟩) (show w.heap.size<=B by have:=a.out.size;omega) _
     obtain⟨A,z,an,ao,ap,aq⟩:=((bM.out.low q 0 (.int .i64 key)).low q 1 (.slice o2 m.length c2)).low q 2 (.slice (some ⟨g4,0,none⟩) 3 c4);have aE:=Q00 ao;have aF:=Q00 ap;have aG:=Q00 aq;clear ao ap aq;go_wp2;refine bodyPost_ret (v:=.tuple #[plv key (.slice o2 m.length c2) (.slice (some ⟨g4,0,none⟩) 3 c4),.bool true]) (by simp[results,Tryz.results177,go_sem,bS,bT,bU]) rfl ?_;unfold Q5F;refine⟨o2,c2,some ⟨g4,0,none⟩,3,c4,A,z,an,rfl, ?_, ?_, ?_,Q06 aF.out (by omega),Tab.mono aG.out (by omega), ?_⟩
     ·simp;omega
     ·exact Q06 (Q0i (Q0i (Q0i bL.out ZQ 0 _) ZQ 1 _) ZQ 2 _) ah
     ·exact Q06 (Q6C aE.out (by simp;omega)) (by omega)
     ·exact((bK.out.setCell (p:=⟨w.heap.size+1+1,0,none⟩) (by(try simp) <;> omega) _).setCell (p:=⟨w.heap.size+1+1,1,none⟩) (by(try simp) <;> omega) _).setCell (p:=⟨w.heap.size+1+1,2,none⟩) (by(try simp) <;> omega) _
    ·skip
     have bN:¬((d.length:Int)+1 > 3):=by omega
     have ci:decide (3 < (d.length:Int)+1)=false:=decide_eq_false (by omega);obtain⟨A,z,an,ao,ap,aq⟩:=((Hr.out.low q 0 (.int .i64 key)).low q 1 (.slice o2 m.length c2)).low q 2 (.slice (some ⟨g4,0,none⟩) (d.length+1) c4);have aE:=Q00 ao;have aF:=Q00 ap;have aG:=Q00 aq;clear ao ap aq;go_wp2;refine bodyPost_ret (v:=.tuple #[plv key (.slice o2 m.length c2) (.slice (some ⟨g4,0,none⟩) (d.length+1) c4),.bool true]) (by simp[results,Tryz.results177,go_sem,bc,bd,be,ba,E]) rfl ?_;unfold Q5F
     refine⟨o2,c2,some ⟨g4,0,none⟩,(d.length+1),c4,A,z,an,rfl, ?_, ?_, ?_,Q06 aF.out (by omega),Tab.mono aG.out (by omega), ?_⟩
     ·simp;omega
     ·exact Q06 (Q0i (Q0i (Q0i aX.out ZQ 0 _) ZQ 1 _) ZQ 2 _) ah
     ·have e:((A,8,z)::d).take 3=(A,8,z)::d:=List.take_of_length_le (by simp;omega)
      rw[e];exact Q06 aE.out (by omega)
     ·exact((aW.out.setCell (p:=⟨w.heap.size+1+1,0,none⟩) (by(try simp) <;> omega) _).setCell (p:=⟨w.heap.size+1+1,1,none⟩) (by(try simp) <;> omega) _).setCell (p:=⟨w.heap.size+1+1,2,none⟩) (by(try simp) <;> omega) _
theorem Qej (key:Int) (o:Option Addr) (cap:Nat) (l:List Bk) (oR:Option Addr) (cR:Nat) (f:List Hd) (k i g:Int) (pl:Nat) (m:List Bk) (w:World) (hk:Q1S key=true) (hl:Q0d l=true) (hc:Q1y k i g=true) (hm:doL l k i g=some m) (cb:l.length<=100) (hR:RdK w.heap.size w o l) (hG:RdL Q0q w.heap.size w oR f) (a8:oR=none->cR=0) (cr:f.length<=3) (bn:k≠0) (a7:(k==0)=false) (a9:pl=Q0e l i):
  Calls Tryz.prog 177 #[plv key (.slice o l.length cap) (.slice oR f.length cR),cmd k i g] w fun e w'=>Q5F key m f w e w':=by
 obtain⟨W0,ae⟩:∃W,(((w.alloc (.cells #[.int .i64 key,.slice o l.length cap,.slice oR f.length cR] 29)).alloc (.cells #[.int .i64 k,.int .i64 i,.int .i64 g] 256)).alloc (.cells #[.int .i64 0,.slice none 0 0,.slice none 0 0] 29))=W:=⟨_,rfl⟩;have aH:=alb0v0v3 ae;have HB:=Q00 aH;clear aH;have zz:=alz0v0v3 ae;obtain⟨z0,z1,z2⟩:=alc3v0v3 ae;have zu:=alz0v1v3 ae;obtain⟨u0,u1,u2⟩:=alc3v1v3 ae;have zr:=alz0v2v3 ae;obtain⟨r0,r1,r2⟩:=alc3v2v3 ae;obtain⟨bj,bk,bl⟩:=alf3v2v3 ae;have cf:=zr;have HR:=Q00 hR;have HG:=Q00 hG;have aC:=HB.out.size
 have HF:=Q00 (Q59 o cap l i W0 ((hR.kept HB.out (Kaq _)).le HB.out.size) (by omega) hl);have aA:=Q00 (QeI hl hc hm);have aR:=QeL hl hc hm;have bY:=Q8w hm
 have bq:Q0m l i=true:=by rcases Q4Q hm with⟨_,h,_⟩|⟨h,_⟩|⟨h,_⟩|⟨h,_⟩ <;> first|exact h|(exact absurd h bn)
 rw[Qcm bq,<-a9]at HF aA
 have cs:(0:Int)<=(pl:Int):=by omega
 have b4:=Q00 a9;clear a9;clear hR hG hl hc;have aB:=Q00 (fun t=>Q8L (l:=l) (k:=k) (i:=i) (g:=g) (fi:=(pl:Int)) t);have Z0:=z0;have Z1:=z1;have Z2:=z2;have ZZ:=zz;have U0:=u0;have U1:=u1;have U2:=u2;have ZU:=zu;have Q0:=r0;have Q1:=r1;have Q2:=r2;have ZQ:=zr;have FQ0:=bj;have FQ1:=bk;have FQ2:=bl;go_enter Tryz.func177,Tryz.ntmps177;go_wp2_with fail;refine HF.out.mono ?_;rintro e w9 ⟨rfl,rfl⟩;go_wp2
 go_loopw [7,8,9] (fun lv pv tv wr=> ∃t:Nat,t<=l.length/\tv=.int .i64 (t:Int)/\pv=.bool (Q4j l k i g ((pl:Int)) t).2/\Hid (Q1F wr W0.heap.size lv (Q4j l k i g ((pl:Int)) t).1)/\Hid (Below W0.heap.size W0 wr))
  (fun _ _ tv _=>l.length - (intOf tv).toNat)
 case atStart=>exact⟨0,Kcq _,rfl,by simp[Q4j,a7,bn],KLq _ _ _ _,KBq⟩
 case round=>
  obtain⟨t,cw,rfl,rfl,HO,O⟩:=hrel;clear HF z0 z1 z2 u0 u1 u2 r0 r1 r2 bj bk bl zz zu zr ae;have aW:Hid (Below w.heap.size w wr):=HB.out.trans (O.out.mono aC)
  by_cases hlt:t < l.length
  ·skip
   have cc:(t:Int) < (l.length:Int):=by omega
   have cv:(0:Int)<=(t:Int):=by omega
   rcases HR.out with hR|⟨b,ba,rfl,a6,aK⟩
   ·subst hR;simp at hlt
   obtain⟨c0,c1,c2⟩:=RdL.back (C:=w.heap.size) aK t hlt;replace c0:=(aW.out.cell (p:=⟨b,ba+t * 3,none⟩) a6).trans c0;replace c1:=(aW.out.cell (p:=⟨b,ba+t * 3+1,none⟩) a6).trans c1;replace c2:=(aW.out.cell (p:=⟨b,ba+t * 3+2,none⟩) a6).trans c2;have aM:=Q4k l k i g ((pl:Int)) t;have R:=Q00 (show Q4j l k i g ((pl:Int)) (t+1)=Q40 k i g ((pl:Int)) (Q4j l k i g ((pl:Int)) t) t (l.getD t (0,0,false))from rfl);have J:=aB.out t;obtain⟨x,y,u,aS⟩:∃x y u,l.getD t (0,0,false)=(x,y,u):=⟨_,_,_,rfl⟩;rw[aS]at c0 c1 c2 R;dsimp only at c0 c1 c2;clear aS aK
   obtain⟨s1,s2,ak⟩:∃s1 s2,Q4j l k i g ((pl:Int)) t=(s1,s2):=⟨_,_,rfl⟩;rw[ak]at HO R aM J ⊢;dsimp only at HO aM J ⊢;clear ak aA aB;have bc:=bC O.out Z1 ZZ
   cases s2 with
   |false=>have:=J rfl;simp[a7]at this
   |true=>
    by_cases htp:t=pl
    ·subst htp
     have ce:((t:Int)==(t:Int))=true:=beq_self_eq_true _
     by_cases h3:k=3
     ·subst h3
      have c:=R.out;unfold Q40 at c;simp only[if_true,Bool.true_eq_false,false_and,if_false]at c;have M:=Q00 c;clear R c
      (try have H1:=Q00 h1)
      (try have H3:=Q00 h3)
      (try clear h1 h3)
      (try clear h3)
      obtain⟨W2,aq⟩:∃W,wr.alloc (.cells #[.int .i64 x,.int .i64 y,.bool u] 259)=W:=⟨_,rfl⟩
      have a:Hid (St W0 W2 u7 s1 wr.heap.size x y u):=by rw[<-aq];exact St.start HO.out O.out
      have az:=bC a.out.bel Z1 ZZ;have aw:=bC a.out.bel U0 ZU;have ax:=bC a.out.bel U1 ZU;have ay:=bC a.out.bel U2 ZU;have an:=Q02 a.out.box 0 _ rfl;have ao:=Q02 a.out.box 1 _ rfl;have ap:=Q02 a.out.box 2 _ rfl;have ab:=Q04 a.out.box 0;have ac:=Q04 a.out.box 1;have ad:=Q04 a.out.box 2;have N:=a;go_wp2;go_roundw
      case rel=>exact⟨t+1,by omega,by go_num,by rw[M.out],by rw[M.out];exact N.out.own,N.out.bel⟩
      case measure=>simp[intOf];omega
     ·have cm:(k==3)=false:=beq_eq_false_iff_ne.2 h3
      by_cases h1:k=1
      ·have bU:(k==1)=true:=beq_iff_eq.2 h1
       have c:=R.out;unfold Q40 at c;simp only[if_true,if_neg h3,if_pos h1,Bool.true_eq_false,false_and,if_false]at c;have M:=Q00 c;clear R c
       (try have H1:=Q00 h1)
       (try have H3:=Q00 h3)
       (try clear h1 h3)
       (try clear h3)
       obtain⟨W2,aq⟩:∃W,wr.alloc (.cells #[.int .i64 x,.int .i64 y,.bool u] 259)=W:=⟨_,rfl⟩
       have a:Hid (St W0 W2 u7 s1 wr.heap.size x y u):=by rw[<-aq];exact St.start HO.out O.out
       have az:=bC a.out.bel Z1 ZZ;have aw:=bC a.out.bel U0 ZU;have ax:=bC a.out.bel U1 ZU;have ay:=bC a.out.bel U2 ZU;have an:=Q02 a.out.box 0 _ rfl;have ao:=Q02 a.out.box 1 _ rfl;have ap:=Q02 a.out.box 2 _ rfl;have ab:=Q04 a.out.box 0;have ac:=Q04 a.out.box 1;have ad:=Q04 a.out.box 2;obtain⟨W4,a5⟩:∃W,W2.setCell ⟨wr.heap.size,1,none⟩ (.int .i64 g)=W:=⟨_,rfl⟩
       have D:Hid (St W0 W4 u7 s1 wr.heap.size x g u):=by rw[<-a5];exact a.out.put1 _
       have bb:=bC D.out.bel Z1 ZZ;have a2:=Q02 D.out.box 0 _ rfl;have a3:=Q02 D.out.box 1 _ rfl;have a4:=Q02 D.out.box 2 _ rfl;go_wp2_with (at_builtin;refine Q08 Q3Y rfl (.tmp 69) (.tmp 71) rfl W0.heap.size _ _ rfl (World.ownsRow.alloc D.out.own (.cells #[.int .i64 x,.int .i64 g,.bool u] 259)) (some ⟨W4.heap.size,0,none⟩) 1 (W4.alloc (.cells #[.int .i64 x,.int .i64 g,.bool u] 259)).heap.size [(x,g,u)] 1 rfl rfl (fun h=>by cases h) Q3p (by simp;omega) (by have:=D.out.bel.size;simp;omega) ?_);intro v6 w6 aj ag ah;have N:=Q00 (D.out.app aj ag ah)
       clear aj ag ah;go_wp2;go_roundw
       case rel=>exact⟨t+1,by omega,by go_num,by rw[M.out],by rw[M.out];exact N.out.own,N.out.bel⟩
       case measure=>simp[intOf];omega
      ·have bU:(k==1)=false:=beq_eq_false_iff_ne.2 h1
       have c:=R.out;unfold Q40 at c;simp only[if_true,if_neg h3,if_neg h1,Bool.true_eq_false,false_and,if_false]at c;have M:=Q00 c;clear R c
       (try have H1:=Q00 h1)
       (try have H3:=Q00 h3)
       (try clear h1 h3)
       (try clear h3)
       obtain⟨W2,aq⟩:∃W,wr.alloc (.cells #[.int .i64 x,.int .i64 y,.bool u] 259)=W:=⟨_,rfl⟩
       have a:Hid (St W0 W2 u7 s1 wr.heap.size x y u):=by rw[<-aq];exact St.start HO.out O.out
       have az:=bC a.out.bel Z1 ZZ;have aw:=bC a.out.bel U0 ZU;have ax:=bC a.out.bel U1 ZU;have ay:=bC a.out.bel U2 ZU;have an:=Q02 a.out.box 0 _ rfl;have ao:=Q02 a.out.box 1 _ rfl;have ap:=Q02 a.out.box 2 _ rfl;have ab:=Q04 a.out.box 0;have ac:=Q04 a.out.box 1;have ad:=Q04 a.out.box 2;obtain⟨W4,a5⟩:∃W,W2.setCell ⟨wr.heap.size,2,none⟩ (.bool true)=W:=⟨_,rfl⟩
       have D:Hid (St W0 W4 u7 s1 wr.heap.size x y true):=by rw[<-a5];exact a.out.put2 _
       have bb:=bC D.out.bel Z1 ZZ;have a2:=Q02 D.out.box 0 _ rfl;have a3:=Q02 D.out.box 1 _ rfl;have a4:=Q02 D.out.box 2 _ rfl;go_wp2_with (at_builtin;refine Q08 Q3Y rfl (.tmp 69) (.tmp 71) rfl W0.heap.size _ _ rfl (World.ownsRow.alloc D.out.own (.cells #[.int .i64 x,.int .i64 y,.bool true] 259)) (some ⟨W4.heap.size,0,none⟩) 1 (W4.alloc (.cells #[.int .i64 x,.int .i64 y,.bool true] 259)).heap.size [(x,y,true)] 1 rfl rfl (fun h=>by cases h) Q3p (by simp;omega) (by have:=D.out.bel.size;simp;omega) ?_);intro v6 w6 aj ag ah;have N:=Q00 (D.out.app aj ag ah)
       clear aj ag ah;go_wp2;go_roundw
       case rel=>exact⟨t+1,by omega,by go_num,by rw[M.out],by rw[M.out];exact N.out.own,N.out.bel⟩
       case measure=>simp[intOf];omega
    ·have ct:((t:Int)==(pl:Int))=false:=beq_eq_false_iff_ne.2 (by omega)
     have I:¬((t:Int)=(pl:Int)):=by omega
     have c:=R.out;unfold Q40 at c;simp only[I,Bool.true_eq_false,false_and,if_false]at c;have M:=Q00 c;clear R c
     (try have H1:=Q00 h1)
     (try have H3:=Q00 h3)
     (try clear h1 h3)
     (try clear h3)
     obtain⟨W2,aq⟩:∃W,wr.alloc (.cells #[.int .i64 x,.int .i64 y,.bool u] 259)=W:=⟨_,rfl⟩
     have a:Hid (St W0 W2 u7 s1 wr.heap.size x y u):=by rw[<-aq];exact St.start HO.out O.out
     have az:=bC a.out.bel Z1 ZZ;have aw:=bC a.out.bel U0 ZU;have ax:=bC a.out.bel U1 ZU;have ay:=bC a.out.bel U2 ZU;have an:=Q02 a.out.box 0 _ rfl;have ao:=Q02 a.out.box 1 _ rfl;have ap:=Q02 a.out.box 2 _ rfl;have ab:=Q04 a.out.box 0;have ac:=Q04 a.out.box 1;have ad:=Q04 a.out.box 2
     go_wp2_with (at_builtin;refine Q08 Q3Y rfl (.tmp 69) (.tmp 71) rfl W0.heap.size _ _ rfl (World.ownsRow.alloc a.out.own (.cells #[.int .i64 x,.int .i64 y,.bool u] 259)) (some ⟨W2.heap.size,0,none⟩) 1 (W2.alloc (.cells #[.int .i64 x,.int .i64 y,.bool u] 259)).heap.size [(x,y,u)] 1 rfl rfl (fun h=>by cases h) Q3p (by simp;omega) (by have:=a.out.bel.size;simp;omega) ?_);intro v6 w6 aj ag ah;have N:=Q00 (a.out.app aj ag ah);clear aj ag ah;go_wp2;go_roundw
     case rel=>exact⟨t+1,by omega,by go_num,by rw[M.out],by rw[M.out];exact N.out.own,N.out.bel⟩
     case measure=>simp[intOf];omega
  ·have e:t=l.length:=by omega
   subst e;obtain⟨s1,s2,ak⟩:∃s1 s2,Q4j l k i g ((pl:Int)) l.length=(s1,s2):=⟨_,_,rfl⟩;have aM:=Q4k l k i g ((pl:Int)) l.length;have J:=aB.out l.length;rw[ak]at HO aA aM J ⊢;dsimp only at HO aM J ⊢;clear ak aB hlt;have bc:=bC O.out Z1 ZZ;have b2:=bC O.out U1 ZU;have b3:=bC O.out U2 ZU
   cases s2 with
   |true=>
    obtain rfl:m=s1:=aA.out.symm;have a0:=HO;have P:=O;obtain⟨o2,c2,e2,bu⟩:=ownL.open (L:=Q0L) a0.out;have bW:=Q00 (Q8z a0.out e2);subst e2;have bf:=Q00 bu;clear bu J;have d:Hid (Below w.heap.size w wr):=HB.out.trans (P.out.mono aC);have cd:=P.out.size;have a1:=Q00 (HG.out.kept d.out (Kaq _));clear HG;have r:=bC P.out Z0 ZZ;have s:=bC P.out Z2 ZZ;have aD:=bC P.out Q0 ZQ;have aE:=bC P.out Q1 ZQ;have aF:=bC P.out Q2 ZQ
    have bo:m.length<=1000:=by omega
    go_upto_region 21 with fail
    go_cut [11]from 83 to 94 (fun s11 wx=> ∃B v',s11=.pointer (some ⟨B,0,none⟩)/\Hid (wx.heap[B]? =some (.cells #[.int .i64 key,.slice o2 m.length c2,v'] 29 (0,0)))/\Hid (Below wr.heap.size wr wx)/\wr.heap.size<=B/\B < wx.heap.size/\Hid (RingO wx wr.heap.size v' (fun b=>Q0U key b m) f))
    case first=>
     have U:w.heap.size < wr.heap.size:=by have:=ZZ;omega
     go_region_held3 (fun w'=>w'.cell? ⟨w.heap.size,0,none⟩=some (.int .i64 key)/\w'.cell? ⟨w.heap.size,2,none⟩=some (.slice oR f.length cR)) (first|with_reducible exact⟨X,Y⟩|with_reducible exact⟨aU,aV⟩|with_reducible exact⟨r,s⟩|with_reducible exact⟨Q0h X (show w.heap.size < wr.heap.size by omega),Q0h Y (show w.heap.size < wr.heap.size by omega)⟩|with_reducible exact⟨Q0h X (show w.heap.size < q.heap.size by omega),Q0h Y (show w.heap.size < q.heap.size by omega)⟩|with_reducible exact⟨Q0h X (show w.heap.size < q.heap.size+1 by omega),Q0h Y (show w.heap.size < q.heap.size+1 by omega)⟩|go_keep) (first|(go_at_call 175;have aJ:=Q1j key o2 c2 m wr.drew ((bf.out.kept (KHq KBq) (Kaq _)).le (by simp)) bo hk aR;with_reducible refine aJ.mono ?_;clear aJ;rintro e q ⟨G,F,aN,rfl,al,am,hb⟩;have A:Below wr.heap.size wr q:=Below.trans (show Below wr.heap.size wr wr.drew from(KHq KBq)) (hb.mono (by simp));have V:=A.size;have al:=Q06 al (show wr.heap.size<=_ by simp);have am:=Tab.mono am (show wr.heap.size<=_ by simp);have aU:=bC A r U;have aV:=bC A s U;clear hb)|(go_at_call 175;have aJ:=Q1j key o2 c2 m (wr.alloc (.cells #[.int .i64 0,.slice none 0 0,.slice none 0 0] 29)).drew ((bf.out.kept (KHq (KBq.alloc (Kaq _) _)) (Kaq _)).le (by simp)) bo hk aR;with_reducible refine aJ.mono ?_;clear aJ;rintro e q ⟨G,F,aN,rfl,al,am,hb⟩;have A:Below wr.heap.size wr q:=Below.trans (show Below wr.heap.size wr (wr.alloc (.cells #[.int .i64 0,.slice none 0 0,.slice none 0 0] 29)).drew from(KHq (KBq.alloc (Kaq _) _))) (hb.mono (by simp));have V:=A.size;have al:=Q06 al (show wr.heap.size<=_ by simp);have am:=Tab.mono am (show wr.heap.size<=_ by simp);have aU:=bC A r U;have aV:=bC A s U;have bm:=Q3J hb;have aT:=(KEq bm);clear hb)|(have n:Below q.heap.size q (q.alloc (.cells #[.slice G 8 F] 206)):=((Below.refl q.heap.size q).alloc (Kaq _) (.cells #[.slice G 8 F] 206));have j:ownL Q0q 206 (q.alloc (.cells #[.slice G 8 F] 206)) wr.heap.size (.slice (some ⟨q.heap.size,0,none⟩) 1 1) [(G,8,F)]:=Q06 (Q3l q G 8 F _) (by(try simp) <;> omega);have aI:Below w.heap.size w (q.alloc (.cells #[.slice G 8 F] 206)):=d.out.trans ((A.mono d.out.size).trans (n.mono (Kdq d.out.size V)));refine Q0o Q5O rfl (.tmp 90) (.tmp 92) rfl wr.heap.size (.slice (some ⟨q.heap.size,0,none⟩) 1 1) [(G,8,F)] rfl j oR cR w.heap.size f f.length rfl rfl a8 (a1.out.kept (A.trans (n.mono V)) d.out.size) (by simp;omega) (by simp;omega) ?_;intro v4 x1 ai H aL;have af:=Q27 j (Q0a al n) (am.kept n) ai H;obtain⟨g4,c4,e4⟩:=RingO.isSome af;subst e4;have E:Below wr.heap.size wr x1:=(A.trans (n.mono V)).grown H (by(try simp) <;> omega) (fun k h=>(j.lt k h).1);have bv:=E.size;have X:=bC E r U;have Y:=bC E s U;(try have ar:=Q31 H ((Below.heap_alloc _ _ _ aT).trans bm) (Nat.ne_of_lt aT));(try have bw:=Q02 ar 0 _ rfl);(try have bI:=Q04 ar 0);(try have bx:=Q02 ar 1 _ rfl);(try have bJ:=Q04 ar 1);(try have bz:=Q02 ar 2 _ rfl);(try have bK:=Q04 ar 2);clear ai H aL j aI n)|(have n:Below q.heap.size q ((q.alloc (.cells #[.int .i64 0,.slice none 0 0,.slice none 0 0] 29)).alloc (.cells #[.slice G 8 F] 206)):=(((Below.refl q.heap.size q).alloc (Kaq _) (.cells #[.int .i64 0,.slice none 0 0,.slice none 0 0] 29)).alloc (by simp) (.cells #[.slice G 8 F] 206));have j:ownL Q0q 206 ((q.alloc (.cells #[.int .i64 0,.slice none 0 0,.slice none 0 0] 29)).alloc (.cells #[.slice G 8 F] 206)) wr.heap.size (.slice (some ⟨q.heap.size+1,0,none⟩) 1 1) [(G,8,F)]:=Q06 (Q8M q (.cells #[.int .i64 0,.slice none 0 0,.slice none 0 0] 29) G 8 F _) (by(try simp) <;> omega);have aI:Below w.heap.size w ((q.alloc (.cells #[.int .i64 0,.slice none 0 0,.slice none 0 0] 29)).alloc (.cells #[.slice G 8 F] 206)):=d.out.trans ((A.mono d.out.size).trans (n.mono (Kdq d.out.size V)));refine Q0o Q5O rfl (.tmp 90) (.tmp 92) rfl wr.heap.size (.slice (some ⟨q.heap.size+1,0,none⟩) 1 1) [(G,8,F)] rfl j oR cR w.heap.size f f.length rfl rfl a8 (a1.out.kept (A.trans (n.mono V)) d.out.size) (by simp;omega) (by simp;omega) ?_;intro v4 x1 ai H aL;have af:=Q27 j (Q0a al n) (am.kept n) ai H;obtain⟨g4,c4,e4⟩:=RingO.isSome af;subst e4;have E:Below wr.heap.size wr x1:=(A.trans (n.mono V)).grown H (by(try simp) <;> omega) (fun k h=>(j.lt k h).1);have bv:=E.size;have X:=bC E r U;have Y:=bC E s U;have au:=Q31 H (Q62 q #[.int .i64 0,.slice none 0 0,.slice none 0 0] 29 (.cells #[.slice G 8 F] 206)) (Nat.ne_of_lt (Nat.lt_succ_self _));(try have bA:=Q02 au 0 _ rfl);(try have bL:=Q04 au 0);(try have bB:=Q02 au 1 _ rfl);(try have bM:=Q04 au 1);(try have bD:=Q02 au 2 _ rfl);(try have bN:=Q04 au 2);clear ai H aL j aI n)|(have n:Below q.heap.size q ((q.alloc (.cells #[.slice G 8 F] 206)).alloc (.cells #[.int .i64 0,.slice none 0 0,.slice none 0 0] 29)):=(((Below.refl q.heap.size q).alloc (Kaq _) (.cells #[.slice G 8 F] 206)).alloc (by simp) (.cells #[.int .i64 0,.slice none 0 0,.slice none 0 0] 29));have j:ownL Q0q 206 ((q.alloc (.cells #[.slice G 8 F] 206)).alloc (.cells #[.int .i64 0,.slice none 0 0,.slice none 0 0] 29)) wr.heap.size (.slice (some ⟨q.heap.size,0,none⟩) 1 1) [(G,8,F)]:=Q06 (World.ownsRow.alloc (Q3l q G 8 F _) (.cells #[.int .i64 0,.slice none 0 0,.slice none 0 0] 29)) (by(try simp) <;> omega);have aI:Below w.heap.size w ((q.alloc (.cells #[.slice G 8 F] 206)).alloc (.cells #[.int .i64 0,.slice none 0 0,.slice none 0 0] 29)):=d.out.trans ((A.mono d.out.size).trans (n.mono (Kdq d.out.size V)));refine Q0o Q5O rfl (.tmp 90) (.tmp 92) rfl wr.heap.size (.slice (some ⟨q.heap.size,0,none⟩) 1 1) [(G,8,F)] rfl j oR cR w.heap.size f f.length rfl rfl a8 (a1.out.kept (A.trans (n.mono V)) d.out.size) (by simp;omega) (by simp;omega) ?_;intro v4 x1 ai H aL;have af:=Q27 j (Q0a al n) (am.kept n) ai H;obtain⟨g4,c4,e4⟩:=RingO.isSome af;subst e4;have E:Below wr.heap.size wr x1:=(A.trans (n.mono V)).grown H (by(try simp) <;> omega) (fun k h=>(j.lt k h).1);have bv:=E.size;have X:=bC E r U;have Y:=bC E s U;have av:=Q31 H (Q2w q #[.int .i64 0,.slice none 0 0,.slice none 0 0] 29 (.cells #[.slice G 8 F] 206)) (Nat.ne_of_gt (Nat.lt_succ_self _));(try have bE:=Q02 av 0 _ rfl);(try have bO:=Q04 av 0);(try have bG:=Q02 av 1 _ rfl);(try have bP:=Q04 av 1);(try have bH:=Q02 av 2 _ rfl);(try have bQ:=Q04 av 2);clear ai H aL j aI n))
     all_goals (go_wp2_with fail;go_meet)
     all_goals first
      |with_reducible exact QfC ar E (by omega) af
      |with_reducible exact QfC au E (by omega) af
      |with_reducible exact QfC av E (by omega) af
      |with_reducible exact Qhz E af
    case rest=>
    obtain⟨B,v',rfl,aa,Z,cp,cq,Hr⟩:=hcut;obtain⟨g4,c4,e4⟩:=RingO.isSome Hr.out;subst e4;have bX:=RingO.cap Hr.out;have cu:=ZQ
    have z:w.heap.size+1+1 < wr.heap.size:=by omega
    have cx:=Z.out.size;have br:=bC Z.out aD z;have bg:=bF Z.out (bF P.out FQ0 ZQ) z;have cj:=Q02 aa.out 0 _ rfl;have b5:=Q04 aa.out 0;have bs:=bC Z.out aE z;have bh:=bF Z.out (bF P.out FQ1 ZQ) z;have ck:=Q02 aa.out 1 _ rfl;have b6:=Q04 aa.out 1;have bt:=bC Z.out aF z;have bi:=bF Z.out (bF P.out FQ2 ZQ) z;have cl:=Q02 aa.out 2 _ rfl;have b7:=Q04 aa.out 2;clear r s aD aE aF;have be:=Q00 (Q0a a0.out Z.out);have bd:Hid (Below w.heap.size w wc):=d.out.trans (Z.out.mono d.out.size)
    have bp:B≠w.heap.size+1+1:=by omega
    have I:w.heap.size+1+1≠B:=by omega
    by_cases h4:f.length=3
    ·skip
     have bV:(f.length:Int)=3:=by omega
     have cn:3<=c4:=by omega
     obtain⟨W5,T⟩:∃W,wc.setCell ⟨B,2,none⟩ (.slice (some ⟨g4,0,none⟩) 3 c4)=W:=⟨_,rfl⟩
     have aG:W5.heap[B]? =some (.cells #[.int .i64 key,.slice o2 m.length c2,.slice (some ⟨g4,0,none⟩) 3 c4] 29 (0,0)):=by rw[<-T];exact Q0p aa.out 2 _
     have cg:=Q02 aG 0 _ rfl
     have bZ:W5.cell? ⟨w.heap.size+1+1,0,none⟩=some (.int .i64 0):=by rw[<-T];exact(Q0c I).trans br
     have b8:W5.frozen? ⟨w.heap.size+1+1,0,none⟩=false:=by rw[<-T];exact(Q1p I).trans bg
     have ch:=Q02 aG 1 _ rfl
     have b0:W5.cell? ⟨w.heap.size+1+1,1,none⟩=some (.slice none 0 0):=by rw[<-T];exact(Q0c I).trans bs
     have b9:W5.frozen? ⟨w.heap.size+1+1,1,none⟩=false:=by rw[<-T];exact(Q1p I).trans bh
     have ci:=Q02 aG 2 _ rfl
     have b1:W5.cell? ⟨w.heap.size+1+1,2,none⟩=some (.slice none 0 0):=by rw[<-T];exact(Q0c I).trans bt
     have ca:W5.frozen? ⟨w.heap.size+1+1,2,none⟩=false:=by rw[<-T];exact(Q1p I).trans bi
     have bS:Hid (Q1F W5 W0.heap.size (.slice o2 m.length c2) m):=by rw[<-T];exact Q0I be.out aa.out QdR 2 _
     have bT:Hid (RingO W5 wr.heap.size (.slice (some ⟨g4,0,none⟩) (f.length+1) c4) (fun b=>Q0U key b m) f):=by rw[<-T];exact Hr.out.put aa.out 2 _
     have bR:Hid (Below w.heap.size w W5):=by rw[<-T];exact bd.out.setCell (p:=⟨B,2,none⟩) (show w.heap.size<=B by have:=d.out.size;omega) _
     obtain⟨G,F,aN,aO,aP,aQ⟩:=((bT.out.low z 0 (.int .i64 key)).low z 1 (.slice o2 m.length c2)).low z 2 (.slice (some ⟨g4,0,none⟩) 3 c4);have aX:=Q00 aO;have aY:=Q00 aP;have aZ:=Q00 aQ;clear aO aP aQ;go_wp2;refine bodyPost_ret (v:=.tuple #[plv key (.slice o2 m.length c2) (.slice (some ⟨g4,0,none⟩) 3 c4),.bool true]) (by simp[results,Tryz.results177,go_sem,bZ,b0,b1]) rfl ?_;unfold Q5F;refine⟨o2,c2,some ⟨g4,0,none⟩,3,c4,G,F,aN,rfl, ?_, ?_, ?_,Q06 aY.out (by omega),Tab.mono aZ.out (by omega), ?_⟩
     ·simp;omega
     ·exact Q06 (Q0i (Q0i (Q0i bS.out ZQ 0 _) ZQ 1 _) ZQ 2 _) aC
     ·exact Q06 (Q6C aX.out (by simp;omega)) (by omega)
     ·exact((bR.out.setCell (p:=⟨w.heap.size+1+1,0,none⟩) (by(try simp) <;> omega) _).setCell (p:=⟨w.heap.size+1+1,1,none⟩) (by(try simp) <;> omega) _).setCell (p:=⟨w.heap.size+1+1,2,none⟩) (by(try simp) <;> omega) _
    ·skip
     have bV:¬((f.length:Int)+1 > 3):=by omega
     have co:decide (3 < (f.length:Int)+1)=false:=decide_eq_false (by omega);obtain⟨G,F,aN,aO,aP,aQ⟩:=((Hr.out.low z 0 (.int .i64 key)).low z 1 (.slice o2 m.length c2)).low z 2 (.slice (some ⟨g4,0,none⟩) (f.length+1) c4);have aX:=Q00 aO;have aY:=Q00 aP;have aZ:=Q00 aQ;clear aO aP aQ;go_wp2;refine bodyPost_ret (v:=.tuple #[plv key (.slice o2 m.length c2) (.slice (some ⟨g4,0,none⟩) (f.length+1) c4),.bool true]) (by simp[results,Tryz.results177,go_sem,br,bs,bt,bp,I]) rfl ?_;unfold Q5F
     refine⟨o2,c2,some ⟨g4,0,none⟩,(f.length+1),c4,G,F,aN,rfl, ?_, ?_, ?_,Q06 aY.out (by omega),Tab.mono aZ.out (by omega), ?_⟩
     ·simp;omega
     ·exact Q06 (Q0i (Q0i (Q0i be.out ZQ 0 _) ZQ 1 _) ZQ 2 _) aC
     ·have e:((G,8,F)::f).take 3=(G,8,F)::f:=List.take_of_length_le (by simp;omega)
      rw[e];exact Q06 aX.out (by omega)
     ·exact((bd.out.setCell (p:=⟨w.heap.size+1+1,0,none⟩) (by(try simp) <;> omega) _).setCell (p:=⟨w.heap.size+1+1,1,none⟩) (by(try simp) <;> omega) _).setCell (p:=⟨w.heap.size+1+1,2,none⟩) (by(try simp) <;> omega) _
   |false=>
    have:=J rfl;simp[a7]at this
structure Pm where
 key:Int
 l:List Bk
 ring:List (List (List Int))
def RiPm (lo hi:Nat) (w:World) (v:Value) (m:Pm):Prop:=∃vb vr,v=plv m.key vb vr/\RiV Q0L lo hi w vb m.l/\RiR lo hi w vr m.ring
abbrev Q8f (C:Nat) (w:World) (v:Value) (m:Pm):Prop:=RiPm 0 C w v m
def InPm (lo hi:Nat) (w:World) (v:Value) (m:Pm):Prop:=∃vb vr mid,v=plv m.key vb vr/\lo<=mid/\mid<=hi/\InL Q0L 259 lo mid w vb m.l/\InR mid hi w vr m.ring
theorem RiPm.step {a b lo hi:Nat} {w d:World} {v:Value} {m:Pm} (h:RiPm a b w v m) (s:Stp lo hi w d) (c:hi<=a\/b<=lo):RiPm a b d v m:=by
 obtain⟨g,i,e,f,h2⟩:=h;exact⟨g,i,e,f.step s c,RiR.stp.go h2 s c⟩
theorem RiPm.mono {a b a' b':Nat} {w:World} {v:Value} {m:Pm} (h:RiPm a b w v m) (k1:a'<=a) (k2:b<=b'):RiPm a' b' w v m:=by
 obtain⟨vb,vr,e,h1,h2⟩:=h;exact⟨vb,vr,e,h1.mono k1 k2,RiR.mon.go h2 k1 k2⟩
theorem RiPm.rd {lo hi:Nat} {w:World} {v:Value} {m:Pm} (h:RiPm lo hi w v m):Q8f hi w v m:=h.mono (Kcq _) (Kaq _)
theorem RiPm.le {lo C D:Nat} {w:World} {v:Value} {m:Pm} (h:RiPm lo C w v m) (hc:C<=D):RiPm lo D w v m:=h.mono (Kaq _) hc
theorem RiPm.kept {lo C D:Nat} {w b:World} {v:Value} {m:Pm} (h:RiPm lo C w v m) (a:Below D w b) (c:C<=D):RiPm lo C b v m:=
 h.step (lo:=C) (hi:=w.heap.size+C) ⟨a.os,a.tape,a.output,a.size,fun k d f=>a.block k (by omega)⟩ (.inr (Kaq _))
theorem InPm.step {a b lo hi:Nat} {w d:World} {v:Value} {m:Pm} (h:InPm a b w v m) (s:Stp lo hi w d) (l:hi<=a\/b<=lo):InPm a b d v m:=by
 obtain⟨j,k,c,e,g,i,f,h2⟩:=h;exact⟨j,k,c,e,g,i,InRow.step f s (by omega),InR.stp.go h2 s (by omega)⟩
theorem InPm.ri {lo hi:Nat} {w:World} {v:Value} {m:Pm} (h:InPm lo hi w v m):RiPm lo hi w v m:=by
 obtain⟨f,g,d,e,b,c,a,h2⟩:=h;exact⟨f,g,e,(InRow.ri a).mono (Kaq _) c,RiR.mon.go (InR.ri h2) b (Kaq _)⟩
theorem InPm.rd {lo hi:Nat} {w:World} {v:Value} {m:Pm} (h:InPm lo hi w v m):Q8f hi w v m:=h.ri.rd
theorem RiR.len {lo hi:Nat} {w:World} {v:Value} {lll:List (List (List Int))} (h:RiR lo hi w v lll):∃o c,v=.slice o lll.length c:=by
 obtain⟨hs,h0,⟨o,c,e,_⟩,_⟩:=h;exact⟨o,c,by rw[e,h0]⟩
theorem RiPm.opn {lo hi:Nat} {w:World} {v:Value} {m:Pm} (h:RiPm lo hi w v m):∃(o:Option Addr) (c:Nat) (b:Option Addr) (a:Nat),v=plv m.key (.slice o m.l.length c) (.slice b m.ring.length a):=by
 obtain⟨g,i,e,⟨o,c,d,_⟩,h2⟩:=h;obtain⟨b,a,f⟩:=RiR.len h2;exact⟨o,c,b,a,by rw[e,d,f]⟩
theorem InPm.opn {lo hi:Nat} {w:World} {v:Value} {m:Pm} (h:InPm lo hi w v m):∃(o:Option Addr) (c:Nat) (b:Option Addr) (a:Nat),v=plv m.key (.slice o m.l.length c) (.slice b m.ring.length a):=h.ri.opn
def Q3a (m:Pm):Prop:=m.l.length<=1048576/\m.ring.length<=1048576/\szR m.ring<=1048576/\(∀i,i < m.ring.length->(m.ring.getD i []).length<=1048576)/\∀i,i < m.ring.length->∀j,j < (m.ring.getD i []).length->((m.ring.getD i []).getD j []).length<=1048576
def nPm (m:Pm):Int:=3 * (m.l.length:Int)+(szR m.ring:Int)
theorem QgV {m:Pm} (h:Q3a m):0<=nPm m/\nPm m<=4194304:=by
 obtain⟨h1,h2,h3,_⟩:=h;unfold nPm;omega
def QiX (k:Int) (m:Pm):Pm:=⟨m.key,mkL QfV 3 k m.l.length,mkR (k+3 * (m.l.length:Int)) m.ring⟩
theorem Qfd (q B:Value) (m:Pm) (w:World) (J:Q8f w.heap.size w q m) (h2:Q8f w.heap.size w B m) (L:Q3a m):
  Calls Tryz.prog 80 #[q,B] w fun e T=>e=.returned (.bool true)/\Below w.heap.size w T:=by
 obtain⟨N,P,rfl,⟨G,E,rfl,C⟩,z⟩:=J;obtain⟨O,R,rfl,⟨H,F,rfl,D⟩,A⟩:=h2;obtain⟨n,h,rfl⟩:=RiR.len z;obtain⟨p,i,rfl⟩:=RiR.len A;obtain⟨x,y,M,j,k⟩:=L;have u:=Q00 (fun W (a:Below w.heap.size w W)=>Q9J G H E F m.l W ((C.rd.kept a (Kaq _)).le a.size) ((D.rd.kept a (Kaq _)).le a.size) x)
 have v:=Q00 (fun W (a:Below w.heap.size w W)=>Q8u (.slice n m.ring.length h) (.slice p m.ring.length i) m.ring W (RiR.mon.go (RiR.stp.go z (Stp.of (lo:=0) (hi:=0) a) (.inl (Kcq _))) (Kaq _) a.size) (RiR.mon.go (RiR.stp.go A (Stp.of (lo:=0) (hi:=0) a) (.inl (Kcq _))) (Kaq _) a.size) y j k);clear C D z A j k;obtain⟨I,b⟩:∃W,((w.alloc (.cells #[.int .i64 m.key,.slice G m.l.length E,.slice n m.ring.length h] 29)).alloc (.cells #[.int .i64 m.key,.slice H m.l.length F,.slice p m.ring.length i] 29))=W:=⟨_,rfl⟩;have c:=alb0v0v2 b;have g:=Q00 c
 clear c;have f:=alz0v0v2 b;obtain⟨r,s,t⟩:=alc3v0v2 b;have d:=alz0v1v2 b;obtain⟨u0,u1,u2⟩:=alc3v1v2 b;go_enter Tryz.func80,Tryz.ntmps80;go_wp2_with fail;refine(u.out I g.out).mono ?_;rintro e q ⟨rfl,a⟩;replace r:=bC a r f;replace s:=bC a s f;replace t:=bC a t f;replace f:=Kbq f a.size;replace u0:=bC a u0 d;replace u1:=bC a u1 d;replace u2:=bC a u2 d;replace d:=Kbq d a.size;replace g:=Q00 (g.out.trans (a.mono g.out.size));clear a;go_wp2_with fail;refine(v.out q g.out).mono ?_;rintro e B ⟨rfl,a⟩;replace r:=bC a r f
 replace s:=bC a s f;replace t:=bC a t f;replace f:=Kbq f a.size;replace u0:=bC a u0 d;replace u1:=bC a u1 d;replace u2:=bC a u2 d;replace d:=Kbq d a.size;replace g:=Q00 (g.out.trans (a.mono g.out.size));clear a;go_wp2;go_ret;exact⟨rfl,g.out⟩
theorem QbL (lo hi:Nat) (v:Value) (m:Pm) (k:Int) (w:World) (hv:InPm lo hi w v m) (X:0<=k) (h1:k<=5000000) (Y:Q3a m):
  Calls Tryz.prog 86 #[v,.int .i64 k] w fun e P=>e=.returned (.int .i64 (k+nPm m))/\InPm lo hi P v (QiX k m)/\Stp lo hi w P:=by
 obtain⟨vb,vr,i,rfl,M,N,f,x⟩:=hv;obtain⟨o,c,U,_⟩:=InRow.ri f;subst U;obtain⟨n,j,V⟩:=RiR.len (InR.ri x);subst V;obtain⟨B,C,D,s,E⟩:=Y;obtain⟨q,r⟩:∃W,(w.alloc (.cells #[.int .i64 m.key,.slice o m.l.length c,.slice n m.ring.length j] 29))=W:=⟨_,rfl⟩;have a:=alb0v0v1 r;have z:=alx0v0v1 r;have s0:Hid (Stp lo hi w q):=Stp.of a
 have F:Hid (∀b,(Value.slice o m.l.length c).ownBlock=some b->b < w.heap.size):=fun b e=>(f.1.lt b e).2
 replace f:=InRow.step f (Stp.of (lo:=0) (hi:=0) a) (.inl (Kcq _));replace x:=InR.stp.go x (Stp.of (lo:=0) (hi:=0) a) (.inl (Kcq _));have R:=Q00 (Q7h lo (.slice o m.l.length c) m.l k q f.1 X (by omega) B);have G:=Q00 f.2;have A:=Q00 (fun b e=>(f.1.lt b e).1);have J:=Q00 x;have Z:q.cell? ⟨w.heap.size,1,none⟩=some (.slice o m.l.length c):=Q02 z 1 _ rfl;have p2:q.cell? ⟨w.heap.size,2,none⟩=some (.slice n m.ring.length j):=Q02 z 2 _ rfl;have L:=Q00 z;clear f x a z;go_enter Tryz.func86,Tryz.ntmps86;go_wp2_with fail;refine R.out.mono ?_;rintro e y ⟨rfl,d,g⟩
 have s1:Hid (Stp lo i q y):=Stp.grown g (fun b e=>⟨A.out b e,G.out b e⟩);have u:y.heap[w.heap.size]? =some (.cells #[.int .i64 m.key,.slice o m.l.length c,.slice n m.ring.length j] 29 (0,0)):=(g.block _ (KEq L.out) (fun e=>by have:=F.out _ e.symm;omega)).trans L.out;have I:=Q00 d;have p:=Q00 (Q8I i hi (.slice n m.ring.length j) m.ring (k+3 * (m.l.length:Int)) y (InR.stp.go J.out s1.out (.inl (Kaq _))) (by omega) (by omega) C D s);have q2:y.cell? ⟨w.heap.size,2,none⟩=some (.slice n m.ring.length j):=Q02 u 2 _ rfl
 clear d g Z p2 u J s E;go_wp2_with fail;refine p.out.mono ?_;rintro e O ⟨rfl,t,h⟩;have H:Hid (InPm lo hi O (plv m.key (.slice o m.l.length c) (.slice n m.ring.length j)) (QiX k m)/\Stp lo hi w O):=⟨⟨_,_,i,rfl,M,N,InRow.step ⟨I.out,G.out⟩ h (.inr (Kaq _)),t⟩,s0.out.trans ((s1.out.wide2 (Kaq _) N).trans (h.wide2 M (Kaq _)))⟩;have T:=Q00 (show k+3 * (m.l.length:Int)+(szR m.ring:Int)=k+nPm m by unfold nPm;omega);clear t h I s0 s1 p;go_wp2;go_ret;exact⟨by rw[T.out];rfl,H.out.1,H.out.2⟩
structure Bm where
 j:Jm
 p:Pm
 t:List Sl
abbrev Q5i (kj:Int) (vl:Value) (sf kp:Int) (vb vr vt:Value):Value:=.agg #[.int .i64 kj,vl,.int .i64 sf,.int .i64 kp,vb,vr,vt]
def RdBm (C:Nat) (w:World) (v:Value) (m:Bm):Prop:=∃vl vb vr vt,v=Q5i m.j.key vl m.j.safe m.p.key vb vr vt/\RdJm C w (jrn m.j.key vl m.j.safe) m.j/\Q8f C w (plv m.p.key vb vr) m.p/\RdT C w (tab vt) m.t
def InBm (lo hi:Nat) (w:World) (v:Value) (m:Bm):Prop:=∃vl vb vr vt j0 j1 p0 p1 t0 t1,v=Q5i m.j.key vl m.j.safe m.p.key vb vr vt/\(lo<=j0/\j1<=hi/\lo<=p0/\p1<=hi/\lo<=t0/\t1<=hi/\(j1<=p0\/p1<=j0)/\(j1<=t0\/t1<=j0)/\(p1<=t0\/t1<=p0))/\InJm j0 j1 w (jrn m.j.key vl m.j.safe) m.j/\InPm p0 p1 w (plv m.p.key vb vr) m.p/\InTb t0 t1 w (tab vt) m.t
theorem RdBm.kept {C D:Nat} {w c:World} {v:Value} {m:Bm} (h:RdBm C w v m) (a:Below D w c) (b:C<=D):RdBm C c v m:=by
 obtain⟨i,g,j,k,e,d,h2,f⟩:=h;exact⟨i,g,j,k,e,d.kept a b,h2.kept a b,f.kept a b⟩
theorem RdBm.le {C D:Nat} {w:World} {v:Value} {m:Bm} (h:RdBm C w v m) (hc:C<=D):RdBm D w v m:=by
 obtain⟨vl,vb,vr,vt,e,h1,h2,h3⟩:=h;exact⟨vl,vb,vr,vt,e,h1.le hc,h2.le hc,h3.le hc⟩
theorem InBm.rd {lo hi:Nat} {w:World} {v:Value} {m:Bm} (h:InBm lo hi w v m):RdBm hi w v m:=by
 obtain⟨d,c,f,g,i,j,l,n,p,q,e,k,a,h2,b⟩:=h;exact⟨d,c,f,g,e,a.rd.le (by omega),h2.rd.le (by omega),b.rd.le (by omega)⟩
theorem InBm.step {x y lo hi:Nat} {w a:World} {v:Value} {m:Bm} (h:InBm x y w v m) (s:Stp lo hi w a) (t:hi<=x\/y<=lo):InBm x y a v m:=by
 obtain⟨p,n,q,r,d,f,g,i,j,l,e,k,b,h2,c⟩:=h;exact⟨p,n,q,r,d,f,g,i,j,l,e,k,b.step s (by omega),h2.step s (by omega),c.step s (by omega)⟩
theorem RdBm.opn {C:Nat} {w:World} {v:Value} {m:Bm} (h:RdBm C w v m):∃(o:Option Addr) (c:Nat) (q:Option Addr) (b:Nat) (n:Option Addr) (a:Nat) (r:Option Addr) (d:Nat),v=Q5i m.j.key (.slice o m.j.l.length c) m.j.safe m.p.key (.slice q m.p.l.length b) (.slice n m.p.ring.length a) (.slice r m.t.length d):=by
 obtain⟨B,A,D,E,e,⟨y,s,o,c,f,_⟩,h2,⟨z,x,r,d,k,_⟩⟩:=h;obtain⟨q,b,n,a,u⟩:=h2.opn;simp only[Value.agg.injEq,Array.mk.injEq,List.cons.injEq,and_true,true_and]at s u x;obtain⟨g,i⟩:=u;subst s f x k g i;exact⟨o,c,q,b,n,a,r,d,e⟩
def Q5m (m:Bm):Prop:=m.j.l.length<=1048576/\Q3a m.p/\m.t.length<=1048576
def nBm (m:Bm):Int:=3 * (m.j.l.length:Int)+nPm m.p+5 * (m.t.length:Int)
theorem Qhv {m:Bm} (h:Q5m m):0<=nBm m/\nBm m<=9999999+5242880:=by
 have h2:=QgV h.2.1;have h1:=h.1;have h3:=h.2.2;unfold nBm;omega
def QiF (k:Int) (m:Bm):Bm:=⟨QiN k m.j,QiX (k+3 * (m.j.l.length:Int)) m.p,QiI (k+3 * (m.j.l.length:Int)+nPm m.p) m.t⟩
theorem QfY (v x:Value) (m:Bm) (w:World) (Z:RdBm w.heap.size w v m) (h2:RdBm w.heap.size w x m) (I:Q5m m):
  Calls Tryz.prog 34 #[v,x] w fun e w'=>e=.returned (.bool true)/\Below w.heap.size w w':=by
 obtain⟨o1,c1,M,A,J,y,O,C,rfl⟩:=Z.opn;obtain⟨o2,c2,N,B,L,z,P,D,rfl⟩:=h2.opn;obtain⟨vl,vb,vr,vt,e,R,T,U⟩:=Z;simp only[Value.agg.injEq,Array.mk.injEq,List.cons.injEq,and_true,true_and]at e;obtain⟨E,F,G,H⟩:=e;subst E F G H;obtain⟨vl,vb,vr,vt,e,V,X,Y⟩:=h2;simp only[Value.agg.injEq,Array.mk.injEq,List.cons.injEq,and_true,true_and]at e;obtain⟨E,F,G,H⟩:=e;subst E F G H
 have u:m.j.l.length<=1048576:=by have:=I.1;omega
 have HJ:=Q00 (fun W (a:Below w.heap.size w W)=>QaM _ _ m.j W ((R.kept a (Kaq _)).le a.size) ((V.kept a (Kaq _)).le a.size) u);have HP:=Q00 (fun W (a:Below w.heap.size w W)=>Qfd _ _ m.p W ((T.kept a (Kaq _)).le a.size) ((X.kept a (Kaq _)).le a.size) I.2.1);have HT:=Q00 (fun W (a:Below w.heap.size w W)=>Q5l _ _ m.t W ((U.kept a (Kaq _)).le a.size) ((Y.kept a (Kaq _)).le a.size) I.2.2);clear R T U V X Y u
 obtain⟨W0,f⟩:∃W,((w.alloc (.cells #[.int .i64 m.j.key,.slice o1 m.j.l.length c1,.int .i64 m.j.safe,.int .i64 m.p.key,.slice M m.p.l.length A,.slice J m.p.ring.length y,.slice O m.t.length C] 34)).alloc (.cells #[.int .i64 m.j.key,.slice o2 m.j.l.length c2,.int .i64 m.j.safe,.int .i64 m.p.key,.slice N m.p.l.length B,.slice L m.p.ring.length z,.slice P m.t.length D] 34))=W:=⟨_,rfl⟩;have g:=alb0v0v2 f;have d:=Q00 g;clear g;have c:=alz0v0v2 f;obtain⟨h,i,k,n,q,r,s⟩:=alc7v0v2 f;have b:=alz0v1v2 f;obtain⟨u0,u1,u2,u3,u4,u5,u6⟩:=alc7v1v2 f
 go_enter Tryz.func34,Tryz.ntmps34;go_wp2_with fail;refine(HJ.out W0 d.out).mono ?_;rintro e v ⟨rfl,a⟩;replace h:=bC a h c;replace i:=bC a i c;replace k:=bC a k c;replace n:=bC a n c;replace q:=bC a q c;replace r:=bC a r c;replace s:=bC a s c;replace c:=Kbq c a.size;replace u0:=bC a u0 b;replace u1:=bC a u1 b;replace u2:=bC a u2 b;replace u3:=bC a u3 b;replace u4:=bC a u4 b;replace u5:=bC a u5 b;replace u6:=bC a u6 b;replace b:=Kbq b a.size;replace d:=Q00 (d.out.trans (a.mono d.out.size));clear a;go_wp2_with fail
 refine(HP.out v d.out).mono ?_;rintro e x ⟨rfl,a⟩;replace h:=bC a h c;replace i:=bC a i c;replace k:=bC a k c;replace n:=bC a n c;replace q:=bC a q c;replace r:=bC a r c;replace s:=bC a s c;replace c:=Kbq c a.size;replace u0:=bC a u0 b;replace u1:=bC a u1 b;replace u2:=bC a u2 b;replace u3:=bC a u3 b;replace u4:=bC a u4 b;replace u5:=bC a u5 b;replace u6:=bC a u6 b;replace b:=Kbq b a.size;replace d:=Q00 (d.out.trans (a.mono d.out.size));clear a;go_wp2_with fail;refine(HT.out x d.out).mono ?_;rintro e v3 ⟨rfl,a⟩
 replace h:=bC a h c;replace i:=bC a i c;replace k:=bC a k c;replace n:=bC a n c;replace q:=bC a q c;replace r:=bC a r c;replace s:=bC a s c;replace c:=Kbq c a.size;replace u0:=bC a u0 b;replace u1:=bC a u1 b;replace u2:=bC a u2 b;replace u3:=bC a u3 b;replace u4:=bC a u4 b;replace u5:=bC a u5 b;replace u6:=bC a u6 b;replace b:=Kbq b a.size;replace d:=Q00 (d.out.trans (a.mono d.out.size));clear a;go_wp2;go_ret;exact⟨rfl,d.out⟩
theorem QbW (lo hi:Nat) (v:Value) (m:Bm) (k:Int) (w:World) (hv:InBm lo hi w v m) (h0:0<=k) (h1:k<=100000) (hh:hi<=w.heap.size) (hf:Q5m m):
  Calls Tryz.prog 38 #[v,.int .i64 k] w fun e w'=>e=.returned (.int .i64 (k+nBm m))/\InBm lo hi w' v (QiF k m)/\Stp lo hi w w':=by
 obtain⟨o,c,ob,I,oR,H,ot,J,rfl⟩:=hv.rd.opn;obtain⟨vl,vb,vr,vt,R,E,pl,F,tl,th,e,⟨T,U,V,X,Y,Z,k7,k8,k9⟩,M,N,O⟩:=hv;simp only[Value.agg.injEq,Array.mk.injEq,List.cons.injEq,and_true,true_and]at e;obtain⟨e1,e2,e3,e4⟩:=e;subst e1 e2 e3 e4;obtain⟨f1,L,f3⟩:=hf;have aa:=QgV L;obtain⟨G,h⟩:∃W,w.alloc (.cells #[.int .i64 m.j.key,.slice o m.j.l.length c,.int .i64 m.j.safe,.int .i64 m.p.key,.slice ob m.p.l.length I,.slice oR m.p.ring.length H,.slice ot m.t.length J] 34)=W:=⟨_,rfl⟩;have a:=alb0v0v1 h;have d:Hid _:=alx0v0v1 h;have z:Hid (Stp lo hi w G):=Stp.of a
 have I1:=Q00 (M.step (Stp.of (lo:=0) (hi:=0) a) (.inl (Kcq _)));have D:=Q00 (N.step (Stp.of (lo:=0) (hi:=0) a) (.inl (Kcq _)));have g:=Q00 (O.step (Stp.of (lo:=0) (hi:=0) a) (.inl (Kcq _)));obtain⟨i,n,q,r,s,u,x⟩:=cxb7v0v0 d.out;clear M N O a;go_enter Tryz.func38,Tryz.ntmps38;go_wp2_with fail;refine(Q7n R E _ m.j k G I1.out h0 (by omega) (by omega)).mono ?_;rintro e v1 ⟨rfl,P,s1⟩;clear i n q r s u x;have y:=Q00 P;have A:=Q00 s1;have f:=Q00 (s1.box d.out (.inr (show E<=w.heap.size by omega)));replace D:=Q00 (D.out.step s1 (by omega))
 replace g:=Q00 (g.out.step s1 (by omega));obtain⟨i,n,q,r,s,u,x⟩:=cxb7v0v0 f.out;clear P s1;go_wp2_with fail;refine(QbL pl F _ m.p (k+3 * (m.j.l.length:Int)) v1 D.out (by omega) (by omega) L).mono ?_;rintro e v2 ⟨rfl,p2,s2⟩;clear i n q r s u x;have HP:=Q00 p2;have B:=Q00 s2;have C:=Q00 (s2.box f.out (.inr (show F<=w.heap.size by omega)));replace y:=Q00 (y.out.step s2 (by omega));replace g:=Q00 (g.out.step s2 (by omega));obtain⟨i,n,q,r,s,u,x⟩:=cxb7v0v0 C.out;clear p2 s2;go_wp2_with fail
 refine(Q9w tl th _ m.t (k+3 * (m.j.l.length:Int)+nPm m.p) v2 g.out (by omega) (by omega) f3).mono ?_;rintro e v3 ⟨rfl,t3,s3⟩;clear i n q r s u x
 have b:Hid (InBm lo hi v3 (Q5i m.j.key (.slice o m.j.l.length c) m.j.safe m.p.key (.slice ob m.p.l.length I) (.slice oR m.p.ring.length H) (.slice ot m.t.length J)) (QiF k m)/\Stp lo hi w v3):=
  ⟨⟨_,_,_,_,R,E,pl,F,tl,th,rfl,⟨T,U,V,X,Y,Z,k7,k8,k9⟩,y.out.step s3 (by omega),HP.out.step s3 (by omega),t3⟩,z.out.trans (((A.out.wide2 T U).trans (B.out.wide2 V X)).trans (s3.wide2 Y Z))⟩
 have HN:=Q00 (show k+3 * (m.j.l.length:Int)+nPm m.p+5 * (m.t.length:Int)=k+nBm m by unfold nBm;omega);clear t3 s3;go_wp2;go_ret;exact⟨by rw[HN.out];rfl,b.out.1,b.out.2⟩
theorem Qhx (key:Int) (o:Option Addr) (cap:Nat) (l:List Bk) (h:Option Addr) (f d:Nat) (k i g:Int) (w:World) (E:Q0d l=true) (n:doL l k i g=none) (t:l.length<=100) (s:RdK w.heap.size w o l):
  Calls Tryz.prog 177 #[plv key (.slice o l.length cap) (.slice h f d),cmd k i g] w fun e F=>e=.returned (.tuple #[plv key (.slice o l.length cap) (.slice h f d),.bool false])/\Below w.heap.size w F:=by
 have c:Q0m l i=(k==0):=by
  unfold doL at n
  split at n
  ·assumption
  ·cases n
 obtain⟨z,a⟩:∃W,(((w.alloc (.cells #[.int .i64 key,.slice o l.length cap,.slice h f d] 29)).alloc (.cells #[.int .i64 k,.int .i64 i,.int .i64 g] 256)).alloc (.cells #[.int .i64 0,.slice none 0 0,.slice none 0 0] 29))=W:=⟨_,rfl⟩;have b:=alb0v0v3 a;have j:=Q00 b;clear b;have N:=alz0v0v3 a;obtain⟨H,I,J⟩:=alc3v0v3 a;have M:=alz0v1v3 a;obtain⟨u0,u1,u2⟩:=alc3v1v3 a;have L:=alz0v2v3 a;obtain⟨u,x,y⟩:=alc3v2v3 a;obtain⟨A,B,C⟩:=alf3v2v3 a;have m:=Q00 (Q59 o cap l i z ((s.kept j.out (Kaq _)).le j.out.size) (by omega) E);clear s n
 by_cases h0:k=0
 ·subst h0
  have r:Q0m l i=true:=c;rw[Qcm r]at m
  have D:(0:Int)<=(Q0e l i:Int):=by omega
  clear c r;generalize Q0e l i=pl at *;go_enter Tryz.func177,Tryz.ntmps177;go_wp2_with fail;refine m.out.mono ?_;rintro e G ⟨rfl,rfl⟩;go_wp2;refine bodyPost_ret (v:=.tuple #[plv key (.slice o l.length cap) (.slice h f d),.bool false]) (by simp[results,Tryz.results177,go_sem,u,x,y]) rfl ⟨rfl, ?_⟩;exact((j.out.setCell (p:=⟨w.heap.size+1+1,0,none⟩) (by(try simp) <;> omega) _).setCell (p:=⟨w.heap.size+1+1,1,none⟩) (by(try simp) <;> omega) _).setCell (p:=⟨w.heap.size+1+1,2,none⟩) (by(try simp) <;> omega) _
 ·have q:(k==0)=false:=beq_eq_false_iff_ne.2 h0
  rw[q]at c;rw[Qf4 c]at m;clear c;go_enter Tryz.func177,Tryz.ntmps177;go_wp2_with fail;refine m.out.mono ?_;rintro e G ⟨rfl,rfl⟩;go_wp2;refine bodyPost_ret (v:=.tuple #[plv key (.slice o l.length cap) (.slice h f d),.bool false]) (by simp[results,Tryz.results177,go_sem,u,x,y]) rfl ⟨rfl, ?_⟩;exact((j.out.setCell (p:=⟨w.heap.size+1+1,0,none⟩) (by(try simp) <;> omega) _).setCell (p:=⟨w.heap.size+1+1,1,none⟩) (by(try simp) <;> omega) _).setCell (p:=⟨w.heap.size+1+1,2,none⟩) (by(try simp) <;> omega) _
theorem Qcb (key:Int) (o:Option Addr) (cap:Nat) (l:List Bk) (p:Option Addr) (s:Nat) (a:List Hd) (k i g:Int) (m:List Bk) (w:World) (B:Q1S key=true) (C:Q0d l=true) (A:Q1y k i g=true) (D:doL l k i g=some m) (c:l.length<=100) (z:RdK w.heap.size w o l) (y:RdL Q0q w.heap.size w p a) (j:p=none->s=0) (f:a.length<=3):
  Calls Tryz.prog 177 #[plv key (.slice o l.length cap) (.slice p a.length s),cmd k i g] w fun e r=> ∃E x q u d v t n,e=.returned (.tuple #[plv key (.slice E m.length x) (.slice q u d),.bool true])/\u=(((v,8,t)::a).take 3).length/\Q1F r w.heap.size (.slice E m.length x) m/\ownL Q0q 206 r w.heap.size (.slice q u d) (((v,8,t)::a).take 3)/\ownL Q0q 22 r w.heap.size (.slice v 8 t) n/\Tab (fun b=>Q0U key b m) 8 r w.heap.size n/\Below w.heap.size w r:=by
 by_cases h0:k=0
 ·subst h0
  exact(QfU key o cap l p s a i g m w B C A D c z y j f).mono (fun _ _ h=>h)
 ·exact(Qej key o cap l p s a k i g (Q0e l i) m w B C A D c z y j f h0 (beq_eq_false_iff_ne.2 h0) rfl).mono (fun _ _ h=>h)
theorem Q9u (key:Int) (w:World) (L:Q1S key=true):
  Calls Tryz.prog 124 #[.int .i64 key] w fun e G=> ∃g,e=.returned (plv key (.slice none 0 0) (.slice (some ⟨g,0,none⟩) 1 1))/\RingO G w.heap.size (.slice (some ⟨g,0,none⟩) 1 1) (fun b=>Q0U key b []) []/\Below w.heap.size w G:=by
 obtain⟨I,k⟩:∃W,(w.alloc (.cells #[.int .i64 0,.slice none 0 0,.slice none 0 0] 29))=W:=⟨_,rfl⟩;have d:=alb0v0v1 k;have m:=Q00 d;clear d;have c:=alz0v0v1 k;obtain⟨r,s,t⟩:=alc3v0v1 k;obtain⟨h,i,j⟩:=alf3v0v1 k;have F:=c;have H:=Q00 (Q1j key none 0 [] I (.inl rfl) (by simp) L rfl);go_enter Tryz.func124,Tryz.ntmps124;go_wp2_with fail;refine(H.out).mono ?_;rintro e l ⟨y,x,B,rfl,q,u,f⟩;have N:=f.size;have C:=Q00 (And.intro q u);clear q u;replace r:=bC f r c;replace s:=bC f s c;replace t:=bC f t c
 replace h:=bF f h c;replace i:=bF f i c;replace j:=bF f j c;replace c:=Kbq c f.size;replace m:=Q00 (m.out.trans (f.mono m.out.size));clear f
 have J:l.heap.size+1=(l.alloc (.cells #[.slice y 8 x] 206)).heap.size:=by simp
 have M:l.heap.size≠w.heap.size:=by omega
 have E:w.heap.size≠l.heap.size:=by omega
 obtain⟨D,n⟩:∃W,l.alloc (.cells #[.slice y 8 x] 206)=W:=⟨_,rfl⟩;have a:=alb0v0v1 n;have A:Hid (RingO D (w.heap.size+1) (.slice (some ⟨l.heap.size,0,none⟩) 1 1) (fun b=>Q0U key b []) []):=⟨y,x,B,by rw[<-n];exact Q06 (Q3l l y 8 x _) (by omega),Q06 (Q0a C.out.1 a) (by omega),Tab.mono (C.out.2.kept a) (by omega)⟩;have O:=a.size;replace r:=bC a r c;replace s:=bC a s c;replace t:=bC a t c;replace h:=bF a h c;replace i:=bF a i c;replace j:=bF a j c;have z:Hid (Below w.heap.size w D):=m.out.trans (a.mono m.out.size);go_wp2
 refine bodyPost_ret (v:=plv key (.slice none 0 0) (.slice (some ⟨l.heap.size,0,none⟩) 1 1)) (by simp[results,Tryz.results124,go_sem,r,s,t]) rfl ⟨l.heap.size,rfl, ?_, ?_⟩
 ·exact RingO.mono (((A.out.low (Nat.lt_succ_self _) 0 _).low (Nat.lt_succ_self _) 1 _).low (Nat.lt_succ_self _) 2 _) (Nat.le_succ _)
 ·exact((z.out.setCell (p:=⟨w.heap.size,0,none⟩) (by(try simp) <;> omega) _).setCell (p:=⟨w.heap.size,1,none⟩) (by(try simp) <;> omega) _).setCell (p:=⟨w.heap.size,2,none⟩) (by(try simp) <;> omega) _
def Q1B (m1 m2:Pm):Bool:=decide (m1.key=m2.key) && decide (m1.l=m2.l) && Q0V m1.ring m2.ring
theorem Q5K (D N:Value) (c d:Pm) (w:World) (h1:Q8f w.heap.size w D c) (h2:Q8f w.heap.size w N d) (I:Q3a c) (J:Q3a d):
  Calls Tryz.prog 161 #[D,N] w fun e w'=>e=.returned (.bool (Q1B c d))/\Below w.heap.size w w':=by
 obtain⟨aa,ac,rfl,y,L⟩:=h1;obtain⟨ab,ad,rfl,z,M⟩:=h2;obtain⟨o1,R,rfl,Z⟩:=y.open;obtain⟨o2,T,rfl,k2⟩:=z.open;obtain⟨B,u,rfl⟩:=RiR.len L;obtain⟨C,v,rfl⟩:=RiR.len M;obtain⟨f1,f2,f3,U,V⟩:=I;obtain⟨g1,g2,g3,X,Y⟩:=J;have b:=Q00 (show Q1B c d=(decide (c.key=d.key) && decide (c.l=d.l) && Q0V c.ring d.ring)from rfl);obtain⟨p1,q⟩:∃x,c.key=x:=⟨_,rfl⟩;obtain⟨p2,r⟩:∃x,d.key=x:=⟨_,rfl⟩;obtain⟨O,h⟩:∃x,c.l.length=x:=⟨_,rfl⟩;obtain⟨P,i⟩:∃x,d.l.length=x:=⟨_,rfl⟩;obtain⟨q1,k⟩:∃x,c.ring.length=x:=⟨_,rfl⟩
 obtain⟨q2,p⟩:∃x,d.ring.length=x:=⟨_,rfl⟩;have s:=Q00 (fun W (a:Below w.heap.size w W)=>Qbi o1 o2 O P R T c.l d.l W h.symm i.symm ((Z.kept a (Kaq _)).le a.size) ((k2.kept a (Kaq _)).le a.size) f1 g1);have H:=Q00 (fun W (a:Below w.heap.size w W)=>Qdj B C q1 q2 u v c.ring d.ring W k.symm p.symm (by rw[<-k];exact RiR.mon.go (RiR.stp.go L (Stp.of (lo:=0) (hi:=0) a) (.inl (Kcq _))) (Kaq _) a.size) (by rw[<-p];exact RiR.mon.go (RiR.stp.go M (Stp.of (lo:=0) (hi:=0) a) (.inl (Kcq _))) (Kaq _) a.size) (by rw[<-k];exact f2) U V X Y)
 rw[q,r,h,i,k,p];rw[q,r]at b;clear L M Z k2 y z U V X Y q r h i k p;obtain⟨W0,g⟩:∃W,((w.alloc (.cells #[.int .i64 p1,.slice o1 O R,.slice B q1 u] 29)).alloc (.cells #[.int .i64 p2,.slice o2 P T,.slice C q2 v] 29))=W:=⟨_,rfl⟩;have j:=alb0v0v2 g;have f:=Q00 j;clear j;have n:=alz0v0v2 g;obtain⟨E,F,G⟩:=alc3v0v2 g;have m:=alz0v1v2 g;obtain⟨u0,u1,u2⟩:=alc3v1v2 g
 by_cases hk:p1=p2
 ·subst hk
  rw[decide_eq_true rfl,Bool.true_and]at b;obtain⟨t1,A⟩:∃t,decide (c.l=d.l)=t:=⟨_,rfl⟩;rw[A]at b s;clear A;go_enter Tryz.func161,Tryz.ntmps161;go_wp2_with fail;refine(s.out W0 f.out).mono ?_;rintro e D ⟨rfl,a⟩;replace E:=bC a E n;replace F:=bC a F n;replace G:=bC a G n;replace n:=Kbq n a.size;replace u0:=bC a u0 m;replace u1:=bC a u1 m;replace u2:=bC a u2 m;replace m:=Kbq m a.size;replace f:=Q00 (f.out.trans (a.mono f.out.size));clear a
  cases t1 with
  |false=>
   go_wp2;go_ret;exact⟨Q03 (by rw[b.out];rfl),f.out⟩
  |true=>
   go_wp2_with fail;refine(H.out D f.out).mono ?_;rintro e N ⟨rfl,a⟩;replace E:=bC a E n;replace F:=bC a F n;replace G:=bC a G n;replace n:=Kbq n a.size;replace u0:=bC a u0 m;replace u1:=bC a u1 m;replace u2:=bC a u2 m;replace m:=Kbq m a.size;replace f:=Q00 (f.out.trans (a.mono f.out.size));clear a;go_wp2;go_ret;exact⟨Q03 (by rw[b.out];rfl),f.out⟩
 ·rw[decide_eq_false hk]at b
  go_enter Tryz.func161,Tryz.ntmps161;go_wp2;go_ret;exact⟨Q03 (by rw[b.out];rfl),f.out⟩
theorem Qdz (v1 v2:Value) (f g:Pm) (w:World) (h1:Q8f w.heap.size w v1 f) (h2:Q8f w.heap.size w v2 g) (aB:Q3a f) (aC:Q3a g):
  Calls Tryz.prog 127 #[v1,v2] w fun e w'=>e=.returned (.bool (Q1B f g))/\Below w.heap.size w w':=by
 obtain⟨aO,aQ,rfl,al,r1⟩:=h1;obtain⟨aP,aR,rfl,am,r2⟩:=h2;obtain⟨o1,c1,rfl,k1⟩:=al.open;obtain⟨o2,c2,rfl,k2⟩:=am.open;obtain⟨aD,az,rfl⟩:=RiR.len r1;obtain⟨aE,aA,rfl⟩:=RiR.len r2;obtain⟨f1,f2,f3,f4,f5⟩:=aB;obtain⟨g1,g2,g3,g4,g5⟩:=aC;have m:=Q00 (show Q1B f g=(decide (f.key=g.key) && decide (f.l=g.l) && Q0V f.ring g.ring)from rfl);obtain⟨p1,ac⟩:∃x,f.key=x:=⟨_,rfl⟩;obtain⟨p2,ad⟩:∃x,g.key=x:=⟨_,rfl⟩;obtain⟨C,z⟩:∃x,f.l.length=x:=⟨_,rfl⟩;obtain⟨b2,E⟩:∃x,g.l.length=x:=⟨_,rfl⟩;obtain⟨I,G⟩:∃x,f.ring.length=x:=⟨_,rfl⟩
 obtain⟨q2,T⟩:∃x,g.ring.length=x:=⟨_,rfl⟩;have H1:=Q00 k1;have H2:=Q00 k2;have ah:=Q00 r1;have ai:=Q00 r2;have F4:=Q00 f4;have F5:=Q00 f5;have G4:=Q00 g4;have G5:=Q00 g5;rw[G]at ah;rw[T]at ai;have L:=Q00 z;have M:=Q00 E;have N:=Q00 G;have Z:=Q00 T;rw[z]at f1;rw[G]at f2;rw[ac,ad,z,E,G,T];rw[ac,ad]at m;clear r1 r2 k1 k2 al am f4 f5 g4 g5 ac ad z E G T g1 g2 g3 f3
 obtain⟨W0,D⟩:∃W,((w.alloc (.cells #[.int .i64 p1,.slice o1 C c1,.slice aD I az] 29)).alloc (.cells #[.int .i64 p2,.slice o2 b2 c2,.slice aE q2 aA] 29))=W:=⟨_,rfl⟩;have F:=alb0v0v2 D;have X:=Q00 F;clear F;have zz:=alz0v0v2 D;obtain⟨z0,z1,z2⟩:=alc3v0v2 D;have zu:=alz0v1v2 D;obtain⟨u0,u1,u2⟩:=alc3v1v2 D
 by_cases hk:p1=p2
 ·subst hk
  by_cases hb:C=b2
  ·subst hb
   by_cases hq:I=q2
   ·subst hq
    go_enter Tryz.func127,Tryz.ntmps127;go_wp2
    go_loopw [4,5] (fun rv iv wr=> ∃i:Nat,i<=C/\iv=.int .i64 (i:Int)/\rv=.bool false/\Hid (f.l.take i=g.l.take i)/\Hid (Below W0.heap.size W0 wr))
     (fun _ iv _=>C - (intOf iv).toNat)
    case atStart=>exact⟨0,Kcq _,rfl,rfl,rfl,KBq⟩
    case round=>
     rename World=>wr
     obtain⟨i,aJ,rfl,rfl,HT,t⟩:=hrel;have av:=bC t.out z1 zz;have au:=bC t.out u1 zu;have V:=Kbq zz t.out.size;have U:=Kbq zu t.out.size;have a:=Q00 (X.out.trans (t.out.mono X.out.size))
     by_cases hlt:i < C
     ·have ap:(i:Int) < (C:Int):=by omega
      obtain⟨g1,f1,rfl,A,a0,a1,a2⟩:=RdK.cells3 H1.out i (by rw[L.out];exact hlt);obtain⟨g2,f2,rfl,B,b0,C,b2⟩:=RdK.cells3 H2.out i (by rw[M.out];exact hlt);have G0:=Grown.cell av V;have G1:=Grown.cell au U;have Ga0:=Grown.cell (bC a.out a0 A) (Kbq A a.out.size);have Ga1:=Grown.cell (bC a.out a1 A) (Kbq A a.out.size);have Ga2:=Grown.cell (bC a.out a2 A) (Kbq A a.out.size);have Gb0:=Grown.cell (bC a.out b0 B) (Kbq B a.out.size);have Gb1:=Grown.cell (bC a.out C B) (Kbq B a.out.size)
      have Gb2:=Grown.cell (bC a.out b2 B) (Kbq B a.out.size);have T1:=Q00 (Q3T f.l i (by rw[L.out];exact hlt));have T2:=Q00 (Q3T g.l i (by rw[M.out];exact hlt))
      have aa:Hid (f.l=g.l->f.l.getD i (0,0,false)=g.l.getD i (0,0,false)):=fun h=>by rw[h]
      clear a0 a1 a2 b0 C b2;generalize f.l.getD i (0,0,false)=d at *;generalize g.l.getD i (0,0,false)=e at *
      by_cases hde:d=e
      ·subst hde
       obtain⟨d0,d1,d2⟩:=d;dsimp only at Ga0 Ga1 Ga2 Gb0 Gb1 Gb2;clear aa;go_wp2
       (refine Q0b (by kernel_rfl) (by kernel_rfl) ?_;intro u;(repeat (go_big_quiet_step (fail)));(with_reducible refine wpQuiet_nil ?_);intro _ s;obtain⟨H,r⟩:=s;subst r)
       have j:=Q00 (t.out.trans (H.b.mono t.out.size));go_wp2;go_roundw
       case rel=>exact⟨i+1,by omega,by go_num,rfl,(by unfold Hid;rw[T1.out,T2.out,HT.out]),j.out⟩
       case measure=>simp[intOf];omega
      ·have HX:Hid (Q1B f g=false):=by
        unfold Hid;rw[m.out,decide_eq_false (fun h=>hde (aa.out h))];simp
       obtain⟨d0,d1,d2⟩:=d;obtain⟨e0,e1,e2⟩:=e;dsimp only at Ga0 Ga1 Ga2 Gb0 Gb1 Gb2
       have R:¬(d0=e0/\d1=e1/\d2=e2):=fun h=>hde (by rw[h.1,h.2.1,h.2.2])
       clear hde aa T1 T2 m
       by_cases q0:d0=e0
       ·subst q0
        by_cases I:d1=e1
        ·subst I
         have q2:¬d2=e2:=fun h=>R ⟨rfl,rfl,h⟩
         clear R
         cases d2 <;> cases e2 <;> first|exact absurd rfl q2|skip
         all_goals clear q2
         all_goals go_wp2
         all_goals (refine Q0b (by kernel_rfl) (by kernel_rfl) ?_;intro u;(repeat (go_big_quiet_step (fail)));(with_reducible refine wpQuiet_nil ?_);intro _ s;obtain⟨H,r⟩:=s;subst r)
         all_goals have j:=Q00 (a.out.trans (H.b.mono a.out.size))
         all_goals go_wp2
         all_goals go_ret
         all_goals exact⟨Q03 HX.out.symm,j.out⟩
        ·clear R
         have aN:(d1==e1)=false:=by simpa using I
         go_wp2
         (refine Q0b (by kernel_rfl) (by kernel_rfl) ?_;intro u;(repeat (go_big_quiet_step (fail)));(with_reducible refine wpQuiet_nil ?_);intro _ s;obtain⟨H,r⟩:=s;subst r)
         have j:=Q00 (a.out.trans (H.b.mono a.out.size));go_wp2;go_ret;exact⟨Q03 HX.out.symm,j.out⟩
       ·clear R
        have aM:(d0==e0)=false:=by simpa using q0
        go_wp2
        (refine Q0b (by kernel_rfl) (by kernel_rfl) ?_;intro u;(repeat (go_big_quiet_step (fail)));(with_reducible refine wpQuiet_nil ?_);intro _ s;obtain⟨H,r⟩:=s;subst r)
        have j:=Q00 (a.out.trans (H.b.mono a.out.size));go_wp2;go_ret;exact⟨Q03 HX.out.symm,j.out⟩
     ·have e:i=C:=by omega
      subst e
      have aw:Hid (f.l=g.l):=by
       have h:=HT.out;rw[List.take_of_length_le (by rw[L.out];exact Kaq _),List.take_of_length_le (by rw[M.out];exact Kaq _)]at h;exact h
      have aj:Hid (Q1B f g=Q0V f.ring g.ring):=by
       unfold Hid;rw[m.out,decide_eq_true aw.out];simp
      clear m;go_wp2;clear av au V U
      go_loopw [4,6] (fun rv iv wq=> ∃k:Nat,k<=I/\iv=.int .i64 (k:Int)/\rv=.bool false/\Hid (∀x,x < k->Q0Y (f.ring.getD x []) (g.ring.getD x [])=0)/\Hid (Below W0.heap.size W0 wq))
       (fun _ iv _=>I - (intOf iv).toNat)
      case atStart=>exact⟨0,Kcq _,rfl,rfl,fun q h=>absurd h (KMq _),t.out⟩
      case round=>
       rename World=>wq
       obtain⟨k,aK,rfl,rfl,ak,y⟩:=hrel;have aG:=bC y.out z2 zz;have aF:=bC y.out u2 zu;have V:=Kbq zz y.out.size;have U:=Kbq zu y.out.size;have c:=Q00 (X.out.trans (y.out.mono X.out.size))
       by_cases hlt:k < I
       ·have ap:(k:Int) < (I:Int):=by omega
        have O:k < f.ring.length:=by rw[N.out];exact hlt
        have ab:k < g.ring.length:=by rw[Z.out];exact hlt
        obtain⟨e1,w1,x1,rfl,an,a1,t1⟩:=RiRows.atS ah.out (Kaq _) k O;obtain⟨e2,w2,x2,rfl,ao,a2,t2⟩:=RiRows.atS ai.out (Kaq _) k ab;obtain⟨o3,c3,rfl,aq⟩:=RiT.rd t1;obtain⟨o4,c4,rfl,ar⟩:=RiT.rd t2;have Y:=Q00 (fun p:Grown wq=>Q9h o3 o4 c3 c4 (f.ring.getD k []) (g.ring.getD k []) p.v ((aq.kept (c.out.trans (p.b.mono c.out.size)) (Kaq _)).le (c.out.trans (p.b.mono c.out.size)).size) ((ar.kept (c.out.trans (p.b.mono c.out.size)) (Kaq _)).le (c.out.trans (p.b.mono c.out.size)).size) (F4.out k O) (G4.out k ab) (F5.out k O) (G5.out k ab))
        have G0:=Grown.cell aG V;have G1:=Grown.cell aF U;have G2:=Grown.cell (bC c.out a1 an) (Kbq an c.out.size);have G3:=Grown.cell (bC c.out a2 ao) (Kbq ao c.out.size);have ag:=Q00 (fun h=>Q5D (R1:=f.ring) (R2:=g.ring) O h);clear t1 t2 aq ar a1 a2;obtain⟨r1,ae⟩:∃n,(f.ring.getD k []).length=n:=⟨_,rfl⟩;obtain⟨r2,af⟩:∃n,(g.ring.getD k []).length=n:=⟨_,rfl⟩;obtain⟨mv,P⟩:∃q,Q0Y (f.ring.getD k []) (g.ring.getD k [])=q:=⟨_,rfl⟩;rw[ae,af,P]at Y;rw[ae]at G2;rw[af]at G3;rw[P]at ag;have ax:=Q00 P;clear ae af P
        by_cases h0:mv=0
        ·subst h0
         go_wp2
         (refine Q0b (by kernel_rfl) (by kernel_rfl) ?_;intro u;(repeat (go_big_quiet_step ((go_at_call 178;exact Q0r _ (Y.out _)))));(with_reducible refine wpQuiet_nil ?_);intro _ s;obtain⟨H,r⟩:=s;subst r)
         have j:=Q00 (y.out.trans (H.b.mono y.out.size))
         have ay:Hid (∀x,x < k+1->Q0Y (f.ring.getD x []) (g.ring.getD x [])=0):=fun x hx=>by
          rcases Nat.lt_succ_iff_lt_or_eq.1 hx with h|h
          ·exact ak.out x h
          ·rw[h];exact ax.out
         go_wp2;go_roundw
         case rel=>exact⟨k+1,by omega,by go_num,rfl,ay.out,j.out⟩
         case measure=>simp[intOf];omega
        ·have J:=Q00 (aj.out.trans (ag.out h0))
         have aH:(mv==0)=false:=by simpa using h0
         go_wp2
         (refine Q0b (by kernel_rfl) (by kernel_rfl) ?_;intro u;(repeat (go_big_quiet_step ((go_at_call 178;exact Q0r _ (Y.out _)))));(with_reducible refine wpQuiet_nil ?_);intro _ s;obtain⟨H,r⟩:=s;subst r)
         have j:=Q00 (c.out.trans (H.b.mono c.out.size));go_wp2;go_ret;exact⟨Q03 J.out.symm,j.out⟩
       ·have e:k=I:=by omega
        subst e;have J:Hid (Q1B f g=true):=aj.out.trans (Q4t (by rw[N.out,Z.out]) (fun i hi=>ak.out i (by rw[<-N.out];exact hi)));go_wp2;go_ret;exact⟨Q03 J.out.symm,c.out⟩
   ·have aL:¬((I:Int)=(q2:Int)):=by omega
    have J:Hid (Q1B f g=false):=by
     unfold Hid;rw[m.out];rw[Q4y (by rw[N.out,Z.out];exact hq)];simp
    clear m;go_enter Tryz.func127,Tryz.ntmps127;go_wp2;go_ret;exact⟨Q03 J.out.symm,X.out⟩
  ·have aI:¬((C:Int)=(b2:Int)):=by omega
   have J:Hid (Q1B f g=false):=by
    unfold Hid;rw[m.out];rw[decide_eq_false (show ¬f.l=g.l from fun h=>hb (by rw[<-L.out,<-M.out,h]))];simp
   clear m;go_enter Tryz.func127,Tryz.ntmps127;go_wp2;go_ret;exact⟨Q03 J.out.symm,X.out⟩
 ·skip
  have J:Hid (Q1B f g=false):=by
   unfold Hid;rw[m.out];rw[decide_eq_false hk];rfl
  clear m;go_enter Tryz.func127,Tryz.ntmps127;go_wp2;go_ret;exact⟨Q03 J.out.symm,X.out⟩
structure PBox (w:World) (base B:Nat) (key:Int) (l:List Bk) (hs:List Hd) (o:Option Addr) (c:Nat) (oR:Option Addr) (cR:Nat):Prop where
 box:w.heap[B]? =some (.cells #[.int .i64 key,.slice o l.length c,.slice oR hs.length cR] 29 (0,0))
 backs:Q1F w base (.slice o l.length c) l
 ring:ownL Q0q 206 w base (.slice oR hs.length cR) hs
theorem PBox.kept {w f:World} {base B:Nat} {key:Int} {l:List Bk} {hs:List Hd} {o d:Option Addr} {c b:Nat} (h:PBox w base B key l hs o c d b) (a:Below w.heap.size w f):PBox f base B key l hs o c d b:=
 ⟨(a.block B (KEq h.box)).trans h.box,Q0a h.backs a,Q0a h.ring a⟩
theorem PBox.set {w:World} {base B:Nat} {key:Int} {l:List Bk} {hs:List Hd} {o b:Option Addr} {c n a:Nat} {z:Array Value} (g:w.heap[B]? =some (.cells z 29 (0,0))) (k:z.size=3) (i:Q1F w base (.slice o l.length c) l) (h2:ownL Q0q 206 w base (.slice b n a) hs) (j:n=hs.length):PBox (setP w B (.int .i64 key) (.slice o l.length c) (.slice b n a)) base B key l hs o c b a:=by
 subst j;have d:=Q0p g 0 (.int .i64 key);have f:=Q0p d 1 (.slice o l.length c);have h:=Q0p f 2 (.slice b hs.length a);refine⟨?_,Q0I (Q0I (Q0I i g QdR 0 _) d QdR 1 _) f QdR 2 _,Q0I (Q0I (Q0I h2 g Qht 0 _) d Qht 1 _) f Qht 2 _⟩;rw[h]
 match z,k with
 |⟨[x,y,u]⟩,_=>rfl
theorem QiZ {w:World} {base:Nat} {o:Option Addr} {n c:Nat} {hs:List Hd} (h:ownL Q0q 206 w base (.slice o n c) hs):o=none->c=0:=fun e=>(InRow.cap (InRow.of h)) n c (by rw[e])
theorem Q2e {C:Nat} {w W:World} {B:Nat} (h:Below C w W) (hB:C<=B) (x y z:Value):Below C w (setP W B x y z):=((h.setCell (p:=⟨B,0,none⟩) hB _).setCell (p:=⟨B,1,none⟩) hB _).setCell (p:=⟨B,2,none⟩) hB _
theorem Qj9 {a W:World} {base B:Nat} {key:Int} {m:List Bk} {c:List Hd} {i d:Option Addr} {g h b:Nat} {v w x:Value} (r:W.heap[B]? =some (.cells #[v,w,x] 29 (0,0))) (t:Below a.heap.size a W) (l:a.heap.size<=B) (p:Q1F W base (.slice i m.length g) m) (h2:ownL Q0q 206 W base (.slice d h b) c) (s:h=c.length) (q:c.length<=3):
  ∃B' f u n k j,Value.pointer (some ⟨B,0,none⟩)=.pointer (some ⟨B',0,none⟩)/\Value.bool true=.bool true/\Hid (PBox (setP W B (.int .i64 key) (.slice i m.length g) (.slice d h b)) base B' key m f u n k j)/\Hid (Below a.heap.size a (setP W B (.int .i64 key) (.slice i m.length g) (.slice d h b)))/\a.heap.size<=B'/\Hid (f.length<=3):=
 ⟨B,c,i,g,d,b,rfl,rfl,PBox.set r rfl p h2 s,Q2e t l _ _ _,l,q⟩
theorem QiU {a W:World} {base:Nat} {key:Int} {m:List Bk} {c:List Hd} {i d:Option Addr} {g h b:Nat} (k:Below a.heap.size a W) (p:Q1F W base (.slice i m.length g) m) (h2:ownL Q0q 206 W base (.slice d h b) c) (r:h=c.length) (q:c.length<=3):
  ∃B' f s n l j,Value.pointer (some ⟨W.heap.size,0,none⟩)=.pointer (some ⟨B',0,none⟩)/\Value.bool true=.bool true/\Hid (PBox (W.alloc (.cells #[.int .i64 key,.slice i m.length g,.slice d h b] 29)) base B' key m f s n l j)/\Hid (Below a.heap.size a (W.alloc (.cells #[.int .i64 key,.slice i m.length g,.slice d h b] 29)))/\a.heap.size<=B'/\Hid (f.length<=3):=by
 subst r;exact⟨W.heap.size,c,i,g,d,b,rfl,rfl,⟨World.alloc_heap_new W _,World.ownsRow.alloc p _,World.ownsRow.alloc h2 _⟩,k.alloc k.size _,k.size,q⟩
theorem Q7U (key R:Int) (b g cap:Nat) (cs:List Cd) (w:World) (af:cs.length≠0->b < w.heap.size) (ao:∀i,i < cs.length->∀j,j < Q24.k->w.cell? ⟨b,g+i * Q24.k+j,none⟩=(Q24.cs (cs.getD i Q24.d))[j]?) (hk:Q1S key=true) (hl:cs.length<=100) (h0:0<=R) (h1:R<=(cs.length:Int)) (ob:Option Addr) (aF:cs.length≠0->ob=some ⟨b,g,none⟩):
  Calls Tryz.prog 125 #[jrn key (.slice ob cs.length cap) R] w fun e w'=>e=.returned (.bool (Q1h cs cs.length).isSome)/\Below w.heap.size w w':=by
 have aE:=Qar key;rw[hk]at aE;have HC:=Q00 ao;have a3:=Q00 aF;have a1:=Q00 af;have q1:decide (100 < (cs.length:Int))=false:=decide_eq_false (by omega);have q2:decide (R < 0)=false:=decide_eq_false (by omega);have q3:decide ((cs.length:Int) < R)=false:=decide_eq_false (by omega);have HN:=Q00 hl;clear ao aF af h0 h1;obtain⟨W0,am⟩:∃W,(w.alloc (.cells #[.int .i64 key,.slice ob cs.length cap,.int .i64 R] 25))=W:=⟨_,rfl⟩;have an:=alb0v0v1 am;have HB:=Q00 an;clear an;have zz:=alz0v0v1 am;obtain⟨z0,z1,z2⟩:=alc3v0v1 am;have HL:=Q00 (Q9u key W0 hk);have bi:=zz
 go_enter Tryz.func125,Tryz.ntmps125;go_wp2_with (go_at_call 28;refine(aE _).mono ?_;rintro e w9 ⟨rfl,rfl⟩);refine(HL.out).mono ?_;rintro e A ⟨gR,rfl,ar,n⟩;have aU:=Q00 ar;have bf:=n.size;clear ar;replace z0:=bC n z0 zz;replace z1:=bC n z1 zz;replace z2:=bC n z2 zz;replace zz:=Kbq zz n.size;replace HB:=Q00 (HB.out.trans (n.mono HB.out.size));clear n;have a9:=z1;have ba:=zz;have ad:=HB;obtain⟨W1,Z⟩:∃W,(A.alloc (.cells #[.int .i64 key,.slice none 0 0,.slice (some ⟨gR,0,none⟩) 1 1] 29))=W:=⟨_,rfl⟩;have z:=alb0v0v1 Z;replace z0:=bC z z0 zz
 replace z1:=bC z z1 zz;replace z2:=bC z z2 zz;replace zz:=Kbq zz z.size;replace HB:=Q00 (HB.out.trans (z.mono HB.out.size));clear z;have zp:=alz0v0v1 Z;obtain⟨p0,p1,p2⟩:=alc3v0v1 Z;obtain⟨o3,c3,aG,a0,_,_⟩:=aU.out;have aV:=alb0v0v1 Z;have HP:Hid (PBox W1 w.heap.size A.heap.size key [] [(o3,8,c3)] none 0 (some ⟨gR,0,none⟩) 1):=⟨by rw[<-Z];exact World.alloc_heap_new A _,KLq _ _ _ _,Q06 (Q0a a0 aV) (by omega)⟩;clear a0 aU aV;go_wp2
 go_loopw [4] (fun iv wr=> ∃(t:Nat) (l:List Bk) (hs:List Hd) (o:Option Addr) (c:Nat) (oR:Option Addr) (cR:Nat),t<=cs.length/\iv=.int .i64 (t:Int)/\Hid (PBox wr w.heap.size A.heap.size key l hs o c oR cR)/\Hid (Q1h cs t=some l)/\Hid (hs.length<=3)/\Hid (Below A.heap.size A wr))
  (fun iv _=>cs.length - (intOf iv).toNat)
 case atStart=>exact⟨0,[],_,_,_,_,_,Kcq _,rfl,HP.out,rfl,(Nat.le_of_ble_eq_true rfl),by rw[<-Z];exact KBq.alloc (Kaq _) _⟩
 case round=>
  obtain⟨t,l,hs,o,c,oR,cR,bh,rfl,aT,X,a6,ah⟩:=hrel;have a7:=ah.out.size;have D:Hid (Below w.heap.size w wr):=(ad.out).trans (ah.out.mono ad.out.size);have y1:=bC ah.out a9 ba
  by_cases hlt:t < cs.length
  ·skip
   clear z0 z1 z2 zz p0 p1 p2 zp am Z HP aE HB
   have bb:(t:Int) < (cs.length:Int):=by omega
   have bg:(0:Int)<=(t:Int):=by omega
   have aF:=a3.out (by omega);have af:=a1.out (by omega);subst aF;obtain⟨aW,bd⟩:=Q3U t l (by omega) X.out;obtain⟨c0,c1,c2⟩:=RdL.cmd (C:=w.heap.size) HC.out t hlt;replace c0:=(D.out.cell (p:=⟨b,g+t * 3,none⟩) af).trans c0;replace c1:=(D.out.cell (p:=⟨b,g+t * 3+1,none⟩) af).trans c1;replace c2:=(D.out.cell (p:=⟨b,g+t * 3+2,none⟩) af).trans c2;have T:=Q00 (Q2V hlt);obtain⟨x,y,u,av⟩:∃x y u,cs.getD t (0,0,0)=(x,y,u):=⟨_,_,_,rfl⟩;rw[av]at c0 c1 c2 T;have E:=Q00 (fun h=>Qc4 hlt (av ▸ h):Q7v (Q1h cs t) (x,y,u)=none->(Q1h cs cs.length).isSome=false)
   rw[X.out]at T E;simp only[Q7v,Option.bind_some]at c0 c1 c2 T E;clear av X;have aj:=Q00 (Q5g x y u)
   cases hc:Q1y x y u with
   |false=>
    rw[hc]at E aj;have ai:=Q00 (E.out (by simp));clear E T;have HB:=D;go_wp2_with fail;refine(aj.out _).mono ?_;rintro e a ⟨rfl,n⟩;replace HB:=Q00 (HB.out.trans (n.mono HB.out.size));clear n;go_wp2;go_ret;exact⟨by rw[ai.out];rfl,HB.out⟩
   |true=>
    rw[hc]at E T aj;simp only[if_true]at E T;go_wp2_with fail;refine(aj.out _).mono ?_;rintro e a ⟨rfl,n⟩;have U:=n.size;have v:=Q00 (aT.out.kept n);have aR:=Q00 (ah.out.trans (n.mono a7));have ae:=Q00 (D.out.trans (n.mono D.out.size));replace y1:=bC n y1 (show w.heap.size < wr.heap.size by have:=ad.out.size;omega);replace c0:=bC n c0 (show b < wr.heap.size by have:=D.out.size;omega);replace c1:=bC n c1 (show b < wr.heap.size by have:=D.out.size;omega);replace c2:=bC n c2 (show b < wr.heap.size by have:=D.out.size;omega);clear n aT ah D aj
    have p0:a.cell? ⟨A.heap.size,0,none⟩=some (.int .i64 key):=Q02 v.out.box 0 _ rfl;have p1:a.cell? ⟨A.heap.size,1,none⟩=some (.slice o l.length c):=Q02 v.out.box 1 _ rfl;have p2:a.cell? ⟨A.heap.size,2,none⟩=some (.slice oR hs.length cR):=Q02 v.out.box 2 _ rfl;have q:A.heap.size < a.heap.size:=(KEq v.out.box)
    have ag:w.heap.size < a.heap.size:=by have:=ad.out.size;omega
    have r:b < a.heap.size:=by omega
    have a8:A.heap.size<=a.heap.size:=by omega
    have aI:=Q00 (ownL.rds (L:=Q0L) v.out.backs);have aJ:=Q00 (ownL.rds (L:=Q0q) v.out.ring);have aX:=Q61 v.out.backs;have aY:=QiZ v.out.ring
    cases hdo:doL l x y u with
    |none=>
     rw[hdo]at E;have ai:=Q00 (E.out rfl);have HY:=Q00 (fun W (n:Below a.heap.size a W)=>Qhx key o c l oR hs.length cR x y u W aW hdo (by have:=HN.out;omega) ((aI.out.kept n (Kaq _)).le n.size));clear E T hdo aJ aX aY;go_upto_region 9 with fail
     go_cut [5,6]from 47 to 56 (fun s5 s6 wx=>s6=.bool false/\Hid (Below a.heap.size a wx))
     case first=>
      go_region_held3 (fun w'=>w'.cell? ⟨A.heap.size,0,none⟩=some (.int .i64 key)/\w'.cell? ⟨A.heap.size,1,none⟩=some (.slice o l.length c)/\w'.cell? ⟨A.heap.size,2,none⟩=some (.slice oR hs.length cR)/\w'.cell? ⟨w.heap.size,1,none⟩=some (.slice (some ⟨b,g,none⟩) cs.length cap)/\w'.cell? ⟨b,g+t * 3,none⟩=some (.int .i64 x)/\w'.cell? ⟨b,g+t * 3+1,none⟩=some (.int .i64 y)/\w'.cell? ⟨b,g+t * 3+2,none⟩=some (.int .i64 u)) (first|with_reducible exact⟨G,H,I,J,M,N,O⟩|with_reducible exact⟨p0,p1,p2,y1,c0,c1,c2⟩|with_reducible exact⟨aw,ax,ay,az,aA,aB,aC⟩|go_keep) (first|(go_at_call 177;have F:=HY.out a.drew (KHq KBq);with_reducible refine F.mono ?_;clear F;rintro e P ⟨rfl,n⟩;have f:Below a.heap.size a P:=Below.trans (show Below a.heap.size a a.drew from(KHq KBq)) (n.mono (by simp));have aQ:=f.size;have G:=bC f p0 q;have H:=bC f p1 q;have I:=bC f p2 q;have J:=bC f y1 ag;have M:=bC f c0 r;have N:=bC f c1 r;have O:=bC f c2 r;clear n)|(go_at_call 177;have F:=HY.out (a.alloc (.cells #[.int .i64 0,.slice none 0 0,.slice none 0 0] 29)).drew (KHq (KBq.alloc (Kaq _) _));with_reducible refine F.mono ?_;clear F;rintro e P ⟨rfl,n⟩;have f:Below a.heap.size a P:=Below.trans (show Below a.heap.size a (a.alloc (.cells #[.int .i64 0,.slice none 0 0,.slice none 0 0] 29)).drew from(KHq (KBq.alloc (Kaq _) _))) (n.mono (by simp));have aQ:=f.size;have G:=bC f p0 q;have H:=bC f p1 q;have I:=bC f p2 q;have J:=bC f y1 ag;have M:=bC f c0 r;have N:=bC f c1 r;have O:=bC f c2 r;have s:=Q3J n;have aZ:=(KEq s);have aK:=Q02 s 0 _ rfl;have aN:=Q04 s 0;have aL:=Q02 s 1 _ rfl;have aO:=Q04 s 1;have aM:=Q02 s 2 _ rfl;have aP:=Q04 s 2;have aw:(((P.setCell ⟨a.heap.size,0,none⟩ (.int .i64 key)).setCell ⟨a.heap.size,1,none⟩ (.slice o l.length c)).setCell ⟨a.heap.size,2,none⟩ (.slice oR hs.length cR)).cell? ⟨A.heap.size,0,none⟩=some (.int .i64 key):=Q0h G q;have ax:(((P.setCell ⟨a.heap.size,0,none⟩ (.int .i64 key)).setCell ⟨a.heap.size,1,none⟩ (.slice o l.length c)).setCell ⟨a.heap.size,2,none⟩ (.slice oR hs.length cR)).cell? ⟨A.heap.size,1,none⟩=some (.slice o l.length c):=Q0h H q;have ay:(((P.setCell ⟨a.heap.size,0,none⟩ (.int .i64 key)).setCell ⟨a.heap.size,1,none⟩ (.slice o l.length c)).setCell ⟨a.heap.size,2,none⟩ (.slice oR hs.length cR)).cell? ⟨A.heap.size,2,none⟩=some (.slice oR hs.length cR):=Q0h I q;have az:(((P.setCell ⟨a.heap.size,0,none⟩ (.int .i64 key)).setCell ⟨a.heap.size,1,none⟩ (.slice o l.length c)).setCell ⟨a.heap.size,2,none⟩ (.slice oR hs.length cR)).cell? ⟨w.heap.size,1,none⟩=some (.slice (some ⟨b,g,none⟩) cs.length cap):=Q0h J ag;have aA:(((P.setCell ⟨a.heap.size,0,none⟩ (.int .i64 key)).setCell ⟨a.heap.size,1,none⟩ (.slice o l.length c)).setCell ⟨a.heap.size,2,none⟩ (.slice oR hs.length cR)).cell? ⟨b,g+t * 3,none⟩=some (.int .i64 x):=Q0h M r;have aB:(((P.setCell ⟨a.heap.size,0,none⟩ (.int .i64 key)).setCell ⟨a.heap.size,1,none⟩ (.slice o l.length c)).setCell ⟨a.heap.size,2,none⟩ (.slice oR hs.length cR)).cell? ⟨b,g+t * 3+1,none⟩=some (.int .i64 y):=Q0h N r;have aC:(((P.setCell ⟨a.heap.size,0,none⟩ (.int .i64 key)).setCell ⟨a.heap.size,1,none⟩ (.slice o l.length c)).setCell ⟨a.heap.size,2,none⟩ (.slice oR hs.length cR)).cell? ⟨b,g+t * 3+2,none⟩=some (.int .i64 u):=Q0h O r;clear n))
      all_goals (go_wp2_with fail;go_meet)
      all_goals first
       |with_reducible exact⟨rfl,Q00 (Q2e f (Kaq _) _ _ _)⟩
       |with_reducible exact⟨rfl,Q00 (f.alloc f.size _)⟩
     case rest=>
     obtain⟨rfl,al⟩:=hcut;have aS:=Q00 (ae.out.trans (al.out.mono ae.out.size));go_wp2;go_ret;exact⟨by rw[ai.out];rfl,aS.out⟩
    |some m=>
     rw[hdo]at T;have aG:=a6.out;have HY:=Q00 (fun W (n:Below a.heap.size a W)=>Qcb key o c l oR cR hs x y u m W hk aW hc hdo (by have:=HN.out;omega) ((aI.out.kept n (Kaq _)).le n.size) ((aJ.out.kept n (Kaq _)).le n.size) aY aG);clear E hdo hc aI aJ aX;go_upto_region 9 with fail
     go_cut [5,6]from 47 to 56 (fun s5 s6 wx=> ∃B au o' c' aH aD,s5=.pointer (some ⟨B,0,none⟩)/\s6=.bool true/\Hid (PBox wx w.heap.size B key m au o' c' aH aD)/\Hid (Below a.heap.size a wx)/\a.heap.size<=B/\Hid (au.length<=3))
     case first=>
      go_region_held3 (fun w'=>w'.cell? ⟨A.heap.size,0,none⟩=some (.int .i64 key)/\w'.cell? ⟨A.heap.size,1,none⟩=some (.slice o l.length c)/\w'.cell? ⟨A.heap.size,2,none⟩=some (.slice oR hs.length cR)/\w'.cell? ⟨w.heap.size,1,none⟩=some (.slice (some ⟨b,g,none⟩) cs.length cap)/\w'.cell? ⟨b,g+t * 3,none⟩=some (.int .i64 x)/\w'.cell? ⟨b,g+t * 3+1,none⟩=some (.int .i64 y)/\w'.cell? ⟨b,g+t * 3+2,none⟩=some (.int .i64 u)) (first|with_reducible exact⟨G,H,I,J,M,N,O⟩|with_reducible exact⟨p0,p1,p2,y1,c0,c1,c2⟩|with_reducible exact⟨aw,ax,ay,az,aA,aB,aC⟩|go_keep) (first|(go_at_call 177;have F:=HY.out a.drew (KHq KBq);with_reducible refine F.mono ?_;clear F;rintro e P ⟨o2,d2,ab,n2,Y,o3,d3,aG,rfl,aq,ac,V,_,_,n⟩;have f:Below a.heap.size a P:=Below.trans (show Below a.heap.size a a.drew from(KHq KBq)) (n.mono (by simp));have aQ:=f.size;have ac:=Q06 ac (show w.heap.size<=_ by(try simp) <;> omega);have V:=Q06 V (show w.heap.size<=_ by(try simp) <;> omega);have ap:=List.length_take_le 3 ((o3,8,d3)::hs);generalize List.take 3 ((o3,8,d3)::hs)=U at aq V ap;subst aq;have G:=bC f p0 q;have H:=bC f p1 q;have I:=bC f p2 q;have J:=bC f y1 ag;have M:=bC f c0 r;have N:=bC f c1 r;have O:=bC f c2 r;clear n)|(go_at_call 177;have F:=HY.out (a.alloc (.cells #[.int .i64 0,.slice none 0 0,.slice none 0 0] 29)).drew (KHq (KBq.alloc (Kaq _) _));with_reducible refine F.mono ?_;clear F;rintro e P ⟨o2,d2,ab,n2,Y,o3,d3,aG,rfl,aq,ac,V,_,_,n⟩;have f:Below a.heap.size a P:=Below.trans (show Below a.heap.size a (a.alloc (.cells #[.int .i64 0,.slice none 0 0,.slice none 0 0] 29)).drew from(KHq (KBq.alloc (Kaq _) _))) (n.mono (by simp));have aQ:=f.size;have ac:=Q06 ac (show w.heap.size<=_ by(try simp) <;> omega);have V:=Q06 V (show w.heap.size<=_ by(try simp) <;> omega);have ap:=List.length_take_le 3 ((o3,8,d3)::hs);generalize List.take 3 ((o3,8,d3)::hs)=U at aq V ap;subst aq;have G:=bC f p0 q;have H:=bC f p1 q;have I:=bC f p2 q;have J:=bC f y1 ag;have M:=bC f c0 r;have N:=bC f c1 r;have O:=bC f c2 r;have s:=Q3J n;have aZ:=(KEq s);have aK:=Q02 s 0 _ rfl;have aN:=Q04 s 0;have aL:=Q02 s 1 _ rfl;have aO:=Q04 s 1;have aM:=Q02 s 2 _ rfl;have aP:=Q04 s 2;have aw:(((P.setCell ⟨a.heap.size,0,none⟩ (.int .i64 key)).setCell ⟨a.heap.size,1,none⟩ (.slice o2 m.length d2)).setCell ⟨a.heap.size,2,none⟩ (.slice ab U.length Y)).cell? ⟨A.heap.size,0,none⟩=some (.int .i64 key):=Q0h G q;have ax:(((P.setCell ⟨a.heap.size,0,none⟩ (.int .i64 key)).setCell ⟨a.heap.size,1,none⟩ (.slice o2 m.length d2)).setCell ⟨a.heap.size,2,none⟩ (.slice ab U.length Y)).cell? ⟨A.heap.size,1,none⟩=some (.slice o l.length c):=Q0h H q;have ay:(((P.setCell ⟨a.heap.size,0,none⟩ (.int .i64 key)).setCell ⟨a.heap.size,1,none⟩ (.slice o2 m.length d2)).setCell ⟨a.heap.size,2,none⟩ (.slice ab U.length Y)).cell? ⟨A.heap.size,2,none⟩=some (.slice oR hs.length cR):=Q0h I q;have az:(((P.setCell ⟨a.heap.size,0,none⟩ (.int .i64 key)).setCell ⟨a.heap.size,1,none⟩ (.slice o2 m.length d2)).setCell ⟨a.heap.size,2,none⟩ (.slice ab U.length Y)).cell? ⟨w.heap.size,1,none⟩=some (.slice (some ⟨b,g,none⟩) cs.length cap):=Q0h J ag;have aA:(((P.setCell ⟨a.heap.size,0,none⟩ (.int .i64 key)).setCell ⟨a.heap.size,1,none⟩ (.slice o2 m.length d2)).setCell ⟨a.heap.size,2,none⟩ (.slice ab U.length Y)).cell? ⟨b,g+t * 3,none⟩=some (.int .i64 x):=Q0h M r;have aB:(((P.setCell ⟨a.heap.size,0,none⟩ (.int .i64 key)).setCell ⟨a.heap.size,1,none⟩ (.slice o2 m.length d2)).setCell ⟨a.heap.size,2,none⟩ (.slice ab U.length Y)).cell? ⟨b,g+t * 3+1,none⟩=some (.int .i64 y):=Q0h N r;have aC:(((P.setCell ⟨a.heap.size,0,none⟩ (.int .i64 key)).setCell ⟨a.heap.size,1,none⟩ (.slice o2 m.length d2)).setCell ⟨a.heap.size,2,none⟩ (.slice ab U.length Y)).cell? ⟨b,g+t * 3+2,none⟩=some (.int .i64 u):=Q0h O r;clear n))
      all_goals (go_wp2_with fail;go_meet)
      all_goals first
       |with_reducible exact Qj9 s f (Kaq _) ac V rfl ap
       |with_reducible exact QiU f ac V rfl ap
     case rest=>
     obtain⟨B,au,o',c',aH,aD,rfl,rfl,ak,al,bc,HS3'⟩:=hcut;have aS:=Q00 (ae.out.trans (al.out.mono ae.out.size));have aa:=(al.out.block A.heap.size q).trans v.out.box;have P:=Q02 ak.out.box 0 _ rfl;have x1:=Q02 ak.out.box 1 _ rfl;have x2:=Q02 ak.out.box 2 _ rfl;have d0:=Q02 aa 0 _ rfl;have d1:=Q02 aa 1 _ rfl;have d2:=Q02 aa 2 _ rfl;have f0:=Q04 aa 0;have f1:=Q04 aa 1;have f2:=Q04 aa 2;have a4:=Q00 (PBox.set (key:=key) aa rfl ak.out.backs ak.out.ring rfl)
     have a2:=Q00 (Q2e (aR.out.trans (al.out.mono a8)) (Kaq _) (.int .i64 key) (.slice o' m.length c') (.slice aH au.length aD));clear p0 p1 p2 y1 c0 c1 c2 aa;go_wp2;go_roundw
     case rel=>exact⟨t+1,m,au,o',c',aH,aD,by omega,by go_num,a4.out,T.out,HS3'.out,a2.out⟩
     case measure=>simp[intOf];omega
  ·have e:t=cs.length:=by omega
   subst e;have a5:=Q00 (show(Q1h cs cs.length).isSome=true by rw[X.out];rfl);clear z0 z1 z2 zz p0 p1 p2 zp am Z HP aE HB X
   have be:¬((cs.length:Int) < (cs.length:Int)):=by omega
   go_wp2;go_ret;exact⟨by rw[a5.out];rfl,D.out⟩
theorem Q5h (key a:Int) (o:Option Addr) (cap:Nat) (cs:List Cd) (w:World) (n:RdC w.heap.size w o cs) (y:cs.length<=1048576):
  Calls Tryz.prog 125 #[jrn key (.slice o cs.length cap) a] w fun e v=>e=.returned (.bool (Q0n key cs a))/\Below w.heap.size w v:=by
 by_cases hall:Q1S key=true/\cs.length<=100/\0<=a/\a<=(cs.length:Int)
 ·obtain⟨p,h2,j,k⟩:=hall
  have e:Q0n key cs a=(Q1h cs cs.length).isSome:=by unfold Q0n;simp[p,h2,j,k]
  rw[e]
  rcases n with n|⟨b,r,rfl,q,g⟩
  ·subst n
   exact Q7U key a 0 0 cap [] w (fun h=>absurd rfl h) (fun i hi=>absurd hi (KMq _)) p h2 j k o (fun h=>absurd rfl h)
  ·exact Q7U key a b r cap cs w (fun _=>q) g p h2 j k _ (fun _=>rfl)
 have m:=Q00 (show Q0n key cs a=false by
  rw[Bool.eq_false_iff];intro h;unfold Q0n at h;simp only[Bool.and_eq_true,decide_eq_true_eq]at h;exact hall ⟨h.1.1.1.1,h.1.1.1.2,h.1.1.2,h.1.2⟩)
 have c:=Qar key;obtain⟨x,f⟩:∃W,(w.alloc (.cells #[.int .i64 key,.slice o cs.length cap,.int .i64 a] 25))=W:=⟨_,rfl⟩;have d:=alb0v0v1 f;have l:=Q00 d;clear d;have D:=alz0v0v1 f;obtain⟨A,B,C⟩:=alc3v0v1 f;clear n
 cases hk:Q1S key with
 |false=>
  rw[hk]at c;clear hall;go_enter Tryz.func125,Tryz.ntmps125;go_wp2_with (go_at_call 28;refine(c _).mono ?_;rintro e s ⟨rfl,rfl⟩);go_ret;exact⟨by rw[m.out];rfl,l.out⟩
 |true=>
  by_cases h2:cs.length<=100
  ·by_cases j:0<=a
   ·by_cases k:a<=(cs.length:Int)
    ·exact absurd ⟨hk,h2,j,k⟩ hall
    ·skip
     rw[hk]at c;have t:decide (100 < (cs.length:Int))=false:=decide_eq_false (by omega);have u:decide (a < 0)=false:=decide_eq_false (by omega);have z:decide ((cs.length:Int) < a)=true:=decide_eq_true (by omega);clear hall;go_enter Tryz.func125,Tryz.ntmps125;go_wp2_with (go_at_call 28;refine(c _).mono ?_;rintro e s ⟨rfl,rfl⟩);go_ret;exact⟨by rw[m.out];rfl,l.out⟩
   ·skip
    rw[hk]at c;have t:decide (100 < (cs.length:Int))=false:=decide_eq_false (by omega);have u:decide (a < 0)=true:=decide_eq_true (by omega);clear hall;go_enter Tryz.func125,Tryz.ntmps125;go_wp2_with (go_at_call 28;refine(c _).mono ?_;rintro e s ⟨rfl,rfl⟩);go_ret;exact⟨by rw[m.out];rfl,l.out⟩
  ·skip
   rw[hk]at c;have t:decide (100 < (cs.length:Int))=true:=decide_eq_true (by omega);clear hall;go_enter Tryz.func125,Tryz.ntmps125;go_wp2_with (go_at_call 28;refine(c _).mono ?_;rintro e s ⟨rfl,rfl⟩);go_ret;exact⟨by rw[m.out];rfl,l.out⟩
def PTabs (w:World) (base:Nat) (key:Int) (hs:List Hd) (R:List (List Bk)):Prop:=hs.length=R.length/\∀i,i < R.length->∃o3 c3 hs8,hs.getD i (none,0,0)=(o3,8,c3)/\ownL Q0q 22 w base (.slice o3 8 c3) hs8/\Tab (fun b=>Q0U key b (R.getD i [])) 8 w base hs8
theorem PTabs.kept {w c:World} {base:Nat} {key:Int} {hs:List Hd} {R:List (List Bk)} (h:PTabs w base key hs R) (b:Below w.heap.size w c):PTabs c base key hs R:=
 ⟨h.1,fun i hi=>by obtain⟨g,d,a,e,f,h2⟩:=h.2 i hi;exact⟨g,d,a,e,Q0a f b,h2.kept b⟩⟩
theorem PTabs.putB {w:World} {base:Nat} {key:Int} {hs:List Hd} {R:List (List Bk)} {B:Nat} {c:Array Value} (h:PTabs w base key hs R) (b:w.heap[B]? =some (.cells c 29 (0,0))) (j:Nat) (u:Value):PTabs (w.setCell ⟨B,j,none⟩ u) base key hs R:=
 ⟨h.1,fun i hi=>by obtain⟨k,d,a,e,f,h2⟩:=h.2 i hi;exact⟨k,d,a,e,Q0I f b Qj8 j u,h2.grown (Q18 w B j u) (fun q g=>Q5c (h2.row q g) b Qj5)⟩⟩
theorem PTabs.setP {w:World} {base:Nat} {key:Int} {hs:List Hd} {R:List (List Bk)} {B:Nat} {c:Array Value} (h:PTabs w base key hs R) (a:w.heap[B]? =some (.cells c 29 (0,0))) (x y z:Value):PTabs (Go.Proofs.YteffhdcankkfkaaGreat.setP w B x y z) base key hs R:=
 ((h.putB a 0 x).putB (Q0p a 0 x) 1 y).putB (Q0p (Q0p a 0 x) 1 y) 2 z
theorem PTabs.low {w:World} {base:Nat} {key:Int} {hs:List Hd} {R:List (List Bk)} {B:Nat} (h:PTabs w base key hs R) (f:B < base) (j:Nat) (u:Value):PTabs (w.setCell ⟨B,j,none⟩ u) base key hs R:=
 ⟨h.1,fun i hi=>by
  obtain⟨k,c,a,e,d,h2⟩:=h.2 i hi;refine⟨k,c,a,e,Q0i d f j u,h2.grown (Q18 w B j u) (fun q g=>?_)⟩
  cases hob:(hv a q).ownBlock with
  |none=>exact .inl rfl
  |some b=>exact .inr (fun e=>by have:=((h2.row q g).lt b hob).1;injection e with e;omega)⟩
theorem PTabs.mono {w:World} {base b:Nat} {key:Int} {hs:List Hd} {R:List (List Bk)} (h:PTabs w base key hs R) (c:b<=base):PTabs w b key hs R:=
 ⟨h.1,fun i hi=>by obtain⟨g,d,a,e,f,h2⟩:=h.2 i hi;exact⟨g,d,a,e,Q06 f c,Tab.mono h2 c⟩⟩
theorem PTabs.cons {w:World} {base:Nat} {key:Int} {hs a:List Hd} {R:List (List Bk)} {m:List Bk} {d:Option Addr} {c:Nat} (h:PTabs w base key hs R) (f:ownL Q0q 22 w base (.slice d 8 c) a) (h2:Tab (fun b=>Q0U key b m) 8 w base a):PTabs w base key ((d,8,c)::hs) (m::R):=
 ⟨by simp[h.1],fun i hi=>by
  cases i with
  |zero=>exact⟨d,c,a,rfl,f,h2⟩
  |succ i=>simpa using h.2 i (by simpa using hi)⟩
theorem PTabs.take {w:World} {base:Nat} {key:Int} {hs:List Hd} {R:List (List Bk)} (n:Nat) (h:PTabs w base key hs R):PTabs w base key (hs.take n) (R.take n):=
 ⟨by simp[h.1],fun i hi=>by
  have a:i < n:=by simp at hi;omega
  have h2:i < R.length:=by simp at hi;omega
  have b:(hs.take n).getD i (none,0,0)=hs.getD i (none,0,0):=by simp[KFq,List.getElem?_take,a]
  have c:(R.take n).getD i []=R.getD i []:=by simp[KFq,List.getElem?_take,a]
  rw[b,c];exact h.2 i h2⟩
theorem Qdw {w x:World} {base d:Nat} {key:Int} {hs c:List Hd} {R:List (List Bk)} {m:List Bk} {g:Option Addr} {f:Nat} (h:PTabs w base key hs R) (j:Below w.heap.size w x) (i:ownL Q0q 22 x d (.slice g 8 f) c) (h2:Tab (fun b=>Q0U key b m) 8 x d c) (a:base<=d):PTabs x base key (((g,8,f)::hs).take 3) ((m::R).take 3):=
 ((h.kept j).cons (Q06 i a) (Tab.mono h2 a)).take 3
def Q1E (cs:List Cd):Nat->List (List Bk)
 |0=> [[]]
 |t+1=>(Q0j cs (t+1)::Q1E cs t).take 3
theorem Q58 {cs:List Cd} {t:Nat} (h:(Q1h cs cs.length).isSome=true) (ht:t<=cs.length):∃l,Q1h cs t=some l:=by
 cases hr:Q1h cs t with
 |some l=>exact⟨l,rfl⟩
 |none=>rw[Q7Q hr ht]at h;cases h
theorem Qdi {cs:List Cd} {t:Nat} {l:List Bk} (h:(Q1h cs cs.length).isSome=true) (d:t < cs.length) (c:Q1h cs t=some l):∃m,Q1y (cs.getD t (0,0,0)).1 (cs.getD t (0,0,0)).2.1 (cs.getD t (0,0,0)).2.2=true/\doL l (cs.getD t (0,0,0)).1 (cs.getD t (0,0,0)).2.1 (cs.getD t (0,0,0)).2.2=some m/\Q1h cs (t+1)=some m:=by
 obtain⟨m,a⟩:=Q58 h (show t+1<=cs.length by omega);have hs:=Q2V d;rw[a,c]at hs;simp only[Q7v,Option.bind_some]at hs
 split at hs
 ·next b=>exact⟨m,b,hs.symm,a⟩
 ·cases hs
theorem Q71 (key:Int) (b A cap:Nat) (cs:List Cd) (w:World) (H:cs.length≠0->b < w.heap.size) (T:∀i,i < cs.length->∀j,j < Q24.k->w.cell? ⟨b,A+i * Q24.k+j,none⟩=(Q24.cs (cs.getD i Q24.d))[j]?) (hk:Q1S key=true) (hl:cs.length<=100) (ad:(Q1h cs cs.length).isSome=true) (ob:Option Addr) (aa:cs.length≠0->ob=some ⟨b,A,none⟩):
  Calls Tryz.prog 128 #[.int .i64 key,.slice ob cs.length cap] w fun e w'=> ∃o c V N hs,e=.returned (plv key (.slice o (Q0j cs cs.length).length c) (.slice V hs.length N))/\Q1F w' w.heap.size (.slice o (Q0j cs cs.length).length c) (Q0j cs cs.length)/\ownL Q0q 206 w' w.heap.size (.slice V hs.length N) hs/\PTabs w' w.heap.size key hs (Q1E cs cs.length)/\hs.length<=3/\Below w.heap.size w w':=by
 have HC:=Q00 T;have aK:=Q00 aa;have aG:=Q00 H;have HN:=Q00 hl;have ar:=Q00 ad;clear T aa H ad;obtain⟨Y,O⟩:∃W,(w.alloc (.cells #[.int .i64 0,.slice none 0 0,.slice none 0 0] 29))=W:=⟨_,rfl⟩;have P:=alb0v0v1 O;have HB:=Q00 P;clear P;have r:=alz0v0v1 O;obtain⟨r0,r1,r2⟩:=alc3v0v1 O;obtain⟨E,F,G⟩:=alf3v0v1 O;have q:=r;have HL:=Q00 (Q9u key Y hk);go_enter Tryz.func128,Tryz.ntmps128;go_wp2_with fail;refine(HL.out).mono ?_;rintro e g ⟨gR,rfl,U,s⟩;have ap:=Q00 U;have a5:=s.size;clear U;replace r0:=bC s r0 r
 replace r1:=bC s r1 r;replace r2:=bC s r2 r;replace E:=bF s E r;replace F:=bF s F r;replace G:=bF s G r;replace r:=Kbq r s.size;replace HB:=Q00 (HB.out.trans (s.mono HB.out.size));clear s;have aU:=r0;have aV:=r1;have aW:=r2;have aO:=E;have aP:=F;have aQ:=G;have J:=r;have af:=HB;obtain⟨W1,B⟩:∃W,(g.alloc (.cells #[.int .i64 key,.slice none 0 0,.slice (some ⟨gR,0,none⟩) 1 1] 29))=W:=⟨_,rfl⟩;have a:=alb0v0v1 B;replace r0:=bC a r0 r;replace r1:=bC a r1 r;replace r2:=bC a r2 r;replace E:=bF a E r
 replace F:=bF a F r;replace G:=bF a G r;replace r:=Kbq r a.size;replace HB:=Q00 (HB.out.trans (a.mono HB.out.size));clear a;have zp:=alz0v0v1 B;obtain⟨p0,p1,p2⟩:=alc3v0v1 B;obtain⟨o3,c3,az,aC,aD,aE⟩:=ap.out;have ah:=alb0v0v1 B;have HP:Hid (PBox W1 Y.heap.size g.heap.size key [] [(o3,8,c3)] none 0 (some ⟨gR,0,none⟩) 1):=⟨by rw[<-B];exact World.alloc_heap_new g _,KLq _ _ _ _,Q0a aC ah⟩
 have am:Hid (PTabs W1 Y.heap.size key [(o3,8,c3)] (Q1E cs 0)):=(PTabs.cons (R:=[]) (hs:=[]) ⟨rfl,fun i hi=>absurd hi (KMq _)⟩ aD aE).kept ah;clear aC aD aE ap ah;go_wp2
 go_loopw [6] (fun iv wr=> ∃(t:Nat) (l:List Bk) (hs:List Hd) (o:Option Addr) (c:Nat) (V:Option Addr) (N:Nat),t<=cs.length/\iv=.int .i64 (t:Int)/\Hid (PBox wr Y.heap.size g.heap.size key l hs o c V N)/\Hid (PTabs wr Y.heap.size key hs (Q1E cs t))/\Hid (Q1h cs t=some l)/\Hid (hs.length<=3)/\Hid (Below g.heap.size g wr))
  (fun iv _=>cs.length - (intOf iv).toNat)
 case atStart=>exact⟨0,[],_,_,_,_,_,Kcq _,rfl,HP.out,am.out,rfl,(Nat.le_of_ble_eq_true rfl),by rw[<-B];exact KBq.alloc (Kaq _) _⟩
 case round=>
  obtain⟨t,l,hs,o,c,V,N,a7,rfl,f,ac,ag,au,h⟩:=hrel;have aT:=h.out.size;clear r0 r1 r2 E F G r p0 p1 p2 zp O B HP am HB;have M:Hid (Below w.heap.size w wr):=af.out.trans (h.out.mono af.out.size);have aS:g.heap.size < wr.heap.size:=(KEq f.out.box)
  by_cases hlt:t < cs.length
  ·skip
   have aY:(t:Int) < (cs.length:Int):=by omega
   have a6:(0:Int)<=(t:Int):=by omega
   have aa:=aK.out (by omega);have H:=aG.out (by omega);subst aa;obtain⟨aR,a3⟩:=Q3U t l (by omega) ag.out;obtain⟨m,hc,Z,al⟩:=Qdi ar.out hlt ag.out;obtain⟨c0,c1,c2⟩:=RdL.cmd (C:=w.heap.size) HC.out t hlt;replace c0:=(M.out.cell (p:=⟨b,A+t * 3,none⟩) H).trans c0;replace c1:=(M.out.cell (p:=⟨b,A+t * 3+1,none⟩) H).trans c1;replace c2:=(M.out.cell (p:=⟨b,A+t * 3+2,none⟩) H).trans c2;obtain⟨x,y,u,ae⟩:∃x y u,cs.getD t (0,0,0)=(x,y,u):=⟨_,_,_,rfl⟩;rw[ae]at c0 c1 c2 hc Z;dsimp only at c0 c1 c2 hc Z;clear ae;have aJ:=Q00 al
   have aN:=Q00 (show Q1E cs (t+1)=(m::Q1E cs t).take 3 by rw[Q1E];unfold Q0j;rw[al];rfl);clear al;have az:=au.out
   have aj:b < wr.heap.size:=by have:=M.out.size;omega
   have ai:b < g.heap.size:=by have:=af.out.size;omega
   have ao:=Q00 (ownL.rds (L:=Q0L) f.out.backs);have aq:=Q00 (ownL.rds (L:=Q0q) f.out.ring);have ax:=QiZ f.out.ring;have HY:=Q00 (fun W (s:Below wr.heap.size wr W)=>Qcb key o c l V N hs x y u m W hk aR hc Z (by have:=HN.out;omega) ((ao.out.kept s (Kaq _)).le s.size) ((aq.out.kept s (Kaq _)).le s.size) ax az);clear hc Z ax ao aq;have p0:wr.cell? ⟨g.heap.size,0,none⟩=some (.int .i64 key):=Q02 f.out.box 0 _ rfl;have p1:wr.cell? ⟨g.heap.size,1,none⟩=some (.slice o l.length c):=Q02 f.out.box 1 _ rfl
   have p2:wr.cell? ⟨g.heap.size,2,none⟩=some (.slice V hs.length N):=Q02 f.out.box 2 _ rfl
   have aX:Y.heap.size<=wr.heap.size:=by omega
   go_wp2
   go_region_with (first|(go_at_call 177;have aw:=HY.out wr.drew (KHq KBq);with_reducible refine aw.mono ?_;clear aw;rintro e x0 ⟨o2,d2,I,n2,D,o3,d3,aZ,rfl,ay,ab,X,aB,aF,s⟩;have z:Below wr.heap.size wr x0:=Below.trans (show Below wr.heap.size wr wr.drew from KHq KBq) (s.mono (by simp));have be:=z.size;have ab:=Q06 ab (show Y.heap.size<=_ by(try simp) <;> omega);have X:=Q06 X (show Y.heap.size<=_ by(try simp) <;> omega);have pt:=Qdw ac.out z aB aF (show Y.heap.size<=_ by(try simp) <;> omega);rw[<-aN.out]at pt;have ak:=List.length_take_le 3 ((o3,8,d3)::hs);generalize List.take 3 ((o3,8,d3)::hs)=hs2 at ay X ak pt;subst ay;have k0:=bC z c0 aj;have k1:=bC z c1 aj;have k2:=bC z c2 aj;have n:=(z.block g.heap.size aS).trans f.out.box;have a8:x0.cell? ⟨g.heap.size,0,none⟩=some (.int .i64 key):=Q02 n 0 _ rfl;have bb:=Q04 n 0;have a9:x0.cell? ⟨g.heap.size,1,none⟩=some (.slice o l.length c):=Q02 n 1 _ rfl;have bc:=Q04 n 1;have ba:x0.cell? ⟨g.heap.size,2,none⟩=some (.slice V hs.length N):=Q02 n 2 _ rfl;have bd:=Q04 n 2;have s0:(((x0.setCell ⟨g.heap.size,0,none⟩ (.int .i64 key)).setCell ⟨g.heap.size,1,none⟩ (.slice o2 m.length d2)).setCell ⟨g.heap.size,2,none⟩ (.slice I hs2.length D)).cell? ⟨b,A+t * 3,none⟩=some (.int .i64 x):=Q0h k0 ai;have s1:(((x0.setCell ⟨g.heap.size,0,none⟩ (.int .i64 key)).setCell ⟨g.heap.size,1,none⟩ (.slice o2 m.length d2)).setCell ⟨g.heap.size,2,none⟩ (.slice I hs2.length D)).cell? ⟨b,A+t * 3+1,none⟩=some (.int .i64 y):=Q0h k1 ai;have s2:(((x0.setCell ⟨g.heap.size,0,none⟩ (.int .i64 key)).setCell ⟨g.heap.size,1,none⟩ (.slice o2 m.length d2)).setCell ⟨g.heap.size,2,none⟩ (.slice I hs2.length D)).cell? ⟨b,A+t * 3+2,none⟩=some (.int .i64 u):=Q0h k2 ai;have aM:=Q00 (PBox.set (key:=key) n rfl ab X rfl);have an:=Q00 (PTabs.setP pt n (.int .i64 key) (.slice o2 m.length d2) (.slice I hs2.length D));have aI:=Q00 ak;have aL:=Q00 z;clear s ab X aB aF pt ak z n))
   all_goals (have aH:=Q00 (Q2e (h.out.trans (aL.out.mono aT)) (Kaq _) (.int .i64 key) (.slice o2 m.length d2) (.slice I hs2.length D));go_wp2;go_roundw;(case rel=>exact⟨t+1,m,hs2,o2,d2,I,D,by omega,by go_num,aM.out,an.out,aJ.out,aI.out,aH.out⟩);(case measure=>(simp[intOf];omega)))
  ·have e:t=cs.length:=by omega
   subst e
   have a4:¬((cs.length:Int) < (cs.length:Int)):=by omega
   have aA:Q0j cs cs.length=l:=by unfold Q0j;rw[ag.out];rfl
   have av:=Q00 aA;clear aA;have p0:wr.cell? ⟨g.heap.size,0,none⟩=some (.int .i64 key):=Q02 f.out.box 0 _ rfl;have p1:wr.cell? ⟨g.heap.size,1,none⟩=some (.slice o l.length c):=Q02 f.out.box 1 _ rfl;have p2:wr.cell? ⟨g.heap.size,2,none⟩=some (.slice V hs.length N):=Q02 f.out.box 2 _ rfl;have q0:=bC h.out aU J;have a0:=bF h.out aO J;have q1:=bC h.out aV J;have a1:=bF h.out aP J;have q2:=bC h.out aW J;have a2:=bF h.out aQ J;go_wp2
   refine bodyPost_ret (v:=plv key (.slice o l.length c) (.slice V hs.length N)) (by simp[results,Tryz.results128,go_sem,q0,q1,q2]) rfl ⟨o,c,V,N,hs,by rw[av.out], ?_, ?_, ?_,au.out,Q2e M.out (Kaq _) _ _ _⟩
   ·rw[av.out];exact Q06 (Q0i (Q0i (Q0i f.out.backs q 0 _) q 1 _) q 2 _) (by omega)
   ·exact Q06 (Q0i (Q0i (Q0i f.out.ring q 0 _) q 1 _) q 2 _) (by omega)
   ·exact PTabs.mono (((ac.out.low q 0 _).low q 1 _).low q 2 _) (by omega)
theorem Q2c {key:Int} {cs:List Cd} {a:Int} (h:Q0n key cs a=true):Q1S key=true/\cs.length<=100/\0<=a/\a<=(cs.length:Int):=by
 unfold Q0n at h;simp only[Bool.and_eq_true,decide_eq_true_eq]at h;exact⟨h.1.1.1.1,h.1.1.1.2,h.1.1.2,h.1.2⟩
theorem QcB (o:Option Addr) (cap:Nat) (l:List Cd) (n:Nat) (c:n=l.length) (w:World) (h:RdC w.heap.size w o l) (j:o=none->cap=0) (i:l.length<=1048576):
  Calls Tryz.prog 207 #[.slice o n cap] w fun e d=> ∃b a,e=.returned (.slice b n a)/\QhX d w.heap.size (.slice b n a) l/\Below w.heap.size w d:=by
 subst c;refine(Q8J o cap l w h j i).mono ?_;rintro e d ⟨v,rfl,f,h2⟩;obtain⟨b,a,g,_⟩:=ownL.open (L:=Q24) f;subst g;exact⟨b,a,rfl,f,h2⟩
theorem Q4b {key:Int} {cs:List Cd} {safe:Int} (h:Q0n key cs safe=true):(Q1h cs cs.length).isSome=true:=by
 unfold Q0n at h;simp only[Bool.and_eq_true]at h;exact h.2
theorem Q9Z {key:Int} {cs:List Cd} {a:Int} (h:Q0n key cs a=true):Q0d (Q0j cs cs.length)=true/\(Q0j cs cs.length).length<=100:=by
 obtain⟨l,b⟩:=Q58 (Q4b h) (Kaq _);have c:=Q3U cs.length l (Kaq _) b;have h2:=(Q2c h).2.1;unfold Q0j;rw[b];exact⟨c.1,by simp only[Option.getD_some];omega⟩
theorem Q9A (key:Int) (o:Option Addr) (cap:Nat) (cs:List Cd) (w:World) (g:RdC w.heap.size w o cs) (m:Q1S key=true) (n:cs.length<=100) (a:(Q1h cs cs.length).isSome=true):
  Calls Tryz.prog 128 #[.int .i64 key,.slice o cs.length cap] w fun e f=> ∃o c p l hs,e=.returned (plv key (.slice o (Q0j cs cs.length).length c) (.slice p hs.length l))/\Q1F f w.heap.size (.slice o (Q0j cs cs.length).length c) (Q0j cs cs.length)/\ownL Q0q 206 f w.heap.size (.slice p hs.length l) hs/\PTabs f w.heap.size key hs (Q1E cs cs.length)/\hs.length<=3/\Below w.heap.size w f:=by
 rcases g with g|⟨b,k,rfl,j,d⟩
 ·subst g
  exact Q71 key 0 0 cap [] w (fun h=>absurd rfl h) (fun i hi=>absurd hi (KMq _)) m n a o (fun h=>absurd rfl h)
 ·exact Q71 key b k cap cs w (fun _=>j) d m n a _ (fun _=>rfl)
theorem Q5L (key c:Int) (o:Option Addr) (cap:Nat) (l:List Cd) (w:World) (D:RdC w.heap.size w o l) (L:o=none->cap=0) (J:l.length<=1048576):
  Calls Tryz.prog 162 #[jrn key (.slice o l.length cap) c] w fun e E=> ∃t j,e=.returned (jrn key (.slice t l.length j) c)/\QhX E w.heap.size (.slice t l.length j) l/\Below w.heap.size w E:=by
 obtain⟨C,b⟩:∃W,((w.alloc (.cells #[.int .i64 key,.slice o l.length cap,.int .i64 c] 25)).alloc (.cells #[.int .i64 0,.slice none 0 0,.int .i64 0] 25))=W:=⟨_,rfl⟩;have d:=alb0v0v2 b;have i:=Q00 d;clear d;have g:=alz0v0v2 b;obtain⟨F,G,H⟩:=alc3v0v2 b;obtain⟨q,r,s⟩:=alf3v0v2 b;have f:=alz0v1v2 b;obtain⟨z,A,B⟩:=alc3v1v2 b;obtain⟨k,m,n⟩:=alf3v1v2 b;have h:=f;have x:=Q00 (QcB o cap l l.length rfl C ((D.kept i.out (Kaq _)).le i.out.size) L J);clear D;go_enter Tryz.func162,Tryz.ntmps162;go_wp2_with fail;refine(x.out).mono ?_
 rintro e N ⟨t,j,rfl,u,a⟩;have I:=Q00 u;have M:=a.size;clear u;replace F:=bC a F g;replace G:=bC a G g;replace H:=bC a H g;replace q:=bF a q g;replace r:=bF a r g;replace s:=bF a s g;replace g:=Kbq g a.size;replace z:=bC a z f;replace A:=bC a A f;replace B:=bC a B f;replace k:=bF a k f;replace m:=bF a m f;replace n:=bF a n f;replace f:=Kbq f a.size;replace i:=Q00 (i.out.trans (a.mono i.out.size));clear a
 have y:w.heap.size < C.heap.size:=by omega
 go_wp2;refine bodyPost_ret (v:=jrn key (.slice t l.length j) c) (by simp[results,Tryz.results162,go_sem,z,A,B]) rfl ⟨t,j,rfl,Q06 (Q0i (Q0i (Q0i (Q0i I.out y 1 _) h 0 _) h 1 _) h 2 _) (by omega),Q2e (i.out.setCell (p:=⟨w.heap.size,1,none⟩) (Kaq _) _) (Nat.le_succ _) _ _ _⟩
end Go.Proofs.YteffhdcankkfkaaGreat
