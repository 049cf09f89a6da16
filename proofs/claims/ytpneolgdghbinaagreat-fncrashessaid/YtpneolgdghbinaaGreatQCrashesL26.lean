/- Several texts in one: SL4, ShP, SBSame2, ShBal, SL4b, SJS, SRep, SJCut, SNote, Cut4, CutMath, SDr4. -/
import Derived.Deep.CutRange
import Derived.Test.YtpneolgdghbinaaGreatQCrashesL25
namespace Go.Proofs.YtpneolgdghbinaaGreat
open Go.ChangeShapes Go.WideShapes Go.ChangeAt Go.RowKit Go.Joins
set_option linter.unusedVariables false
set_option linter.unusedSimpArgs false
set_option maxRecDepth 100000
set_option maxHeartbeats 40000000
theorem Q94 {w:World} {base:Nat} {v:Value} {l:List Bk} (h:Q1e w base v l) {o:Option Addr} {n c:Nat} (e:v=.slice o n c):o=none->c=0:=fun e'=>(InRow.cap (InRow.of h)) n c (by rw[e,e'])
theorem bC {C b j:Nat} {w w':World} {u:Value} (h:Below C w w') (hc:w.cell? ⟨b,j,none⟩=some u) (hz:b < C):w'.cell? ⟨b,j,none⟩=some u:=(h.cell (p:=⟨b,j,none⟩) hz).trans hc
theorem bF {C b j:Nat} {w w':World} (h:Below C w w') (hc:w.frozen? ⟨b,j,none⟩=false) (hz:b < C):w'.frozen? ⟨b,j,none⟩=false:=(h.frozen (p:=⟨b,j,none⟩) hz).trans hc
abbrev plv (k:Int) (vb vr:Value):Value:=.agg #[.int .i64 k,vb,vr]
theorem Q4i {w:World} {x y:Int} {z:Bool} {T:TypeId}:RdK (w.alloc (.cells #[.int .i64 x,.int .i64 y,.bool z] T)).heap.size (w.alloc (.cells #[.int .i64 x,.int .i64 y,.bool z] T)) (some ⟨w.heap.size,0,none⟩) [(x,y,z)]:=
 .inr ⟨w.heap.size,0,rfl,by simp,fun i hi j b=>by
  have a:i=0:=by simpa using hi
  subst a
  match j,b with
  |0,_=>simp[Q16]
  |1,_=>simp[Q16]
  |2,_=>simp[Q16]⟩
theorem QeQ:(Tryz.prog.info? 51).map (fun i=>(i.zero,i.size,i.bytes))=some (some (.slice none 0 0),1,24):=by kernel_rfl
theorem Q5Z:AppOk Q0E 27 51:=⟨Tryz.underlying27,⟨_,_,QeQ,rfl,by decide⟩,by decide,fun a u hu=>by
 simp[Q0E]at hu;subst hu;rfl⟩
theorem Q1R {w:World} {base s n:Nat} {e T:TypeId} {v:Value} {k:List Value} {B:Nat} {c:Array Value} (h:w.ownsRow base e s v n k) (b:w.heap[B]? =some (.cells c T (0,0))) (j:e≠T):v.ownBlock=none\/v.ownBlock≠some B:=by
 rcases h.2 with⟨a,h2⟩|⟨g,cap,f,a,l,i,_⟩
 ·left;rw[a];rfl
 ·right
  rw[a];intro d;simp[Value.ownBlock]at d;subst d;rw[i]at b;simp at b;exact j b.2
theorem Q0H (w:World) (B j:Nat) (u:Value):w.grownBy (w.setCell ⟨B,j,none⟩ u) (some B):=
 ⟨rfl,rfl,rfl,by simp[World.setCell],fun k b a=>Below.heap_setCell w ⟨B,j,none⟩ u k (fun e=>a (by rw[e]))⟩
theorem Q05 {W:World} {B:Nat} {c:Array Value} {T:TypeId} (h:W.heap[B]? =some (.cells c T (0,0))) (j:Nat) (u:Value):(W.setCell ⟨B,j,none⟩ u).heap[B]? =some (.cells (c.setIfInBounds j u) T (0,0)):=by
 simp[World.setCell,Array.getElem?_modify,h]
theorem Q00 {W:World} {B:Nat} {c:Array Value} {t:TypeId} (h:W.heap[B]? =some (.cells c t (0,0))) (j:Nat) (u:Value) (hj:c[j]? =some u):W.cell? ⟨B,j,none⟩=some u:=by
 simp[World.cell?,h,hj]
theorem Q01 {W:World} {B:Nat} {c:Array Value} {t:TypeId} (h:W.heap[B]? =some (.cells c t (0,0))) (j:Nat):W.frozen? ⟨B,j,none⟩=false:=by
 simp[World.frozen?,h]
structure St (W0 W:World) (lv:Value) (s:List Bk) (B:Nat) (x y:Int) (u:Bool):Prop where
 own:Q1e W W0.heap.size lv s
 bel:Below W0.heap.size W0 W
 box:W.heap[B]? =some (.cells #[.int .i64 x,.int .i64 y,.bool u] 119 (0,0))
 ge:W0.heap.size<=B
 ne:∀b,lv.ownBlock=some b->b≠B
theorem St.start {a wr:World} {f:Value} {s:List Bk} {x y:Int} {u:Bool} (d:Q1e wr a.heap.size f s) (c:Below a.heap.size a wr):St a (wr.alloc (.cells #[.int .i64 x,.int .i64 y,.bool u] 119)) f s wr.heap.size x y u:=
 ⟨World.ownsRow.alloc d _,c.alloc c.size _,World.alloc_heap_new wr _,c.size,fun b e=>by have:=(d.lt b e).2;omega⟩
theorem St.app {f W i:World} {g d:Value} {s:List Bk} {B:Nat} {x y:Int} {u:Bool} {a:Bk} {A:Obj} (h:St f W g s B x y u) (m:Q1e i f.heap.size d (s++[a])) (j:(W.alloc A).grownBy i g.ownBlock) (c:d.ownBlock=g.ownBlock\/d.ownBlock=some (W.heap.size+1)):St f i d (s++[a]) B x y u:=by
 have l:B < W.heap.size:=(KEq h.box);have hs:=h.bel.size;refine⟨m,(h.bel.alloc hs A).grown j (by simp;omega) (fun k e=>(h.own.lt k e).1), ?_,h.ge, ?_⟩
 ·rw[j.block B (by simp;omega) (fun e=>h.ne B e.symm rfl),Below.heap_alloc _ _ _ l]
  exact h.box
 ·intro b e
  rcases c with c|c
  ·exact h.ne b (by rw[<-c,e])
  ·rw[c]at e
   simp at e;omega
theorem St.put1 {d W:World} {c:Value} {s:List Bk} {B:Nat} {x y:Int} {u:Bool} (h:St d W c s B x y u) (g:Int):St d (W.setCell ⟨B,1,none⟩ (.int .i64 g)) c s B x g u:=
 ⟨World.ownsRow.kept h.own (Q0H W B 1 _) (by cases a:c.ownBlock with
  |none=>exact .inl rfl
  |some b=>exact .inr (fun e=>h.ne b a (by injection e))),h.bel.setCell (p:=⟨B,1,none⟩) h.ge _,by rw[Q05 h.box];rfl,h.ge,h.ne⟩
theorem St.put2 {f W:World} {c:Value} {s:List Bk} {B:Nat} {x y:Int} {u:Bool} (h:St f W c s B x y u) (d:Bool):St f (W.setCell ⟨B,2,none⟩ (.bool d)) c s B x y d:=
 ⟨World.ownsRow.kept h.own (Q0H W B 2 _) (by cases a:c.ownBlock with
  |none=>exact .inl rfl
  |some b=>exact .inr (fun e=>h.ne b a (by injection e))),h.bel.setCell (p:=⟨B,2,none⟩) h.ge _,by rw[Q05 h.box];rfl,h.ge,h.ne⟩
def RingO (w:World) (base:Nat) (v:Value) (T:Nat->List Int) (hsR:List Hd):Prop:=∃o3 c3 hs3,ownL Q0E 51 w base v ((o3,8,c3)::hsR)/\ownL Q0E 47 w base (.slice o3 8 c3) hs3/\Tab T 8 w base hs3
theorem Qa4:(51:TypeId)≠29:=by decide
theorem QiG:(47:TypeId)≠29:=by decide
theorem QiY:(3:TypeId)≠29:=by decide
theorem Q8b:(119:TypeId)≠29:=by decide
theorem QiL:(47:TypeId)≠51:=by decide
theorem Qj6:(3:TypeId)≠51:=by decide
theorem Q0p {w:World} {base s n:Nat} {e:TypeId} {v:Value} {a:List Value} {B:Nat} {c:Array Value} (h:w.ownsRow base e s v n a) (b:w.heap[B]? =some (.cells c 29 (0,0))) (d:e≠29) (j:Nat) (u:Value):(w.setCell ⟨B,j,none⟩ u).ownsRow base e s v n a:=
 World.ownsRow.kept h (Q0H w B j u) (Q1R h b d)
theorem Q0j {w:World} {base s n:Nat} {e:TypeId} {v:Value} {a:List Value} {B:Nat} (h:w.ownsRow base e s v n a) (c:B < base) (j:Nat) (u:Value):(w.setCell ⟨B,j,none⟩ u).ownsRow base e s v n a:=
 World.ownsRow.kept h (Q0H w B j u) (by
  cases hob:v.ownBlock with
  |none=>exact .inl rfl
  |some b=>exact .inr (fun e=>by have:=(h.lt b hob).1;injection e with e;omega))
theorem RingO.put {w:World} {base:Nat} {v:Value} {T:Nat->List Int} {a:List Hd} {B:Nat} {c:Array Value} (h:RingO w base v T a) (b:w.heap[B]? =some (.cells c 29 (0,0))) (j:Nat) (u:Value):RingO (w.setCell ⟨B,j,none⟩ u) base v T a:=by
 obtain⟨l,g,d,k,h2,f⟩:=h;exact⟨l,g,d,Q0p k b Qa4 j u,Q0p h2 b QiG j u,f.grown (Q0H w B j u) (fun i hi=>Q1R (f.row i hi) b QiY)⟩
theorem RingO.low {w:World} {base:Nat} {v:Value} {T:Nat->List Int} {c:List Hd} {B:Nat} (h:RingO w base v T c) (f:B < base) (j:Nat) (u:Value):RingO (w.setCell ⟨B,j,none⟩ u) base v T c:=by
 obtain⟨l,g,a,k,h2,d⟩:=h;refine⟨l,g,a,Q0j k f j u,Q0j h2 f j u,d.grown (Q0H w B j u) (fun i hi=>?_)⟩
 cases hob:(hv a i).ownBlock with
 |none=>exact .inl rfl
 |some b=>exact .inr (fun e=>by have:=((d.row i hi).lt b hob).1;injection e with e;omega)
theorem RingO.alloc {w:World} {base:Nat} {v:Value} {T:Nat->List Int} {a:List Hd} (h:RingO w base v T a) (o:Obj):RingO (w.alloc o) base v T a:=by
 obtain⟨g,c,b,d,h2,f⟩:=h;exact⟨g,c,b,World.ownsRow.alloc d o,World.ownsRow.alloc h2 o,f.kept (KBq.alloc (Kaq _) _)⟩
theorem RingO.isSome {w:World} {base:Nat} {v:Value} {T:Nat->List Int} {a:List Hd} (h:RingO w base v T a):∃g c,v=.slice (some ⟨g,0,none⟩) (a.length+1) c:=by
 obtain⟨j,f,d,b,h2,i⟩:=h;obtain⟨g,c,e⟩:=Q2S b (by simp);exact⟨g,c,by rw[e];simp⟩
theorem Q4s (w:World) (o:Option Addr) (n c:Nat) (T:TypeId):ownL Q0E T (w.alloc (.cells #[.slice o n c] T)) w.heap.size (.slice (some ⟨w.heap.size,0,none⟩) 1 1) [(o,n,c)]:=
 ⟨by simp[Q0E],.inr ⟨w.heap.size,1,#[.slice o n c],rfl,Kaq _,heap_alloc_new w _,by simp,by unfold maxLen;omega,by simp[Q0E],by simp[Q0E]⟩⟩
theorem Q2v {V f:World} {base:Nat} {s h:Value} {d:Option Addr} {c:Nat} {a b:List Hd} {T:Nat->List Int} (hs:ownL Q0E 51 V base s [(d,8,c)]) (h2:ownL Q0E 47 V base (.slice d 8 c) a) (i:Tab T 8 V base a) (j:ownL Q0E 51 f base h ([(d,8,c)]++b)) (g:V.grownBy f s.ownBlock):RingO f base h T b:=
 ⟨d,c,a,j,World.ownsRow.kept h2 g (Q2n h2 hs QiL),i.other hs Qj6 g⟩
theorem Tab.mono {R:Nat->List Int} {k:Nat} {w:World} {base b2:Nat} {hs:List Hd} (h:Tab R k w base hs) (hb:b2<=base):Tab R k w b2 hs:=⟨h.len,fun i hi=>Q04 (h.row i hi) hb,h.apart⟩
abbrev setP (W:World) (B:Nat) (a b c:Value):World:=((W.setCell ⟨B,0,none⟩ a).setCell ⟨B,1,none⟩ b).setCell ⟨B,2,none⟩ c
theorem QfX {a W:World} {B:Nat} {key:Int} {c b:Value} {T:Nat->List Int} {d:List Hd} {m n q:Value} (i:W.heap[B]? =some (.cells #[m,n,q] 29 (0,0))) (l:Below a.heap.size a W) (f:a.heap.size<=B) (k:RingO W a.heap.size b T d):
  ∃B' j,Value.pointer (some ⟨B,0,none⟩)=.pointer (some ⟨B',0,none⟩)/\Hid ((setP W B (.int .i64 key) c b).heap[B']? =some (.cells #[.int .i64 key,c,j] 29 (0,0)))/\Hid (Below a.heap.size a (setP W B (.int .i64 key) c b))/\a.heap.size<=B'/\B' < (setP W B (.int .i64 key) c b).heap.size/\Hid (RingO (setP W B (.int .i64 key) c b) a.heap.size j T d):=by
 have g:=Q05 i 0 (.int .i64 key);have h2:=Q05 g 1 c;have h:=Q05 h2 2 b;refine⟨B,b,rfl,h,((l.setCell (p:=⟨B,0,none⟩) f _).setCell (p:=⟨B,1,none⟩) f _).setCell (p:=⟨B,2,none⟩) f _,f,(KEq h),((k.put i 0 _).put g 1 _).put h2 2 _⟩
theorem Qhu {a W:World} {key:Int} {d b:Value} {T:Nat->List Int} {c:List Hd} (f:Below a.heap.size a W) (h:RingO W a.heap.size b T c):
  ∃B' g,Value.pointer (some ⟨W.heap.size,0,none⟩)=.pointer (some ⟨B',0,none⟩)/\Hid ((W.alloc (.cells #[.int .i64 key,d,b] 29)).heap[B']? =some (.cells #[.int .i64 key,d,g] 29 (0,0)))/\Hid (Below a.heap.size a (W.alloc (.cells #[.int .i64 key,d,b] 29)))/\a.heap.size<=B'/\B' < (W.alloc (.cells #[.int .i64 key,d,b] 29)).heap.size/\Hid (RingO (W.alloc (.cells #[.int .i64 key,d,b] 29)) a.heap.size g T c):=
 ⟨W.heap.size,b,rfl,World.alloc_heap_new W _,f.alloc f.size _,f.size,by simp,h.alloc _⟩
theorem Q34 {w a:World} {c:Array Value} {T:TypeId} (d:Below ((w.alloc (.cells c T)).drew).heap.size (w.alloc (.cells c T)).drew a):a.heap[w.heap.size]? =some (.cells c T (0,0)):=by
 have b:=d.block w.heap.size (by simp);have h2:(w.alloc (.cells c T)).drew.heap[w.heap.size]? =(w.alloc (.cells c T)).heap[w.heap.size]? :=rfl;exact b.trans (h2.trans (World.alloc_heap_new w (.cells c T)))
theorem Q3O {V d:World} {B n:Nat} {c:Array Value} {T:TypeId} (f:V.grownBy d (Value.slice (some ⟨n,0,none⟩) 1 1).ownBlock) (b:V.heap[B]? =some (.cells c T (0,0))) (a:B≠n):d.heap[B]? =some (.cells c T (0,0)):=
 (f.block B (KEq b) (by simp[Value.ownBlock];exact a)).trans b
theorem Q06 {W:World} {B b j:Nat} {u x y z:Value} (h:W.cell? ⟨b,j,none⟩=some u) (a:b < B):(setP W B x y z).cell? ⟨b,j,none⟩=some u:=
 (((((Below.refl B W).setCell (p:=⟨B,0,none⟩) (Kaq _) x).setCell (p:=⟨B,1,none⟩) (Kaq _) y).setCell (p:=⟨B,2,none⟩) (Kaq _) z).cell (p:=⟨b,j,none⟩) a).trans h
theorem Q9F (w:World) (a:Obj) (o:Option Addr) (n c:Nat) (T:TypeId):ownL Q0E T ((w.alloc a).alloc (.cells #[.slice o n c] T)) (w.heap.size+1) (.slice (some ⟨w.heap.size+1,0,none⟩) 1 1) [(o,n,c)]:=by
 have h:=Q4s (w.alloc a) o n c T;rw[World.size_alloc]at h;exact h
theorem Q3P (w:World) (c:Array Value) (T:TypeId) (a:Obj):((w.alloc (.cells c T)).alloc a).heap[w.heap.size]? =some (.cells c T (0,0)):=(Below.heap_alloc _ _ _ (by simp)).trans (World.alloc_heap_new w _)
theorem Q1P (w:World) (c:Array Value) (T:TypeId) (a:Obj):((w.alloc a).alloc (.cells c T)).heap[w.heap.size+1]? =some (.cells c T (0,0)):=by
 have h:=World.alloc_heap_new (w.alloc a) (.cells c T);rw[World.size_alloc]at h;exact h
theorem RingO.cap {w:World} {base n c:Nat} {g:Nat} {T:Nat->List Int} {a:List Hd} (h:RingO w base (.slice (some ⟨g,0,none⟩) n c) T a):n<=c:=by
 obtain⟨t,j,i,d,h2,l⟩:=h
 rcases d.2 with⟨e,_⟩|⟨k,cap,b,e,r,s,f,m,p,q⟩
 ·cases e
 ·injection e with e1 e2 e3
  rw[e2,e3];exact f
theorem Q1h {w:World} {B b j q:Nat} {u:Value} (h:b≠B):(w.setCell ⟨B,q,none⟩ u).cell? ⟨b,j,none⟩=w.cell? ⟨b,j,none⟩:=by
 simp only[World.cell?,Below.heap_setCell w ⟨B,q,none⟩ u b h]
theorem Q0Q {w:World} {B b j q:Nat} {u:Value} (h:b≠B):(w.setCell ⟨B,q,none⟩ u).frozen? ⟨b,j,none⟩=w.frozen? ⟨b,j,none⟩:=by
 simp only[World.frozen?,Below.heap_setCell w ⟨B,q,none⟩ u b h]
theorem Q7P {w:World} {base g n c:Nat} {e:TypeId} {hs:List Hd} (h:ownL Q0E e w base (.slice (some ⟨g,0,none⟩) n c) hs) (b:3<=hs.length):ownL Q0E e w base (.slice (some ⟨g,0,none⟩) 3 c) (hs.take 3):=by
 have d:n=hs.length:=by
  obtain⟨i,f,a,_⟩:=ownL.open (L:=Q0E) h;injection a with _ e2 _
 subst d;exact Q8z (L:=Q0E) h 3 b
theorem RingO.mono {w:World} {base d:Nat} {v:Value} {T:Nat->List Int} {a:List Hd} (h:RingO w base v T a) (b:d<=base):RingO w d v T a:=by
 obtain⟨j,f,c,g,h2,i⟩:=h;exact⟨j,f,c,Q04 g b,Q04 h2 b,Tab.mono i b⟩
def Q6n (key:Int) (m:List Bk) (hsR:List Hd) (w:World) (e:Ending) (w':World):Prop:=∃o2 c2 oR2 n2 cR2 o3 c3 hs3,e=.returned (.tuple #[plv key (.slice o2 m.length c2) (.slice oR2 n2 cR2),.bool true])/\n2=(((o3,8,c3)::hsR).take 3).length/\Q1e w' w.heap.size (.slice o2 m.length c2) m/\ownL Q0E 51 w' w.heap.size (.slice oR2 n2 cR2) (((o3,8,c3)::hsR).take 3)/\ownL Q0E 47 w' w.heap.size (.slice o3 8 c3) hs3/\Tab (fun b=>Q14 key b m) 8 w' w.heap.size hs3/\Below w.heap.size w w'
theorem Qe9 {l:List Bk} {i:Int} (h:Q0A l i=false):Q7p l i= -1:=by unfold Q7p;rw[h];rfl
theorem Qci {l:List Bk} {i:Int} (h:Q0A l i=true):Q7p l i=(Q0h l i:Int):=by unfold Q7p;rw[h];rfl
theorem Qgc (key:Int) (o:Option Addr) (cap:Nat) (l:List Bk) (oR:Option Addr) (cR:Nat) (d:List Hd) (i g:Int) (m:List Bk) (w:World) (hk:Q1D key=true) (hl:Q0b l=true) (hc:Q0F 0 i g=true) (hm:doL l 0 i g=some m) (cq:l.length<=100) (hR:RdK w.heap.size w o l) (hG:RdL Q0E w.heap.size w oR d) (aV:oR=none->cR=0) (cu:d.length<=3):
  Calls Tryz.prog 95 #[plv key (.slice o l.length cap) (.slice oR d.length cR),cmd 0 i g] w fun e w'=>Q6n key m d w e w':=by
 obtain⟨W0,aw⟩:∃W,(((w.alloc (.cells #[.int .i64 key,.slice o l.length cap,.slice oR d.length cR] 29)).alloc (.cells #[.int .i64 0,.int .i64 i,.int .i64 g] 77)).alloc (.cells #[.int .i64 0,.slice none 0 0,.slice none 0 0] 29))=W:=⟨_,rfl⟩;have a7:=alb0v0v3 aw;have HB:=Q02 a7;clear a7;have zz:=alz0v0v3 aw;obtain⟨z0,z1,z2⟩:=alc3v0v3 aw;have zu:=alz0v1v3 aw;obtain⟨u0,u1,u2⟩:=alc3v1v3 aw;have zr:=alz0v2v3 aw;obtain⟨r0,r1,r2⟩:=alc3v2v3 aw;obtain⟨b4,b5,b6⟩:=alf3v2v3 aw;have ct:=zr;have HR:=Q02 hR;have HG:=Q02 hG;have ah:=HB.out.size
 have HF:=Q02 (Q5S o cap l i W0 ((hR.kept HB.out (Kaq _)).le HB.out.size) (by omega) hl);have ar:=Q02 (Qe6 hl hc hm);have aO:=Q8W hl hc hm;have cm:=Q91 hm
 have bn:Q0A l i=false:=by rcases Q5O hm with⟨h,_⟩|⟨_,h,_⟩|⟨_,h,_⟩|⟨_,h,_⟩ <;> first|exact h|(exact absurd h (by decide))|(exact absurd rfl h)
 rw[Qe9 bn]at HF ar;clear hR hG hl hc;have aK:=Q02 (fun t=>Q95 (l:=l) (k:=0) (i:=i) (g:=g) (fi:= -1) t);have Z0:=z0;have Z1:=z1;have Z2:=z2;have ZZ:=zz;have U0:=u0;have U1:=u1;have U2:=u2;have ZU:=zu;have Q0:=r0;have Q1:=r1;have Q2:=r2;have ZQ:=zr;have FQ0:=b4;have FQ1:=b5;have FQ2:=b6;go_enter Tryz.func95,Tryz.ntmps95;go_wp2_with fail;refine HF.out.mono ?_;rintro e w9 ⟨rfl,rfl⟩;go_wp2
 go_loopw [7,8,9] (fun lv pv tv wr=> ∃t:Nat,t<=l.length/\tv=.int .i64 (t:Int)/\pv=.bool (Q5e l 0 i g (-1) t).2/\Hid (Q1e wr W0.heap.size lv (Q5e l 0 i g (-1) t).1)/\Hid (Below W0.heap.size W0 wr))
  (fun _ _ tv _=>l.length - (intOf tv).toNat)
 case atStart=>exact⟨0,Kcq _,rfl,by simp[Q5e],KLq _ _ _ _,KBq⟩
 case round=>
  obtain⟨t,cy,rfl,rfl,HO,af⟩:=hrel;clear HF z0 z1 z2 u0 u1 u2 r0 r1 r2 b4 b5 b6 zz zu zr aw;have bm:Hid (Below w.heap.size w wr):=HB.out.trans (af.out.mono ah)
  by_cases hlt:t < l.length
  ·skip
   have cr:(t:Int) < (l.length:Int):=by omega
   have cx:(0:Int)<=(t:Int):=by omega
   rcases HR.out with hR|⟨b,off,rfl,bP,a8⟩
   ·subst hR;simp at hlt
   obtain⟨c0,c1,c2⟩:=RdL.back (C:=w.heap.size) a8 t hlt;replace c0:=(bm.out.cell (p:=⟨b,off+t * 3,none⟩) bP).trans c0;replace c1:=(bm.out.cell (p:=⟨b,off+t * 3+1,none⟩) bP).trans c1;replace c2:=(bm.out.cell (p:=⟨b,off+t * 3+2,none⟩) bP).trans c2;have bb:=Q5l l 0 i g (-1) t;have ax:=Q02 (show Q5e l 0 i g (-1) (t+1)=Q4N 0 i g (-1) (Q5e l 0 i g (-1) t) t (l.getD t (0,0,false))from rfl);have au:=aK.out t;obtain⟨x,y,u,bK⟩:∃x y u,l.getD t (0,0,false)=(x,y,u):=⟨_,_,_,rfl⟩;rw[bK]at c0 c1 c2 ax;dsimp only at c0 c1 c2;clear bK a8
   obtain⟨s1,s2,aA⟩:∃s1 s2,Q5e l 0 i g (-1) t=(s1,s2):=⟨_,_,rfl⟩;rw[aA]at HO ax bb au ⊢;dsimp only at HO bb au ⊢;clear aA ar aK;have bl:=bC af.out Z1 ZZ;have cs:((t:Int)== -1)=false:=beq_eq_false_iff_ne.2 (by omega)
   have aJ:¬((t:Int)= -1):=by omega
   cases s2 with
   |true=>
    have F:=ax.out;unfold Q4N at F;simp only[aJ,if_false,Bool.true_eq_false,false_and]at F;have av:=Q02 F;clear ax F
    (try have H1:=Q02 h1)
    (try have H3:=Q02 h3)
    (try clear h1 h3)
    (try clear h3)
    obtain⟨W2,a5⟩:∃W,wr.alloc (.cells #[.int .i64 x,.int .i64 y,.bool u] 119)=W:=⟨_,rfl⟩
    have f:Hid (St W0 W2 u7 s1 wr.heap.size x y u):=by rw[<-a5];exact St.start HO.out af.out
    have bk:=bC f.out.bel Z1 ZZ;have bh:=bC f.out.bel U0 ZU;have bi:=bC f.out.bel U1 ZU;have bj:=bC f.out.bel U2 ZU;have aZ:=Q00 f.out.box 0 _ rfl;have a0:=Q00 f.out.box 1 _ rfl;have a1:=Q00 f.out.box 2 _ rfl;have aL:=Q01 f.out.box 0;have aM:=Q01 f.out.box 1;have aN:=Q01 f.out.box 2
    go_wp2_with (at_builtin;refine Q07 Q3U rfl (.tmp 69) (.tmp 71) rfl W0.heap.size _ _ rfl (World.ownsRow.alloc f.out.own (.cells #[.int .i64 x,.int .i64 y,.bool u] 119)) (some ⟨W2.heap.size,0,none⟩) 1 (W2.alloc (.cells #[.int .i64 x,.int .i64 y,.bool u] 119)).heap.size [(x,y,u)] 1 rfl rfl (fun h=>by cases h) Q4i (by simp;omega) (by have:=f.out.bel.size;simp;omega) ?_);intro v6 w6 ae ag am;have az:=Q02 (f.out.app ae ag am);clear ae ag am;go_wp2;go_roundw
    case rel=>exact⟨t+1,by omega,by go_num,by rw[av.out],by rw[av.out];exact az.out.own,az.out.bel⟩
    case measure=>simp[intOf];omega
   |false=>
    by_cases hgt:i < x
    ·skip
     have F:=ax.out;unfold Q4N at F;simp only[aJ,if_false,hgt,and_self,if_true]at F;have av:=Q02 F;clear ax F
     (try have H1:=Q02 h1)
     (try have H3:=Q02 h3)
     (try clear h1 h3)
     (try clear h3)
     obtain⟨W2,a5⟩:∃W,wr.alloc (.cells #[.int .i64 x,.int .i64 y,.bool u] 119)=W:=⟨_,rfl⟩
     have f:Hid (St W0 W2 u7 s1 wr.heap.size x y u):=by rw[<-a5];exact St.start HO.out af.out
     have bk:=bC f.out.bel Z1 ZZ;have bh:=bC f.out.bel U0 ZU;have bi:=bC f.out.bel U1 ZU;have bj:=bC f.out.bel U2 ZU;have aZ:=Q00 f.out.box 0 _ rfl;have a0:=Q00 f.out.box 1 _ rfl;have a1:=Q00 f.out.box 2 _ rfl;have aL:=Q01 f.out.box 0;have aM:=Q01 f.out.box 1;have aN:=Q01 f.out.box 2
     go_wp2_with (at_builtin;refine Q07 Q3U rfl (.tmp 48) (.tmp 54) rfl W0.heap.size _ _ rfl (World.ownsRow.alloc f.out.own (.cells #[.int .i64 i,.int .i64 g,.bool false] 119)) (some ⟨W2.heap.size,0,none⟩) 1 (W2.alloc (.cells #[.int .i64 i,.int .i64 g,.bool false] 119)).heap.size [(i,g,false)] 1 rfl rfl (fun h=>by cases h) Q4i (by simp;omega) (by have:=f.out.bel.size;simp;omega) ?_);intro v5 w5 ae ag am;have ay:=Q02 (f.out.app ae ag am);clear ae ag am;generalize hs5:s1++[(i,g,false)]=s5 at ay av
     have cw:s5.length=s1.length+1:=by rw[<-hs5];simp
     clear hs5;have cp:=bC ay.out.bel Z1 ZZ;have b9:=Q00 ay.out.box 0 _ rfl;have ca:=Q00 ay.out.box 1 _ rfl;have cb:=Q00 ay.out.box 2 _ rfl;go_wp2_with (at_builtin;refine Q07 Q3U rfl (.tmp 69) (.tmp 71) rfl W0.heap.size _ _ rfl (World.ownsRow.alloc ay.out.own (.cells #[.int .i64 x,.int .i64 y,.bool u] 119)) (some ⟨w5.heap.size,0,none⟩) 1 (w5.alloc (.cells #[.int .i64 x,.int .i64 y,.bool u] 119)).heap.size [(x,y,u)] 1 rfl rfl (fun h=>by cases h) Q4i (by simp;omega) (by have:=ay.out.bel.size;simp;omega) ?_);intro v6 w6 ae ag am;have az:=Q02 (ay.out.app ae ag am)
     clear ae ag am;go_wp2;go_roundw
     case rel=>exact⟨t+1,by omega,by go_num,by rw[av.out],by rw[av.out];exact az.out.own,az.out.bel⟩
     case measure=>simp[intOf];omega
    ·have cv:decide (i < x)=false:=decide_eq_false hgt
     have F:=ax.out;unfold Q4N at F;simp only[aJ,if_false,hgt,and_false]at F;have av:=Q02 F;clear ax F
     (try have H1:=Q02 h1)
     (try have H3:=Q02 h3)
     (try clear h1 h3)
     (try clear h3)
     obtain⟨W2,a5⟩:∃W,wr.alloc (.cells #[.int .i64 x,.int .i64 y,.bool u] 119)=W:=⟨_,rfl⟩
     have f:Hid (St W0 W2 u7 s1 wr.heap.size x y u):=by rw[<-a5];exact St.start HO.out af.out
     have bk:=bC f.out.bel Z1 ZZ;have bh:=bC f.out.bel U0 ZU;have bi:=bC f.out.bel U1 ZU;have bj:=bC f.out.bel U2 ZU;have aZ:=Q00 f.out.box 0 _ rfl;have a0:=Q00 f.out.box 1 _ rfl;have a1:=Q00 f.out.box 2 _ rfl;have aL:=Q01 f.out.box 0;have aM:=Q01 f.out.box 1;have aN:=Q01 f.out.box 2
     go_wp2_with (at_builtin;refine Q07 Q3U rfl (.tmp 69) (.tmp 71) rfl W0.heap.size _ _ rfl (World.ownsRow.alloc f.out.own (.cells #[.int .i64 x,.int .i64 y,.bool u] 119)) (some ⟨W2.heap.size,0,none⟩) 1 (W2.alloc (.cells #[.int .i64 x,.int .i64 y,.bool u] 119)).heap.size [(x,y,u)] 1 rfl rfl (fun h=>by cases h) Q4i (by simp;omega) (by have:=f.out.bel.size;simp;omega) ?_);intro v6 w6 ae ag am;have az:=Q02 (f.out.app ae ag am);clear ae ag am;go_wp2;go_roundw
     case rel=>exact⟨t+1,by omega,by go_num,by rw[av.out],by rw[av.out];exact az.out.own,az.out.bel⟩
     case measure=>simp[intOf];omega
  ·have e:t=l.length:=by omega
   subst e;obtain⟨s1,s2,aA⟩:∃s1 s2,Q5e l 0 i g (-1) l.length=(s1,s2):=⟨_,_,rfl⟩;have bb:=Q5l l 0 i g (-1) l.length;have au:=aK.out l.length;rw[aA]at HO ar bb au ⊢;dsimp only at HO bb au ⊢;clear aA aK hlt;have bl:=bC af.out Z1 ZZ;have bV:=bC af.out U1 ZU;have bW:=bC af.out U2 ZU
   cases s2 with
   |true=>
    obtain rfl:m=s1:=ar.out.symm;have aH:=HO;have G:=af;obtain⟨o2,c2,e2,bf⟩:=ownL.open (L:=Q16) aH.out;have bQ:=Q02 (Q94 aH.out e2);subst e2;have aY:=Q02 bf;clear bf au;have a:Hid (Below w.heap.size w wr):=HB.out.trans (G.out.mono ah);have b8:=G.out.size;have aI:=Q02 (HG.out.kept a.out (Kaq _));clear HG;have T:=bC G.out Z0 ZZ;have V:=bC G.out Z2 ZZ;have aP:=bC G.out Q0 ZQ;have aR:=bC G.out Q1 ZQ;have aT:=bC G.out Q2 ZQ
    have a9:m.length<=1000:=by omega
    go_upto_region 21 with fail
    go_cut [11]from 83 to 94 (fun s11 wx=> ∃B v',s11=.pointer (some ⟨B,0,none⟩)/\Hid (wx.heap[B]? =some (.cells #[.int .i64 key,.slice o2 m.length c2,v'] 29 (0,0)))/\Hid (Below wr.heap.size wr wx)/\wr.heap.size<=B/\B < wx.heap.size/\Hid (RingO wx wr.heap.size v' (fun b=>Q14 key b m) d))
    case first=>
     have I:w.heap.size < wr.heap.size:=by have:=ZZ;omega
     go_region_held3 (fun w'=>w'.cell? ⟨w.heap.size,0,none⟩=some (.int .i64 key)/\w'.cell? ⟨w.heap.size,2,none⟩=some (.slice oR d.length cR)) (first|with_reducible exact⟨M,N⟩|with_reducible exact⟨aC,aD⟩|with_reducible exact⟨T,V⟩|with_reducible exact⟨Q06 M (show w.heap.size < wr.heap.size by omega),Q06 N (show w.heap.size < wr.heap.size by omega)⟩|with_reducible exact⟨Q06 M (show w.heap.size < n.heap.size by omega),Q06 N (show w.heap.size < n.heap.size by omega)⟩|with_reducible exact⟨Q06 M (show w.heap.size < n.heap.size+1 by omega),Q06 N (show w.heap.size < n.heap.size+1 by omega)⟩|go_keep) (first|(go_at_call 102;have ak:=Q1x key o2 c2 m wr.drew ((aY.out.kept (KHq KBq) (Kaq _)).le (by simp)) a9 hk aO;with_reducible refine ak.mono ?_;clear ak;rintro e n ⟨A,z,an,rfl,Z,aa,hb⟩;have r:Below wr.heap.size wr n:=Below.trans (show Below wr.heap.size wr wr.drew from(KHq KBq)) (hb.mono (by simp));have J:=r.size;have Z:=Q04 Z (show wr.heap.size<=_ by simp);have aa:=Tab.mono aa (show wr.heap.size<=_ by simp);have aC:=bC r T I;have aD:=bC r V I;clear hb)|(go_at_call 102;have ak:=Q1x key o2 c2 m (wr.alloc (.cells #[.int .i64 0,.slice none 0 0,.slice none 0 0] 29)).drew ((aY.out.kept (KHq (KBq.alloc (Kaq _) _)) (Kaq _)).le (by simp)) a9 hk aO;with_reducible refine ak.mono ?_;clear ak;rintro e n ⟨A,z,an,rfl,Z,aa,hb⟩;have r:Below wr.heap.size wr n:=Below.trans (show Below wr.heap.size wr (wr.alloc (.cells #[.int .i64 0,.slice none 0 0,.slice none 0 0] 29)).drew from(KHq (KBq.alloc (Kaq _) _))) (hb.mono (by simp));have J:=r.size;have Z:=Q04 Z (show wr.heap.size<=_ by simp);have aa:=Tab.mono aa (show wr.heap.size<=_ by simp);have aC:=bC r T I;have aD:=bC r V I;have a6:=Q34 hb;have aB:=(KEq a6);clear hb)|(have j:Below n.heap.size n (n.alloc (.cells #[.slice A 8 z] 51)):=((Below.refl n.heap.size n).alloc (Kaq _) (.cells #[.slice A 8 z] 51));have c:ownL Q0E 51 (n.alloc (.cells #[.slice A 8 z] 51)) wr.heap.size (.slice (some ⟨n.heap.size,0,none⟩) 1 1) [(A,8,z)]:=Q04 (Q4s n A 8 z _) (by(try simp) <;> omega);have aj:Below w.heap.size w (n.alloc (.cells #[.slice A 8 z] 51)):=a.out.trans ((r.mono a.out.size).trans (j.mono (Kdq a.out.size J)));refine Q0n Q5Z rfl (.tmp 90) (.tmp 92) rfl wr.heap.size (.slice (some ⟨n.heap.size,0,none⟩) 1 1) [(A,8,z)] rfl c oR cR w.heap.size d d.length rfl rfl aV (aI.out.kept (r.trans (j.mono J)) a.out.size) (by simp;omega) (by simp;omega) ?_;intro v4 x1 Y D al;have R:=Q2v c (Q03 Z j) (aa.kept j) Y D;obtain⟨g4,c4,e4⟩:=RingO.isSome R;subst e4;have s:Below wr.heap.size wr x1:=(r.trans (j.mono J)).grown D (by(try simp) <;> omega) (fun k h=>(c.lt k h).1);have bg:=s.size;have M:=bC s T I;have N:=bC s V I;(try have ab:=Q3O D ((Below.heap_alloc _ _ _ aB).trans a6) (Nat.ne_of_lt aB));(try have bo:=Q00 ab 0 _ rfl);(try have bz:=Q01 ab 0);(try have bp:=Q00 ab 1 _ rfl);(try have bA:=Q01 ab 1);(try have bq:=Q00 ab 2 _ rfl);(try have bB:=Q01 ab 2);clear Y D al c aj j)|(have j:Below n.heap.size n ((n.alloc (.cells #[.int .i64 0,.slice none 0 0,.slice none 0 0] 29)).alloc (.cells #[.slice A 8 z] 51)):=(((Below.refl n.heap.size n).alloc (Kaq _) (.cells #[.int .i64 0,.slice none 0 0,.slice none 0 0] 29)).alloc (by simp) (.cells #[.slice A 8 z] 51));have c:ownL Q0E 51 ((n.alloc (.cells #[.int .i64 0,.slice none 0 0,.slice none 0 0] 29)).alloc (.cells #[.slice A 8 z] 51)) wr.heap.size (.slice (some ⟨n.heap.size+1,0,none⟩) 1 1) [(A,8,z)]:=Q04 (Q9F n (.cells #[.int .i64 0,.slice none 0 0,.slice none 0 0] 29) A 8 z _) (by(try simp) <;> omega);have aj:Below w.heap.size w ((n.alloc (.cells #[.int .i64 0,.slice none 0 0,.slice none 0 0] 29)).alloc (.cells #[.slice A 8 z] 51)):=a.out.trans ((r.mono a.out.size).trans (j.mono (Kdq a.out.size J)));refine Q0n Q5Z rfl (.tmp 90) (.tmp 92) rfl wr.heap.size (.slice (some ⟨n.heap.size+1,0,none⟩) 1 1) [(A,8,z)] rfl c oR cR w.heap.size d d.length rfl rfl aV (aI.out.kept (r.trans (j.mono J)) a.out.size) (by simp;omega) (by simp;omega) ?_;intro v4 x1 Y D al;have R:=Q2v c (Q03 Z j) (aa.kept j) Y D;obtain⟨g4,c4,e4⟩:=RingO.isSome R;subst e4;have s:Below wr.heap.size wr x1:=(r.trans (j.mono J)).grown D (by(try simp) <;> omega) (fun k h=>(c.lt k h).1);have bg:=s.size;have M:=bC s T I;have N:=bC s V I;have ac:=Q3O D (Q3P n #[.int .i64 0,.slice none 0 0,.slice none 0 0] 29 (.cells #[.slice A 8 z] 51)) (Nat.ne_of_lt (Nat.lt_succ_self _));(try have bs:=Q00 ac 0 _ rfl);(try have bD:=Q01 ac 0);(try have bt:=Q00 ac 1 _ rfl);(try have bE:=Q01 ac 1);(try have bu:=Q00 ac 2 _ rfl);(try have bG:=Q01 ac 2);clear Y D al c aj j)|(have j:Below n.heap.size n ((n.alloc (.cells #[.slice A 8 z] 51)).alloc (.cells #[.int .i64 0,.slice none 0 0,.slice none 0 0] 29)):=(((Below.refl n.heap.size n).alloc (Kaq _) (.cells #[.slice A 8 z] 51)).alloc (by simp) (.cells #[.int .i64 0,.slice none 0 0,.slice none 0 0] 29));have c:ownL Q0E 51 ((n.alloc (.cells #[.slice A 8 z] 51)).alloc (.cells #[.int .i64 0,.slice none 0 0,.slice none 0 0] 29)) wr.heap.size (.slice (some ⟨n.heap.size,0,none⟩) 1 1) [(A,8,z)]:=Q04 (World.ownsRow.alloc (Q4s n A 8 z _) (.cells #[.int .i64 0,.slice none 0 0,.slice none 0 0] 29)) (by(try simp) <;> omega);have aj:Below w.heap.size w ((n.alloc (.cells #[.slice A 8 z] 51)).alloc (.cells #[.int .i64 0,.slice none 0 0,.slice none 0 0] 29)):=a.out.trans ((r.mono a.out.size).trans (j.mono (Kdq a.out.size J)));refine Q0n Q5Z rfl (.tmp 90) (.tmp 92) rfl wr.heap.size (.slice (some ⟨n.heap.size,0,none⟩) 1 1) [(A,8,z)] rfl c oR cR w.heap.size d d.length rfl rfl aV (aI.out.kept (r.trans (j.mono J)) a.out.size) (by simp;omega) (by simp;omega) ?_;intro v4 x1 Y D al;have R:=Q2v c (Q03 Z j) (aa.kept j) Y D;obtain⟨g4,c4,e4⟩:=RingO.isSome R;subst e4;have s:Below wr.heap.size wr x1:=(r.trans (j.mono J)).grown D (by(try simp) <;> omega) (fun k h=>(c.lt k h).1);have bg:=s.size;have M:=bC s T I;have N:=bC s V I;have ad:=Q3O D (Q1P n #[.int .i64 0,.slice none 0 0,.slice none 0 0] 29 (.cells #[.slice A 8 z] 51)) (Nat.ne_of_gt (Nat.lt_succ_self _));(try have bv:=Q00 ad 0 _ rfl);(try have bH:=Q01 ad 0);(try have bw:=Q00 ad 1 _ rfl);(try have bI:=Q01 ad 1);(try have bx:=Q00 ad 2 _ rfl);(try have bJ:=Q01 ad 2);clear Y D al c aj j))
     all_goals (go_wp2_with fail;go_meet)
     all_goals first
      |with_reducible exact QfX ab s (by omega) R
      |with_reducible exact QfX ac s (by omega) R
      |with_reducible exact QfX ad s (by omega) R
      |with_reducible exact Qhu s R
    case rest=>
    obtain⟨B,v',rfl,P,O,ck,cl,Hr⟩:=hcut;obtain⟨g4,c4,e4⟩:=RingO.isSome Hr.out;subst e4;have bR:=RingO.cap Hr.out;have cn:=ZQ
    have q:w.heap.size+1+1 < wr.heap.size:=by omega
    have co:=O.out.size;have bc:=bC O.out aP q;have a2:=bF O.out (bF G.out FQ0 ZQ) q;have cf:=Q00 P.out 0 _ rfl;have bX:=Q01 P.out 0;have bd:=bC O.out aR q;have a3:=bF O.out (bF G.out FQ1 ZQ) q;have cg:=Q00 P.out 1 _ rfl;have bY:=Q01 P.out 1;have be:=bC O.out aT q;have a4:=bF O.out (bF G.out FQ2 ZQ) q;have ch:=Q00 P.out 2 _ rfl;have bZ:=Q01 P.out 2;clear T V aP aR aT;have aX:=Q02 (Q03 aH.out O.out);have aW:Hid (Below w.heap.size w wc):=a.out.trans (O.out.mono a.out.size)
    have ba:B≠w.heap.size+1+1:=by omega
    have E:w.heap.size+1+1≠B:=by omega
    by_cases h4:d.length=3
    ·skip
     have bO:(d.length:Int)=3:=by omega
     have ci:3<=c4:=by omega
     obtain⟨W5,H⟩:∃W,wc.setCell ⟨B,2,none⟩ (.slice (some ⟨g4,0,none⟩) 3 c4)=W:=⟨_,rfl⟩
     have ai:W5.heap[B]? =some (.cells #[.int .i64 key,.slice o2 m.length c2,.slice (some ⟨g4,0,none⟩) 3 c4] 29 (0,0)):=by rw[<-H];exact Q05 P.out 2 _
     have cc:=Q00 ai 0 _ rfl
     have bS:W5.cell? ⟨w.heap.size+1+1,0,none⟩=some (.int .i64 0):=by rw[<-H];exact(Q1h E).trans bc
     have b1:W5.frozen? ⟨w.heap.size+1+1,0,none⟩=false:=by rw[<-H];exact(Q0Q E).trans a2
     have cd:=Q00 ai 1 _ rfl
     have bT:W5.cell? ⟨w.heap.size+1+1,1,none⟩=some (.slice none 0 0):=by rw[<-H];exact(Q1h E).trans bd
     have b2:W5.frozen? ⟨w.heap.size+1+1,1,none⟩=false:=by rw[<-H];exact(Q0Q E).trans a3
     have ce:=Q00 ai 2 _ rfl
     have bU:W5.cell? ⟨w.heap.size+1+1,2,none⟩=some (.slice none 0 0):=by rw[<-H];exact(Q1h E).trans be
     have b3:W5.frozen? ⟨w.heap.size+1+1,2,none⟩=false:=by rw[<-H];exact(Q0Q E).trans a4
     have bM:Hid (Q1e W5 W0.heap.size (.slice o2 m.length c2) m):=by rw[<-H];exact Q0p aX.out P.out Q8b 2 _
     have bN:Hid (RingO W5 wr.heap.size (.slice (some ⟨g4,0,none⟩) (d.length+1) c4) (fun b=>Q14 key b m) d):=by rw[<-H];exact Hr.out.put P.out 2 _
     have bL:Hid (Below w.heap.size w W5):=by rw[<-H];exact aW.out.setCell (p:=⟨B,2,none⟩) (show w.heap.size<=B by have:=a.out.size;omega) _
     obtain⟨A,z,an,ao,ap,aq⟩:=((bN.out.low q 0 (.int .i64 key)).low q 1 (.slice o2 m.length c2)).low q 2 (.slice (some ⟨g4,0,none⟩) 3 c4);have aE:=Q02 ao;have aF:=Q02 ap;have aG:=Q02 aq;clear ao ap aq;go_wp2;refine bodyPost_ret (v:=.tuple #[plv key (.slice o2 m.length c2) (.slice (some ⟨g4,0,none⟩) 3 c4),.bool true]) (by simp[results,Tryz.results95,go_sem,bS,bT,bU]) rfl ?_;unfold Q6n;refine⟨o2,c2,some ⟨g4,0,none⟩,3,c4,A,z,an,rfl, ?_, ?_, ?_,Q04 aF.out (by omega),Tab.mono aG.out (by omega), ?_⟩
     ·simp;omega
     ·exact Q04 (Q0j (Q0j (Q0j bM.out ZQ 0 _) ZQ 1 _) ZQ 2 _) ah
     ·exact Q04 (Q7P aE.out (by simp;omega)) (by omega)
     ·exact((bL.out.setCell (p:=⟨w.heap.size+1+1,0,none⟩) (by(try simp) <;> omega) _).setCell (p:=⟨w.heap.size+1+1,1,none⟩) (by(try simp) <;> omega) _).setCell (p:=⟨w.heap.size+1+1,2,none⟩) (by(try simp) <;> omega) _
    ·skip
     have bO:¬((d.length:Int)+1 > 3):=by omega
     have cj:decide (3 < (d.length:Int)+1)=false:=decide_eq_false (by omega);obtain⟨A,z,an,ao,ap,aq⟩:=((Hr.out.low q 0 (.int .i64 key)).low q 1 (.slice o2 m.length c2)).low q 2 (.slice (some ⟨g4,0,none⟩) (d.length+1) c4);have aE:=Q02 ao;have aF:=Q02 ap;have aG:=Q02 aq;clear ao ap aq;go_wp2;refine bodyPost_ret (v:=.tuple #[plv key (.slice o2 m.length c2) (.slice (some ⟨g4,0,none⟩) (d.length+1) c4),.bool true]) (by simp[results,Tryz.results95,go_sem,bc,bd,be,ba,E]) rfl ?_;unfold Q6n
     refine⟨o2,c2,some ⟨g4,0,none⟩,(d.length+1),c4,A,z,an,rfl, ?_, ?_, ?_,Q04 aF.out (by omega),Tab.mono aG.out (by omega), ?_⟩
     ·simp;omega
     ·exact Q04 (Q0j (Q0j (Q0j aX.out ZQ 0 _) ZQ 1 _) ZQ 2 _) ah
     ·have e:((A,8,z)::d).take 3=(A,8,z)::d:=List.take_of_length_le (by simp;omega)
      rw[e];exact Q04 aE.out (by omega)
     ·exact((aW.out.setCell (p:=⟨w.heap.size+1+1,0,none⟩) (by(try simp) <;> omega) _).setCell (p:=⟨w.heap.size+1+1,1,none⟩) (by(try simp) <;> omega) _).setCell (p:=⟨w.heap.size+1+1,2,none⟩) (by(try simp) <;> omega) _
   |false=>
    have b7:s1++[(i,g,false)]=m:=ar.out;go_wp2_with (at_builtin;refine Q07 Q3U rfl (.tmp 75) (.tmp 81) rfl W0.heap.size _ _ rfl (World.ownsRow.alloc HO.out (.cells #[.int .i64 i,.int .i64 g,.bool false] 119)) (some ⟨wr.heap.size,0,none⟩) 1 (wr.alloc (.cells #[.int .i64 i,.int .i64 g,.bool false] 119)).heap.size [(i,g,false)] 1 rfl rfl (fun h=>by cases h) Q4i (by simp;omega) (by have:=af.out.size;simp;omega) ?_);intro vt wt ae ag _
    (try rw[b7]at ae)
    have aH:=Q02 ae;have G:=Q02 ((af.out.alloc af.out.size (.cells #[.int .i64 i,.int .i64 g,.bool false] 119)).grown ag (by have:=af.out.size;simp;omega) (fun k e=>(HO.out.lt k e).1));clear ae ag b7 ar HO bl bV bW bm af;obtain⟨o2,c2,e2,bf⟩:=ownL.open (L:=Q16) aH.out;have bQ:=Q02 (Q94 aH.out e2);subst e2;have aY:=Q02 bf;clear bf;have a:Hid (Below w.heap.size w wt):=HB.out.trans (G.out.mono ah);have b8:=G.out.size;have aI:=Q02 (HG.out.kept a.out (Kaq _));clear HG;have U:=bC G.out Z0 ZZ;have X:=bC G.out Z2 ZZ
    have aQ:=bC G.out Q0 ZQ;have aS:=bC G.out Q1 ZQ;have aU:=bC G.out Q2 ZQ
    have a9:m.length<=1000:=by omega
    go_upto_region 21 with fail
    go_cut [11]from 83 to 94 (fun s11 wx=> ∃B v',s11=.pointer (some ⟨B,0,none⟩)/\Hid (wx.heap[B]? =some (.cells #[.int .i64 key,.slice o2 m.length c2,v'] 29 (0,0)))/\Hid (Below wt.heap.size wt wx)/\wt.heap.size<=B/\B < wx.heap.size/\Hid (RingO wx wt.heap.size v' (fun b=>Q14 key b m) d))
    case first=>
     have I:w.heap.size < wt.heap.size:=by have:=ZZ;omega
     go_region_held3 (fun w'=>w'.cell? ⟨w.heap.size,0,none⟩=some (.int .i64 key)/\w'.cell? ⟨w.heap.size,2,none⟩=some (.slice oR d.length cR)) (first|with_reducible exact⟨M,N⟩|with_reducible exact⟨aC,aD⟩|with_reducible exact⟨U,X⟩|with_reducible exact⟨Q06 M (show w.heap.size < wt.heap.size by omega),Q06 N (show w.heap.size < wt.heap.size by omega)⟩|with_reducible exact⟨Q06 M (show w.heap.size < n.heap.size by omega),Q06 N (show w.heap.size < n.heap.size by omega)⟩|with_reducible exact⟨Q06 M (show w.heap.size < n.heap.size+1 by omega),Q06 N (show w.heap.size < n.heap.size+1 by omega)⟩|go_keep) (first|(go_at_call 102;have ak:=Q1x key o2 c2 m wt.drew ((aY.out.kept (KHq KBq) (Kaq _)).le (by simp)) a9 hk aO;with_reducible refine ak.mono ?_;clear ak;rintro e n ⟨A,z,an,rfl,Z,aa,hb⟩;have r:Below wt.heap.size wt n:=Below.trans (show Below wt.heap.size wt wt.drew from(KHq KBq)) (hb.mono (by simp));have J:=r.size;have Z:=Q04 Z (show wt.heap.size<=_ by simp);have aa:=Tab.mono aa (show wt.heap.size<=_ by simp);have aC:=bC r U I;have aD:=bC r X I;clear hb)|(go_at_call 102;have ak:=Q1x key o2 c2 m (wt.alloc (.cells #[.int .i64 0,.slice none 0 0,.slice none 0 0] 29)).drew ((aY.out.kept (KHq (KBq.alloc (Kaq _) _)) (Kaq _)).le (by simp)) a9 hk aO;with_reducible refine ak.mono ?_;clear ak;rintro e n ⟨A,z,an,rfl,Z,aa,hb⟩;have r:Below wt.heap.size wt n:=Below.trans (show Below wt.heap.size wt (wt.alloc (.cells #[.int .i64 0,.slice none 0 0,.slice none 0 0] 29)).drew from(KHq (KBq.alloc (Kaq _) _))) (hb.mono (by simp));have J:=r.size;have Z:=Q04 Z (show wt.heap.size<=_ by simp);have aa:=Tab.mono aa (show wt.heap.size<=_ by simp);have aC:=bC r U I;have aD:=bC r X I;have a6:=Q34 hb;have aB:=(KEq a6);clear hb)|(have j:Below n.heap.size n (n.alloc (.cells #[.slice A 8 z] 51)):=((Below.refl n.heap.size n).alloc (Kaq _) (.cells #[.slice A 8 z] 51));have c:ownL Q0E 51 (n.alloc (.cells #[.slice A 8 z] 51)) wt.heap.size (.slice (some ⟨n.heap.size,0,none⟩) 1 1) [(A,8,z)]:=Q04 (Q4s n A 8 z _) (by(try simp) <;> omega);have aj:Below w.heap.size w (n.alloc (.cells #[.slice A 8 z] 51)):=a.out.trans ((r.mono a.out.size).trans (j.mono (Kdq a.out.size J)));refine Q0n Q5Z rfl (.tmp 90) (.tmp 92) rfl wt.heap.size (.slice (some ⟨n.heap.size,0,none⟩) 1 1) [(A,8,z)] rfl c oR cR w.heap.size d d.length rfl rfl aV (aI.out.kept (r.trans (j.mono J)) a.out.size) (by simp;omega) (by simp;omega) ?_;intro v4 x1 Y D al;have R:=Q2v c (Q03 Z j) (aa.kept j) Y D;obtain⟨g4,c4,e4⟩:=RingO.isSome R;subst e4;have s:Below wt.heap.size wt x1:=(r.trans (j.mono J)).grown D (by(try simp) <;> omega) (fun k h=>(c.lt k h).1);have bg:=s.size;have M:=bC s U I;have N:=bC s X I;(try have ab:=Q3O D ((Below.heap_alloc _ _ _ aB).trans a6) (Nat.ne_of_lt aB));(try have bo:=Q00 ab 0 _ rfl);(try have bz:=Q01 ab 0);(try have bp:=Q00 ab 1 _ rfl);(try have bA:=Q01 ab 1);(try have bq:=Q00 ab 2 _ rfl);(try have bB:=Q01 ab 2);clear Y D al c aj j)|(have j:Below n.heap.size n ((n.alloc (.cells #[.int .i64 0,.slice none 0 0,.slice none 0 0] 29)).alloc (.cells #[.slice A 8 z] 51)):=(((Below.refl n.heap.size n).alloc (Kaq _) (.cells #[.int .i64 0,.slice none 0 0,.slice none 0 0] 29)).alloc (by simp) (.cells #[.slice A 8 z] 51));have c:ownL Q0E 51 ((n.alloc (.cells #[.int .i64 0,.slice none 0 0,.slice none 0 0] 29)).alloc (.cells #[.slice A 8 z] 51)) wt.heap.size (.slice (some ⟨n.heap.size+1,0,none⟩) 1 1) [(A,8,z)]:=Q04 (Q9F n (.cells #[.int .i64 0,.slice none 0 0,.slice none 0 0] 29) A 8 z _) (by(try simp) <;> omega);have aj:Below w.heap.size w ((n.alloc (.cells #[.int .i64 0,.slice none 0 0,.slice none 0 0] 29)).alloc (.cells #[.slice A 8 z] 51)):=a.out.trans ((r.mono a.out.size).trans (j.mono (Kdq a.out.size J)));refine Q0n Q5Z rfl (.tmp 90) (.tmp 92) rfl wt.heap.size (.slice (some ⟨n.heap.size+1,0,none⟩) 1 1) [(A,8,z)] rfl c oR cR w.heap.size d d.length rfl rfl aV (aI.out.kept (r.trans (j.mono J)) a.out.size) (by simp;omega) (by simp;omega) ?_;intro v4 x1 Y D al;have R:=Q2v c (Q03 Z j) (aa.kept j) Y D;obtain⟨g4,c4,e4⟩:=RingO.isSome R;subst e4;have s:Below wt.heap.size wt x1:=(r.trans (j.mono J)).grown D (by(try simp) <;> omega) (fun k h=>(c.lt k h).1);have bg:=s.size;have M:=bC s U I;have N:=bC s X I;have ac:=Q3O D (Q3P n #[.int .i64 0,.slice none 0 0,.slice none 0 0] 29 (.cells #[.slice A 8 z] 51)) (Nat.ne_of_lt (Nat.lt_succ_self _));(try have bs:=Q00 ac 0 _ rfl);(try have bD:=Q01 ac 0);(try have bt:=Q00 ac 1 _ rfl);(try have bE:=Q01 ac 1);(try have bu:=Q00 ac 2 _ rfl);(try have bG:=Q01 ac 2);clear Y D al c aj j)|(have j:Below n.heap.size n ((n.alloc (.cells #[.slice A 8 z] 51)).alloc (.cells #[.int .i64 0,.slice none 0 0,.slice none 0 0] 29)):=(((Below.refl n.heap.size n).alloc (Kaq _) (.cells #[.slice A 8 z] 51)).alloc (by simp) (.cells #[.int .i64 0,.slice none 0 0,.slice none 0 0] 29));have c:ownL Q0E 51 ((n.alloc (.cells #[.slice A 8 z] 51)).alloc (.cells #[.int .i64 0,.slice none 0 0,.slice none 0 0] 29)) wt.heap.size (.slice (some ⟨n.heap.size,0,none⟩) 1 1) [(A,8,z)]:=Q04 (World.ownsRow.alloc (Q4s n A 8 z _) (.cells #[.int .i64 0,.slice none 0 0,.slice none 0 0] 29)) (by(try simp) <;> omega);have aj:Below w.heap.size w ((n.alloc (.cells #[.slice A 8 z] 51)).alloc (.cells #[.int .i64 0,.slice none 0 0,.slice none 0 0] 29)):=a.out.trans ((r.mono a.out.size).trans (j.mono (Kdq a.out.size J)));refine Q0n Q5Z rfl (.tmp 90) (.tmp 92) rfl wt.heap.size (.slice (some ⟨n.heap.size,0,none⟩) 1 1) [(A,8,z)] rfl c oR cR w.heap.size d d.length rfl rfl aV (aI.out.kept (r.trans (j.mono J)) a.out.size) (by simp;omega) (by simp;omega) ?_;intro v4 x1 Y D al;have R:=Q2v c (Q03 Z j) (aa.kept j) Y D;obtain⟨g4,c4,e4⟩:=RingO.isSome R;subst e4;have s:Below wt.heap.size wt x1:=(r.trans (j.mono J)).grown D (by(try simp) <;> omega) (fun k h=>(c.lt k h).1);have bg:=s.size;have M:=bC s U I;have N:=bC s X I;have ad:=Q3O D (Q1P n #[.int .i64 0,.slice none 0 0,.slice none 0 0] 29 (.cells #[.slice A 8 z] 51)) (Nat.ne_of_gt (Nat.lt_succ_self _));(try have bv:=Q00 ad 0 _ rfl);(try have bH:=Q01 ad 0);(try have bw:=Q00 ad 1 _ rfl);(try have bI:=Q01 ad 1);(try have bx:=Q00 ad 2 _ rfl);(try have bJ:=Q01 ad 2);clear Y D al c aj j))
     all_goals (go_wp2_with fail;go_meet)
     all_goals first
      |with_reducible exact QfX ab s (by omega) R
      |with_reducible exact QfX ac s (by omega) R
      |with_reducible exact QfX ad s (by omega) R
      |with_reducible exact Qhu s R
    case rest=>
    obtain⟨B,v',rfl,P,O,ck,cl,Hr⟩:=hcut;obtain⟨g4,c4,e4⟩:=RingO.isSome Hr.out;subst e4;have bR:=RingO.cap Hr.out;have cn:=ZQ
    have q:w.heap.size+1+1 < wt.heap.size:=by omega
    have co:=O.out.size;have bc:=bC O.out aQ q;have a2:=bF O.out (bF G.out FQ0 ZQ) q;have cf:=Q00 P.out 0 _ rfl;have bX:=Q01 P.out 0;have bd:=bC O.out aS q;have a3:=bF O.out (bF G.out FQ1 ZQ) q;have cg:=Q00 P.out 1 _ rfl;have bY:=Q01 P.out 1;have be:=bC O.out aU q;have a4:=bF O.out (bF G.out FQ2 ZQ) q;have ch:=Q00 P.out 2 _ rfl;have bZ:=Q01 P.out 2;clear U X aQ aS aU;have aX:=Q02 (Q03 aH.out O.out);have aW:Hid (Below w.heap.size w wc):=a.out.trans (O.out.mono a.out.size)
    have ba:B≠w.heap.size+1+1:=by omega
    have E:w.heap.size+1+1≠B:=by omega
    by_cases h4:d.length=3
    ·skip
     have bO:(d.length:Int)=3:=by omega
     have ci:3<=c4:=by omega
     obtain⟨W5,H⟩:∃W,wc.setCell ⟨B,2,none⟩ (.slice (some ⟨g4,0,none⟩) 3 c4)=W:=⟨_,rfl⟩
     have ai:W5.heap[B]? =some (.cells #[.int .i64 key,.slice o2 m.length c2,.slice (some ⟨g4,0,none⟩) 3 c4] 29 (0,0)):=by rw[<-H];exact Q05 P.out 2 _
     have cc:=Q00 ai 0 _ rfl
     have bS:W5.cell? ⟨w.heap.size+1+1,0,none⟩=some (.int .i64 0):=by rw[<-H];exact(Q1h E).trans bc
     have b1:W5.frozen? ⟨w.heap.size+1+1,0,none⟩=false:=by rw[<-H];exact(Q0Q E).trans a2
     have cd:=Q00 ai 1 _ rfl
     have bT:W5.cell? ⟨w.heap.size+1+1,1,none⟩=some (.slice none 0 0):=by rw[<-H];exact(Q1h E).trans bd
     have b2:W5.frozen? ⟨w.heap.size+1+1,1,none⟩=false:=by rw[<-H];exact(Q0Q E).trans a3
     have ce:=Q00 ai 2 _ rfl
     have bU:W5.cell? ⟨w.heap.size+1+1,2,none⟩=some (.slice none 0 0):=by rw[<-H];exact(Q1h E).trans be
     have b3:W5.frozen? ⟨w.heap.size+1+1,2,none⟩=false:=by rw[<-H];exact(Q0Q E).trans a4
     have bM:Hid (Q1e W5 W0.heap.size (.slice o2 m.length c2) m):=by rw[<-H];exact Q0p aX.out P.out Q8b 2 _
     have bN:Hid (RingO W5 wt.heap.size (.slice (some ⟨g4,0,none⟩) (d.length+1) c4) (fun b=>Q14 key b m) d):=by rw[<-H];exact Hr.out.put P.out 2 _
     have bL:Hid (Below w.heap.size w W5):=by rw[<-H];exact aW.out.setCell (p:=⟨B,2,none⟩) (show w.heap.size<=B by have:=a.out.size;omega) _
     obtain⟨A,z,an,ao,ap,aq⟩:=((bN.out.low q 0 (.int .i64 key)).low q 1 (.slice o2 m.length c2)).low q 2 (.slice (some ⟨g4,0,none⟩) 3 c4);have aE:=Q02 ao;have aF:=Q02 ap;have aG:=Q02 aq;clear ao ap aq;go_wp2;refine bodyPost_ret (v:=.tuple #[plv key (.slice o2 m.length c2) (.slice (some ⟨g4,0,none⟩) 3 c4),.bool true]) (by simp[results,Tryz.results95,go_sem,bS,bT,bU]) rfl ?_;unfold Q6n;refine⟨o2,c2,some ⟨g4,0,none⟩,3,c4,A,z,an,rfl, ?_, ?_, ?_,Q04 aF.out (by omega),Tab.mono aG.out (by omega), ?_⟩
     ·simp;omega
     ·exact Q04 (Q0j (Q0j (Q0j bM.out ZQ 0 _) ZQ 1 _) ZQ 2 _) ah
     ·exact Q04 (Q7P aE.out (by simp;omega)) (by omega)
     ·exact((bL.out.setCell (p:=⟨w.heap.size+1+1,0,none⟩) (by(try simp) <;> omega) _).setCell (p:=⟨w.heap.size+1+1,1,none⟩) (by(try simp) <;> omega) _).setCell (p:=⟨w.heap.size+1+1,2,none⟩) (by(try simp) <;> omega) _
    ·skip
     have bO:¬((d.length:Int)+1 > 3):=by omega
     have cj:decide (3 < (d.length:Int)+1)=false:=decide_eq_false (by omega);obtain⟨A,z,an,ao,ap,aq⟩:=((Hr.out.low q 0 (.int .i64 key)).low q 1 (.slice o2 m.length c2)).low q 2 (.slice (some ⟨g4,0,none⟩) (d.length+1) c4);have aE:=Q02 ao;have aF:=Q02 ap;have aG:=Q02 aq;clear ao ap aq;go_wp2;refine bodyPost_ret (v:=.tuple #[plv key (.slice o2 m.length c2) (.slice (some ⟨g4,0,none⟩) (d.length+1) c4),.bool true]) (by simp[results,Tryz.results95,go_sem,bc,bd,be,ba,E]) rfl ?_;unfold Q6n
     refine⟨o2,c2,some ⟨g4,0,none⟩,(d.length+1),c4,A,z,an,rfl, ?_, ?_, ?_,Q04 aF.out (by omega),Tab.mono aG.out (by omega), ?_⟩
     ·simp;omega
     ·exact Q04 (Q0j (Q0j (Q0j aX.out ZQ 0 _) ZQ 1 _) ZQ 2 _) ah
     ·have e:((A,8,z)::d).take 3=(A,8,z)::d:=List.take_of_length_le (by simp;omega)
      rw[e];exact Q04 aE.out (by omega)
     ·exact((aW.out.setCell (p:=⟨w.heap.size+1+1,0,none⟩) (by(try simp) <;> omega) _).setCell (p:=⟨w.heap.size+1+1,1,none⟩) (by(try simp) <;> omega) _).setCell (p:=⟨w.heap.size+1+1,2,none⟩) (by(try simp) <;> omega) _
theorem Qfg (key:Int) (o:Option Addr) (cap:Nat) (l:List Bk) (oR:Option Addr) (cR:Nat) (f:List Hd) (k i g:Int) (pl:Nat) (m:List Bk) (w:World) (hk:Q1D key=true) (hl:Q0b l=true) (hc:Q0F k i g=true) (hm:doL l k i g=some m) (cc:l.length<=100) (hR:RdK w.heap.size w o l) (hG:RdL Q0E w.heap.size w oR f) (a8:oR=none->cR=0) (cs:f.length<=3) (bm:k≠0) (a7:(k==0)=false) (a9:pl=Q0h l i):
  Calls Tryz.prog 95 #[plv key (.slice o l.length cap) (.slice oR f.length cR),cmd k i g] w fun e w'=>Q6n key m f w e w':=by
 obtain⟨W0,ae⟩:∃W,(((w.alloc (.cells #[.int .i64 key,.slice o l.length cap,.slice oR f.length cR] 29)).alloc (.cells #[.int .i64 k,.int .i64 i,.int .i64 g] 77)).alloc (.cells #[.int .i64 0,.slice none 0 0,.slice none 0 0] 29))=W:=⟨_,rfl⟩;have aH:=alb0v0v3 ae;have HB:=Q02 aH;clear aH;have zz:=alz0v0v3 ae;obtain⟨z0,z1,z2⟩:=alc3v0v3 ae;have zu:=alz0v1v3 ae;obtain⟨u0,u1,u2⟩:=alc3v1v3 ae;have zr:=alz0v2v3 ae;obtain⟨r0,r1,r2⟩:=alc3v2v3 ae;obtain⟨bi,bj,bk⟩:=alf3v2v3 ae;have cg:=zr;have HR:=Q02 hR;have HG:=Q02 hG;have aC:=HB.out.size
 have HF:=Q02 (Q5S o cap l i W0 ((hR.kept HB.out (Kaq _)).le HB.out.size) (by omega) hl);have aA:=Q02 (Qe6 hl hc hm);have aR:=Q8W hl hc hm;have bY:=Q91 hm
 have bp:Q0A l i=true:=by rcases Q5O hm with⟨_,h,_⟩|⟨h,_⟩|⟨h,_⟩|⟨h,_⟩ <;> first|exact h|(exact absurd h bm)
 rw[Qci bp,<-a9]at HF aA
 have ct:(0:Int)<=(pl:Int):=by omega
 have b5:=Q02 a9;clear a9;clear hR hG hl hc;have aB:=Q02 (fun t=>Q95 (l:=l) (k:=k) (i:=i) (g:=g) (fi:=(pl:Int)) t);have Z0:=z0;have Z1:=z1;have Z2:=z2;have ZZ:=zz;have U0:=u0;have U1:=u1;have U2:=u2;have ZU:=zu;have Q0:=r0;have Q1:=r1;have Q2:=r2;have ZQ:=zr;have FQ0:=bi;have FQ1:=bj;have FQ2:=bk;go_enter Tryz.func95,Tryz.ntmps95;go_wp2_with fail;refine HF.out.mono ?_;rintro e w9 ⟨rfl,rfl⟩;go_wp2
 go_loopw [7,8,9] (fun lv pv tv wr=> ∃t:Nat,t<=l.length/\tv=.int .i64 (t:Int)/\pv=.bool (Q5e l k i g ((pl:Int)) t).2/\Hid (Q1e wr W0.heap.size lv (Q5e l k i g ((pl:Int)) t).1)/\Hid (Below W0.heap.size W0 wr))
  (fun _ _ tv _=>l.length - (intOf tv).toNat)
 case atStart=>exact⟨0,Kcq _,rfl,by simp[Q5e,a7,bm],KLq _ _ _ _,KBq⟩
 case round=>
  obtain⟨t,cx,rfl,rfl,HO,O⟩:=hrel;clear HF z0 z1 z2 u0 u1 u2 r0 r1 r2 bi bj bk zz zu zr ae;have aW:Hid (Below w.heap.size w wr):=HB.out.trans (O.out.mono aC)
  by_cases hlt:t < l.length
  ·skip
   have cd:(t:Int) < (l.length:Int):=by omega
   have cw:(0:Int)<=(t:Int):=by omega
   rcases HR.out with hR|⟨b,off,rfl,a6,aK⟩
   ·subst hR;simp at hlt
   obtain⟨c0,c1,c2⟩:=RdL.back (C:=w.heap.size) aK t hlt;replace c0:=(aW.out.cell (p:=⟨b,off+t * 3,none⟩) a6).trans c0;replace c1:=(aW.out.cell (p:=⟨b,off+t * 3+1,none⟩) a6).trans c1;replace c2:=(aW.out.cell (p:=⟨b,off+t * 3+2,none⟩) a6).trans c2;have aM:=Q5l l k i g ((pl:Int)) t;have R:=Q02 (show Q5e l k i g ((pl:Int)) (t+1)=Q4N k i g ((pl:Int)) (Q5e l k i g ((pl:Int)) t) t (l.getD t (0,0,false))from rfl);have J:=aB.out t;obtain⟨x,y,u,aS⟩:∃x y u,l.getD t (0,0,false)=(x,y,u):=⟨_,_,_,rfl⟩;rw[aS]at c0 c1 c2 R;dsimp only at c0 c1 c2;clear aS aK
   obtain⟨s1,s2,ak⟩:∃s1 s2,Q5e l k i g ((pl:Int)) t=(s1,s2):=⟨_,_,rfl⟩;rw[ak]at HO R aM J ⊢;dsimp only at HO aM J ⊢;clear ak aA aB;have bb:=bC O.out Z1 ZZ
   cases s2 with
   |false=>have:=J rfl;simp[a7]at this
   |true=>
    by_cases htp:t=pl
    ·subst htp
     have cf:((t:Int)==(t:Int))=true:=beq_self_eq_true _
     by_cases h3:k=3
     ·subst h3
      have c:=R.out;unfold Q4N at c;simp only[if_true,Bool.true_eq_false,false_and,if_false]at c;have M:=Q02 c;clear R c
      (try have H1:=Q02 h1)
      (try have H3:=Q02 h3)
      (try clear h1 h3)
      (try clear h3)
      obtain⟨W2,aq⟩:∃W,wr.alloc (.cells #[.int .i64 x,.int .i64 y,.bool u] 119)=W:=⟨_,rfl⟩
      have a:Hid (St W0 W2 u7 s1 wr.heap.size x y u):=by rw[<-aq];exact St.start HO.out O.out
      have az:=bC a.out.bel Z1 ZZ;have aw:=bC a.out.bel U0 ZU;have ax:=bC a.out.bel U1 ZU;have ay:=bC a.out.bel U2 ZU;have an:=Q00 a.out.box 0 _ rfl;have ao:=Q00 a.out.box 1 _ rfl;have ap:=Q00 a.out.box 2 _ rfl;have ab:=Q01 a.out.box 0;have ac:=Q01 a.out.box 1;have ad:=Q01 a.out.box 2;have N:=a;go_wp2;go_roundw
      case rel=>exact⟨t+1,by omega,by go_num,by rw[M.out],by rw[M.out];exact N.out.own,N.out.bel⟩
      case measure=>simp[intOf];omega
     ·have cn:(k==3)=false:=beq_eq_false_iff_ne.2 h3
      by_cases h1:k=1
      ·have bU:(k==1)=true:=beq_iff_eq.2 h1
       have c:=R.out;unfold Q4N at c;simp only[if_true,if_neg h3,if_pos h1,Bool.true_eq_false,false_and,if_false]at c;have M:=Q02 c;clear R c
       (try have H1:=Q02 h1)
       (try have H3:=Q02 h3)
       (try clear h1 h3)
       (try clear h3)
       obtain⟨W2,aq⟩:∃W,wr.alloc (.cells #[.int .i64 x,.int .i64 y,.bool u] 119)=W:=⟨_,rfl⟩
       have a:Hid (St W0 W2 u7 s1 wr.heap.size x y u):=by rw[<-aq];exact St.start HO.out O.out
       have az:=bC a.out.bel Z1 ZZ;have aw:=bC a.out.bel U0 ZU;have ax:=bC a.out.bel U1 ZU;have ay:=bC a.out.bel U2 ZU;have an:=Q00 a.out.box 0 _ rfl;have ao:=Q00 a.out.box 1 _ rfl;have ap:=Q00 a.out.box 2 _ rfl;have ab:=Q01 a.out.box 0;have ac:=Q01 a.out.box 1;have ad:=Q01 a.out.box 2;obtain⟨W4,a5⟩:∃W,W2.setCell ⟨wr.heap.size,1,none⟩ (.int .i64 g)=W:=⟨_,rfl⟩
       have D:Hid (St W0 W4 u7 s1 wr.heap.size x g u):=by rw[<-a5];exact a.out.put1 _
       have ba:=bC D.out.bel Z1 ZZ;have a2:=Q00 D.out.box 0 _ rfl;have a3:=Q00 D.out.box 1 _ rfl;have a4:=Q00 D.out.box 2 _ rfl;go_wp2_with (at_builtin;refine Q07 Q3U rfl (.tmp 69) (.tmp 71) rfl W0.heap.size _ _ rfl (World.ownsRow.alloc D.out.own (.cells #[.int .i64 x,.int .i64 g,.bool u] 119)) (some ⟨W4.heap.size,0,none⟩) 1 (W4.alloc (.cells #[.int .i64 x,.int .i64 g,.bool u] 119)).heap.size [(x,g,u)] 1 rfl rfl (fun h=>by cases h) Q4i (by simp;omega) (by have:=D.out.bel.size;simp;omega) ?_);intro v6 w6 aj ag ah;have N:=Q02 (D.out.app aj ag ah)
       clear aj ag ah;go_wp2;go_roundw
       case rel=>exact⟨t+1,by omega,by go_num,by rw[M.out],by rw[M.out];exact N.out.own,N.out.bel⟩
       case measure=>simp[intOf];omega
      ·have bU:(k==1)=false:=beq_eq_false_iff_ne.2 h1
       have c:=R.out;unfold Q4N at c;simp only[if_true,if_neg h3,if_neg h1,Bool.true_eq_false,false_and,if_false]at c;have M:=Q02 c;clear R c
       (try have H1:=Q02 h1)
       (try have H3:=Q02 h3)
       (try clear h1 h3)
       (try clear h3)
       obtain⟨W2,aq⟩:∃W,wr.alloc (.cells #[.int .i64 x,.int .i64 y,.bool u] 119)=W:=⟨_,rfl⟩
       have a:Hid (St W0 W2 u7 s1 wr.heap.size x y u):=by rw[<-aq];exact St.start HO.out O.out
       have az:=bC a.out.bel Z1 ZZ;have aw:=bC a.out.bel U0 ZU;have ax:=bC a.out.bel U1 ZU;have ay:=bC a.out.bel U2 ZU;have an:=Q00 a.out.box 0 _ rfl;have ao:=Q00 a.out.box 1 _ rfl;have ap:=Q00 a.out.box 2 _ rfl;have ab:=Q01 a.out.box 0;have ac:=Q01 a.out.box 1;have ad:=Q01 a.out.box 2;obtain⟨W4,a5⟩:∃W,W2.setCell ⟨wr.heap.size,2,none⟩ (.bool true)=W:=⟨_,rfl⟩
       have D:Hid (St W0 W4 u7 s1 wr.heap.size x y true):=by rw[<-a5];exact a.out.put2 _
       have ba:=bC D.out.bel Z1 ZZ;have a2:=Q00 D.out.box 0 _ rfl;have a3:=Q00 D.out.box 1 _ rfl;have a4:=Q00 D.out.box 2 _ rfl;go_wp2_with (at_builtin;refine Q07 Q3U rfl (.tmp 69) (.tmp 71) rfl W0.heap.size _ _ rfl (World.ownsRow.alloc D.out.own (.cells #[.int .i64 x,.int .i64 y,.bool true] 119)) (some ⟨W4.heap.size,0,none⟩) 1 (W4.alloc (.cells #[.int .i64 x,.int .i64 y,.bool true] 119)).heap.size [(x,y,true)] 1 rfl rfl (fun h=>by cases h) Q4i (by simp;omega) (by have:=D.out.bel.size;simp;omega) ?_);intro v6 w6 aj ag ah;have N:=Q02 (D.out.app aj ag ah)
       clear aj ag ah;go_wp2;go_roundw
       case rel=>exact⟨t+1,by omega,by go_num,by rw[M.out],by rw[M.out];exact N.out.own,N.out.bel⟩
       case measure=>simp[intOf];omega
    ·have cu:((t:Int)==(pl:Int))=false:=beq_eq_false_iff_ne.2 (by omega)
     have I:¬((t:Int)=(pl:Int)):=by omega
     have c:=R.out;unfold Q4N at c;simp only[I,Bool.true_eq_false,false_and,if_false]at c;have M:=Q02 c;clear R c
     (try have H1:=Q02 h1)
     (try have H3:=Q02 h3)
     (try clear h1 h3)
     (try clear h3)
     obtain⟨W2,aq⟩:∃W,wr.alloc (.cells #[.int .i64 x,.int .i64 y,.bool u] 119)=W:=⟨_,rfl⟩
     have a:Hid (St W0 W2 u7 s1 wr.heap.size x y u):=by rw[<-aq];exact St.start HO.out O.out
     have az:=bC a.out.bel Z1 ZZ;have aw:=bC a.out.bel U0 ZU;have ax:=bC a.out.bel U1 ZU;have ay:=bC a.out.bel U2 ZU;have an:=Q00 a.out.box 0 _ rfl;have ao:=Q00 a.out.box 1 _ rfl;have ap:=Q00 a.out.box 2 _ rfl;have ab:=Q01 a.out.box 0;have ac:=Q01 a.out.box 1;have ad:=Q01 a.out.box 2
     go_wp2_with (at_builtin;refine Q07 Q3U rfl (.tmp 69) (.tmp 71) rfl W0.heap.size _ _ rfl (World.ownsRow.alloc a.out.own (.cells #[.int .i64 x,.int .i64 y,.bool u] 119)) (some ⟨W2.heap.size,0,none⟩) 1 (W2.alloc (.cells #[.int .i64 x,.int .i64 y,.bool u] 119)).heap.size [(x,y,u)] 1 rfl rfl (fun h=>by cases h) Q4i (by simp;omega) (by have:=a.out.bel.size;simp;omega) ?_);intro v6 w6 aj ag ah;have N:=Q02 (a.out.app aj ag ah);clear aj ag ah;go_wp2;go_roundw
     case rel=>exact⟨t+1,by omega,by go_num,by rw[M.out],by rw[M.out];exact N.out.own,N.out.bel⟩
     case measure=>simp[intOf];omega
  ·have e:t=l.length:=by omega
   subst e;obtain⟨s1,s2,ak⟩:∃s1 s2,Q5e l k i g ((pl:Int)) l.length=(s1,s2):=⟨_,_,rfl⟩;have aM:=Q5l l k i g ((pl:Int)) l.length;have J:=aB.out l.length;rw[ak]at HO aA aM J ⊢;dsimp only at HO aM J ⊢;clear ak aB hlt;have bb:=bC O.out Z1 ZZ;have b3:=bC O.out U1 ZU;have b4:=bC O.out U2 ZU
   cases s2 with
   |true=>
    obtain rfl:m=s1:=aA.out.symm;have a0:=HO;have P:=O;obtain⟨o2,c2,e2,bu⟩:=ownL.open (L:=Q16) a0.out;have bW:=Q02 (Q94 a0.out e2);subst e2;have be:=Q02 bu;clear bu J;have d:Hid (Below w.heap.size w wr):=HB.out.trans (P.out.mono aC);have ce:=P.out.size;have a1:=Q02 (HG.out.kept d.out (Kaq _));clear HG;have r:=bC P.out Z0 ZZ;have s:=bC P.out Z2 ZZ;have aD:=bC P.out Q0 ZQ;have aE:=bC P.out Q1 ZQ;have aF:=bC P.out Q2 ZQ
    have bn:m.length<=1000:=by omega
    go_upto_region 21 with fail
    go_cut [11]from 83 to 94 (fun s11 wx=> ∃B v',s11=.pointer (some ⟨B,0,none⟩)/\Hid (wx.heap[B]? =some (.cells #[.int .i64 key,.slice o2 m.length c2,v'] 29 (0,0)))/\Hid (Below wr.heap.size wr wx)/\wr.heap.size<=B/\B < wx.heap.size/\Hid (RingO wx wr.heap.size v' (fun b=>Q14 key b m) f))
    case first=>
     have U:w.heap.size < wr.heap.size:=by have:=ZZ;omega
     go_region_held3 (fun w'=>w'.cell? ⟨w.heap.size,0,none⟩=some (.int .i64 key)/\w'.cell? ⟨w.heap.size,2,none⟩=some (.slice oR f.length cR)) (first|with_reducible exact⟨X,Y⟩|with_reducible exact⟨aU,aV⟩|with_reducible exact⟨r,s⟩|with_reducible exact⟨Q06 X (show w.heap.size < wr.heap.size by omega),Q06 Y (show w.heap.size < wr.heap.size by omega)⟩|with_reducible exact⟨Q06 X (show w.heap.size < q.heap.size by omega),Q06 Y (show w.heap.size < q.heap.size by omega)⟩|with_reducible exact⟨Q06 X (show w.heap.size < q.heap.size+1 by omega),Q06 Y (show w.heap.size < q.heap.size+1 by omega)⟩|go_keep) (first|(go_at_call 102;have aJ:=Q1x key o2 c2 m wr.drew ((be.out.kept (KHq KBq) (Kaq _)).le (by simp)) bn hk aR;with_reducible refine aJ.mono ?_;clear aJ;rintro e q ⟨G,F,aN,rfl,al,am,hb⟩;have A:Below wr.heap.size wr q:=Below.trans (show Below wr.heap.size wr wr.drew from(KHq KBq)) (hb.mono (by simp));have V:=A.size;have al:=Q04 al (show wr.heap.size<=_ by simp);have am:=Tab.mono am (show wr.heap.size<=_ by simp);have aU:=bC A r U;have aV:=bC A s U;clear hb)|(go_at_call 102;have aJ:=Q1x key o2 c2 m (wr.alloc (.cells #[.int .i64 0,.slice none 0 0,.slice none 0 0] 29)).drew ((be.out.kept (KHq (KBq.alloc (Kaq _) _)) (Kaq _)).le (by simp)) bn hk aR;with_reducible refine aJ.mono ?_;clear aJ;rintro e q ⟨G,F,aN,rfl,al,am,hb⟩;have A:Below wr.heap.size wr q:=Below.trans (show Below wr.heap.size wr (wr.alloc (.cells #[.int .i64 0,.slice none 0 0,.slice none 0 0] 29)).drew from(KHq (KBq.alloc (Kaq _) _))) (hb.mono (by simp));have V:=A.size;have al:=Q04 al (show wr.heap.size<=_ by simp);have am:=Tab.mono am (show wr.heap.size<=_ by simp);have aU:=bC A r U;have aV:=bC A s U;have bl:=Q34 hb;have aT:=(KEq bl);clear hb)|(have n:Below q.heap.size q (q.alloc (.cells #[.slice G 8 F] 51)):=((Below.refl q.heap.size q).alloc (Kaq _) (.cells #[.slice G 8 F] 51));have j:ownL Q0E 51 (q.alloc (.cells #[.slice G 8 F] 51)) wr.heap.size (.slice (some ⟨q.heap.size,0,none⟩) 1 1) [(G,8,F)]:=Q04 (Q4s q G 8 F _) (by(try simp) <;> omega);have aI:Below w.heap.size w (q.alloc (.cells #[.slice G 8 F] 51)):=d.out.trans ((A.mono d.out.size).trans (n.mono (Kdq d.out.size V)));refine Q0n Q5Z rfl (.tmp 90) (.tmp 92) rfl wr.heap.size (.slice (some ⟨q.heap.size,0,none⟩) 1 1) [(G,8,F)] rfl j oR cR w.heap.size f f.length rfl rfl a8 (a1.out.kept (A.trans (n.mono V)) d.out.size) (by simp;omega) (by simp;omega) ?_;intro v4 x1 ai H aL;have af:=Q2v j (Q03 al n) (am.kept n) ai H;obtain⟨g4,c4,e4⟩:=RingO.isSome af;subst e4;have E:Below wr.heap.size wr x1:=(A.trans (n.mono V)).grown H (by(try simp) <;> omega) (fun k h=>(j.lt k h).1);have bv:=E.size;have X:=bC E r U;have Y:=bC E s U;(try have ar:=Q3O H ((Below.heap_alloc _ _ _ aT).trans bl) (Nat.ne_of_lt aT));(try have bw:=Q00 ar 0 _ rfl);(try have bI:=Q01 ar 0);(try have bx:=Q00 ar 1 _ rfl);(try have bJ:=Q01 ar 1);(try have bz:=Q00 ar 2 _ rfl);(try have bK:=Q01 ar 2);clear ai H aL j aI n)|(have n:Below q.heap.size q ((q.alloc (.cells #[.int .i64 0,.slice none 0 0,.slice none 0 0] 29)).alloc (.cells #[.slice G 8 F] 51)):=(((Below.refl q.heap.size q).alloc (Kaq _) (.cells #[.int .i64 0,.slice none 0 0,.slice none 0 0] 29)).alloc (by simp) (.cells #[.slice G 8 F] 51));have j:ownL Q0E 51 ((q.alloc (.cells #[.int .i64 0,.slice none 0 0,.slice none 0 0] 29)).alloc (.cells #[.slice G 8 F] 51)) wr.heap.size (.slice (some ⟨q.heap.size+1,0,none⟩) 1 1) [(G,8,F)]:=Q04 (Q9F q (.cells #[.int .i64 0,.slice none 0 0,.slice none 0 0] 29) G 8 F _) (by(try simp) <;> omega);have aI:Below w.heap.size w ((q.alloc (.cells #[.int .i64 0,.slice none 0 0,.slice none 0 0] 29)).alloc (.cells #[.slice G 8 F] 51)):=d.out.trans ((A.mono d.out.size).trans (n.mono (Kdq d.out.size V)));refine Q0n Q5Z rfl (.tmp 90) (.tmp 92) rfl wr.heap.size (.slice (some ⟨q.heap.size+1,0,none⟩) 1 1) [(G,8,F)] rfl j oR cR w.heap.size f f.length rfl rfl a8 (a1.out.kept (A.trans (n.mono V)) d.out.size) (by simp;omega) (by simp;omega) ?_;intro v4 x1 ai H aL;have af:=Q2v j (Q03 al n) (am.kept n) ai H;obtain⟨g4,c4,e4⟩:=RingO.isSome af;subst e4;have E:Below wr.heap.size wr x1:=(A.trans (n.mono V)).grown H (by(try simp) <;> omega) (fun k h=>(j.lt k h).1);have bv:=E.size;have X:=bC E r U;have Y:=bC E s U;have au:=Q3O H (Q3P q #[.int .i64 0,.slice none 0 0,.slice none 0 0] 29 (.cells #[.slice G 8 F] 51)) (Nat.ne_of_lt (Nat.lt_succ_self _));(try have bA:=Q00 au 0 _ rfl);(try have bL:=Q01 au 0);(try have bB:=Q00 au 1 _ rfl);(try have bM:=Q01 au 1);(try have bD:=Q00 au 2 _ rfl);(try have bN:=Q01 au 2);clear ai H aL j aI n)|(have n:Below q.heap.size q ((q.alloc (.cells #[.slice G 8 F] 51)).alloc (.cells #[.int .i64 0,.slice none 0 0,.slice none 0 0] 29)):=(((Below.refl q.heap.size q).alloc (Kaq _) (.cells #[.slice G 8 F] 51)).alloc (by simp) (.cells #[.int .i64 0,.slice none 0 0,.slice none 0 0] 29));have j:ownL Q0E 51 ((q.alloc (.cells #[.slice G 8 F] 51)).alloc (.cells #[.int .i64 0,.slice none 0 0,.slice none 0 0] 29)) wr.heap.size (.slice (some ⟨q.heap.size,0,none⟩) 1 1) [(G,8,F)]:=Q04 (World.ownsRow.alloc (Q4s q G 8 F _) (.cells #[.int .i64 0,.slice none 0 0,.slice none 0 0] 29)) (by(try simp) <;> omega);have aI:Below w.heap.size w ((q.alloc (.cells #[.slice G 8 F] 51)).alloc (.cells #[.int .i64 0,.slice none 0 0,.slice none 0 0] 29)):=d.out.trans ((A.mono d.out.size).trans (n.mono (Kdq d.out.size V)));refine Q0n Q5Z rfl (.tmp 90) (.tmp 92) rfl wr.heap.size (.slice (some ⟨q.heap.size,0,none⟩) 1 1) [(G,8,F)] rfl j oR cR w.heap.size f f.length rfl rfl a8 (a1.out.kept (A.trans (n.mono V)) d.out.size) (by simp;omega) (by simp;omega) ?_;intro v4 x1 ai H aL;have af:=Q2v j (Q03 al n) (am.kept n) ai H;obtain⟨g4,c4,e4⟩:=RingO.isSome af;subst e4;have E:Below wr.heap.size wr x1:=(A.trans (n.mono V)).grown H (by(try simp) <;> omega) (fun k h=>(j.lt k h).1);have bv:=E.size;have X:=bC E r U;have Y:=bC E s U;have av:=Q3O H (Q1P q #[.int .i64 0,.slice none 0 0,.slice none 0 0] 29 (.cells #[.slice G 8 F] 51)) (Nat.ne_of_gt (Nat.lt_succ_self _));(try have bE:=Q00 av 0 _ rfl);(try have bO:=Q01 av 0);(try have bG:=Q00 av 1 _ rfl);(try have bP:=Q01 av 1);(try have bH:=Q00 av 2 _ rfl);(try have bQ:=Q01 av 2);clear ai H aL j aI n))
     all_goals (go_wp2_with fail;go_meet)
     all_goals first
      |with_reducible exact QfX ar E (by omega) af
      |with_reducible exact QfX au E (by omega) af
      |with_reducible exact QfX av E (by omega) af
      |with_reducible exact Qhu E af
    case rest=>
    obtain⟨B,v',rfl,aa,Z,cq,cr,Hr⟩:=hcut;obtain⟨g4,c4,e4⟩:=RingO.isSome Hr.out;subst e4;have bX:=RingO.cap Hr.out;have cv:=ZQ
    have z:w.heap.size+1+1 < wr.heap.size:=by omega
    have cy:=Z.out.size;have bq:=bC Z.out aD z;have bf:=bF Z.out (bF P.out FQ0 ZQ) z;have ck:=Q00 aa.out 0 _ rfl;have b6:=Q01 aa.out 0;have bs:=bC Z.out aE z;have bg:=bF Z.out (bF P.out FQ1 ZQ) z;have cl:=Q00 aa.out 1 _ rfl;have b7:=Q01 aa.out 1;have bt:=bC Z.out aF z;have bh:=bF Z.out (bF P.out FQ2 ZQ) z;have cm:=Q00 aa.out 2 _ rfl;have b8:=Q01 aa.out 2;clear r s aD aE aF;have bd:=Q02 (Q03 a0.out Z.out);have bc:Hid (Below w.heap.size w wc):=d.out.trans (Z.out.mono d.out.size)
    have bo:B≠w.heap.size+1+1:=by omega
    have I:w.heap.size+1+1≠B:=by omega
    by_cases h4:f.length=3
    ·skip
     have bV:(f.length:Int)=3:=by omega
     have co:3<=c4:=by omega
     obtain⟨W5,T⟩:∃W,wc.setCell ⟨B,2,none⟩ (.slice (some ⟨g4,0,none⟩) 3 c4)=W:=⟨_,rfl⟩
     have aG:W5.heap[B]? =some (.cells #[.int .i64 key,.slice o2 m.length c2,.slice (some ⟨g4,0,none⟩) 3 c4] 29 (0,0)):=by rw[<-T];exact Q05 aa.out 2 _
     have ch:=Q00 aG 0 _ rfl
     have bZ:W5.cell? ⟨w.heap.size+1+1,0,none⟩=some (.int .i64 0):=by rw[<-T];exact(Q1h I).trans bq
     have b9:W5.frozen? ⟨w.heap.size+1+1,0,none⟩=false:=by rw[<-T];exact(Q0Q I).trans bf
     have ci:=Q00 aG 1 _ rfl
     have b1:W5.cell? ⟨w.heap.size+1+1,1,none⟩=some (.slice none 0 0):=by rw[<-T];exact(Q1h I).trans bs
     have ca:W5.frozen? ⟨w.heap.size+1+1,1,none⟩=false:=by rw[<-T];exact(Q0Q I).trans bg
     have cj:=Q00 aG 2 _ rfl
     have b2:W5.cell? ⟨w.heap.size+1+1,2,none⟩=some (.slice none 0 0):=by rw[<-T];exact(Q1h I).trans bt
     have cb:W5.frozen? ⟨w.heap.size+1+1,2,none⟩=false:=by rw[<-T];exact(Q0Q I).trans bh
     have bS:Hid (Q1e W5 W0.heap.size (.slice o2 m.length c2) m):=by rw[<-T];exact Q0p bd.out aa.out Q8b 2 _
     have bT:Hid (RingO W5 wr.heap.size (.slice (some ⟨g4,0,none⟩) (f.length+1) c4) (fun b=>Q14 key b m) f):=by rw[<-T];exact Hr.out.put aa.out 2 _
     have bR:Hid (Below w.heap.size w W5):=by rw[<-T];exact bc.out.setCell (p:=⟨B,2,none⟩) (show w.heap.size<=B by have:=d.out.size;omega) _
     obtain⟨G,F,aN,aO,aP,aQ⟩:=((bT.out.low z 0 (.int .i64 key)).low z 1 (.slice o2 m.length c2)).low z 2 (.slice (some ⟨g4,0,none⟩) 3 c4);have aX:=Q02 aO;have aY:=Q02 aP;have aZ:=Q02 aQ;clear aO aP aQ;go_wp2;refine bodyPost_ret (v:=.tuple #[plv key (.slice o2 m.length c2) (.slice (some ⟨g4,0,none⟩) 3 c4),.bool true]) (by simp[results,Tryz.results95,go_sem,bZ,b1,b2]) rfl ?_;unfold Q6n;refine⟨o2,c2,some ⟨g4,0,none⟩,3,c4,G,F,aN,rfl, ?_, ?_, ?_,Q04 aY.out (by omega),Tab.mono aZ.out (by omega), ?_⟩
     ·simp;omega
     ·exact Q04 (Q0j (Q0j (Q0j bS.out ZQ 0 _) ZQ 1 _) ZQ 2 _) aC
     ·exact Q04 (Q7P aX.out (by simp;omega)) (by omega)
     ·exact((bR.out.setCell (p:=⟨w.heap.size+1+1,0,none⟩) (by(try simp) <;> omega) _).setCell (p:=⟨w.heap.size+1+1,1,none⟩) (by(try simp) <;> omega) _).setCell (p:=⟨w.heap.size+1+1,2,none⟩) (by(try simp) <;> omega) _
    ·skip
     have bV:¬((f.length:Int)+1 > 3):=by omega
     have cp:decide (3 < (f.length:Int)+1)=false:=decide_eq_false (by omega);obtain⟨G,F,aN,aO,aP,aQ⟩:=((Hr.out.low z 0 (.int .i64 key)).low z 1 (.slice o2 m.length c2)).low z 2 (.slice (some ⟨g4,0,none⟩) (f.length+1) c4);have aX:=Q02 aO;have aY:=Q02 aP;have aZ:=Q02 aQ;clear aO aP aQ;go_wp2;refine bodyPost_ret (v:=.tuple #[plv key (.slice o2 m.length c2) (.slice (some ⟨g4,0,none⟩) (f.length+1) c4),.bool true]) (by simp[results,Tryz.results95,go_sem,bq,bs,bt,bo,I]) rfl ?_;unfold Q6n
     refine⟨o2,c2,some ⟨g4,0,none⟩,(f.length+1),c4,G,F,aN,rfl, ?_, ?_, ?_,Q04 aY.out (by omega),Tab.mono aZ.out (by omega), ?_⟩
     ·simp;omega
     ·exact Q04 (Q0j (Q0j (Q0j bd.out ZQ 0 _) ZQ 1 _) ZQ 2 _) aC
     ·have e:((G,8,F)::f).take 3=(G,8,F)::f:=List.take_of_length_le (by simp;omega)
      rw[e];exact Q04 aX.out (by omega)
     ·exact((bc.out.setCell (p:=⟨w.heap.size+1+1,0,none⟩) (by(try simp) <;> omega) _).setCell (p:=⟨w.heap.size+1+1,1,none⟩) (by(try simp) <;> omega) _).setCell (p:=⟨w.heap.size+1+1,2,none⟩) (by(try simp) <;> omega) _
   |false=>
    have:=J rfl;simp[a7]at this
structure Pm where
 key:Int
 l:List Bk
 ring:List (List (List Int))
def RiPm (lo hi:Nat) (w:World) (v:Value) (m:Pm):Prop:=∃vb vr,v=plv m.key vb vr/\RiV Q16 lo hi w vb m.l/\RiR lo hi w vr m.ring
abbrev Q4P (C:Nat) (w:World) (v:Value) (m:Pm):Prop:=RiPm 0 C w v m
def InPm (lo hi:Nat) (w:World) (v:Value) (m:Pm):Prop:=∃vb vr mid,v=plv m.key vb vr/\lo<=mid/\mid<=hi/\InL Q16 119 lo mid w vb m.l/\InR mid hi w vr m.ring
theorem RiPm.step {a b lo hi:Nat} {w d:World} {v:Value} {m:Pm} (h:RiPm a b w v m) (s:Stp lo hi w d) (c:hi<=a\/b<=lo):RiPm a b d v m:=by
 obtain⟨g,i,e,f,h2⟩:=h;exact⟨g,i,e,f.step s c,RiR.stp.go h2 s c⟩
theorem RiPm.mono {a b a' b':Nat} {w:World} {v:Value} {m:Pm} (h:RiPm a b w v m) (k1:a'<=a) (k2:b<=b'):RiPm a' b' w v m:=by
 obtain⟨vb,vr,e,h1,h2⟩:=h;exact⟨vb,vr,e,h1.mono k1 k2,RiR.mon.go h2 k1 k2⟩
theorem RiPm.rd {lo hi:Nat} {w:World} {v:Value} {m:Pm} (h:RiPm lo hi w v m):Q4P hi w v m:=h.mono (Kcq _) (Kaq _)
theorem RiPm.le {lo C D:Nat} {w:World} {v:Value} {m:Pm} (h:RiPm lo C w v m) (hc:C<=D):RiPm lo D w v m:=h.mono (Kaq _) hc
theorem RiPm.kept {lo C D:Nat} {w b:World} {v:Value} {m:Pm} (h:RiPm lo C w v m) (a:Below D w b) (c:C<=D):RiPm lo C b v m:=
 h.step (lo:=C) (hi:=w.heap.size+C) ⟨a.os,a.tape,a.output,a.size,fun k d f=>a.block k (by omega)⟩ (.inr (Kaq _))
theorem InPm.step {a b lo hi:Nat} {w d:World} {v:Value} {m:Pm} (h:InPm a b w v m) (s:Stp lo hi w d) (l:hi<=a\/b<=lo):InPm a b d v m:=by
 obtain⟨j,k,c,e,g,i,f,h2⟩:=h;exact⟨j,k,c,e,g,i,InRow.step f s (by omega),InR.stp.go h2 s (by omega)⟩
theorem InPm.ri {lo hi:Nat} {w:World} {v:Value} {m:Pm} (h:InPm lo hi w v m):RiPm lo hi w v m:=by
 obtain⟨f,g,d,e,b,c,a,h2⟩:=h;exact⟨f,g,e,(InRow.ri a).mono (Kaq _) c,RiR.mon.go (InR.ri h2) b (Kaq _)⟩
theorem InPm.rd {lo hi:Nat} {w:World} {v:Value} {m:Pm} (h:InPm lo hi w v m):Q4P hi w v m:=h.ri.rd
theorem RiR.len {lo hi:Nat} {w:World} {v:Value} {lll:List (List (List Int))} (h:RiR lo hi w v lll):∃o c,v=.slice o lll.length c:=by
 obtain⟨hs,h0,⟨o,c,e,_⟩,_⟩:=h;exact⟨o,c,by rw[e,h0]⟩
theorem RiPm.opn {lo hi:Nat} {w:World} {v:Value} {m:Pm} (h:RiPm lo hi w v m):∃(o:Option Addr) (c:Nat) (b:Option Addr) (a:Nat),v=plv m.key (.slice o m.l.length c) (.slice b m.ring.length a):=by
 obtain⟨g,i,e,⟨o,c,d,_⟩,h2⟩:=h;obtain⟨b,a,f⟩:=RiR.len h2;exact⟨o,c,b,a,by rw[e,d,f]⟩
theorem InPm.opn {lo hi:Nat} {w:World} {v:Value} {m:Pm} (h:InPm lo hi w v m):∃(o:Option Addr) (c:Nat) (b:Option Addr) (a:Nat),v=plv m.key (.slice o m.l.length c) (.slice b m.ring.length a):=h.ri.opn
def Q2q (m:Pm):Prop:=m.l.length<=1048576/\m.ring.length<=1048576/\szR m.ring<=1048576/\(∀i,i < m.ring.length->(m.ring.getD i []).length<=1048576)/\∀i,i < m.ring.length->∀j,j < (m.ring.getD i []).length->((m.ring.getD i []).getD j []).length<=1048576
def Q1I (m1 m2:Pm):Bool:=decide (m1.key=m2.key) && decide (m1.l=m2.l) && Q1d m1.ring m2.ring
theorem Q6N (D N:Value) (c d:Pm) (w:World) (h1:Q4P w.heap.size w D c) (h2:Q4P w.heap.size w N d) (I:Q2q c) (J:Q2q d):
  Calls Tryz.prog 86 #[D,N] w fun e w'=>e=.returned (.bool (Q1I c d))/\Below w.heap.size w w':=by
 obtain⟨aa,ac,rfl,y,L⟩:=h1;obtain⟨ab,ad,rfl,z,M⟩:=h2;obtain⟨o1,R,rfl,Y⟩:=y.open;obtain⟨o2,c2,rfl,Z⟩:=z.open;obtain⟨B,u,rfl⟩:=RiR.len L;obtain⟨C,v,rfl⟩:=RiR.len M;obtain⟨f1,f2,f3,T,U⟩:=I;obtain⟨g1,g2,g3,V,X⟩:=J;have b:=Q02 (show Q1I c d=(decide (c.key=d.key) && decide (c.l=d.l) && Q1d c.ring d.ring)from rfl);obtain⟨p1,q⟩:∃x,c.key=x:=⟨_,rfl⟩;obtain⟨p2,r⟩:∃x,d.key=x:=⟨_,rfl⟩;obtain⟨O,h⟩:∃x,c.l.length=x:=⟨_,rfl⟩;obtain⟨P,i⟩:∃x,d.l.length=x:=⟨_,rfl⟩;obtain⟨q1,k⟩:∃x,c.ring.length=x:=⟨_,rfl⟩
 obtain⟨q2,p⟩:∃x,d.ring.length=x:=⟨_,rfl⟩;have s:=Q02 (fun W (a:Below w.heap.size w W)=>Qbh o1 o2 O P R c2 c.l d.l W h.symm i.symm ((Y.kept a (Kaq _)).le a.size) ((Z.kept a (Kaq _)).le a.size) f1 g1);have H:=Q02 (fun W (a:Below w.heap.size w W)=>QcX B C q1 q2 u v c.ring d.ring W k.symm p.symm (by rw[<-k];exact RiR.mon.go (RiR.stp.go L (Stp.of (lo:=0) (hi:=0) a) (.inl (Kcq _))) (Kaq _) a.size) (by rw[<-p];exact RiR.mon.go (RiR.stp.go M (Stp.of (lo:=0) (hi:=0) a) (.inl (Kcq _))) (Kaq _) a.size) (by rw[<-k];exact f2) T U V X)
 rw[q,r,h,i,k,p];rw[q,r]at b;clear L M Y Z y z T U V X q r h i k p;obtain⟨W0,g⟩:∃W,((w.alloc (.cells #[.int .i64 p1,.slice o1 O R,.slice B q1 u] 29)).alloc (.cells #[.int .i64 p2,.slice o2 P c2,.slice C q2 v] 29))=W:=⟨_,rfl⟩;have j:=alb0v0v2 g;have f:=Q02 j;clear j;have n:=alz0v0v2 g;obtain⟨E,F,G⟩:=alc3v0v2 g;have m:=alz0v1v2 g;obtain⟨u0,u1,u2⟩:=alc3v1v2 g
 by_cases hk:p1=p2
 ·subst hk
  rw[decide_eq_true rfl,Bool.true_and]at b;obtain⟨t1,A⟩:∃t,decide (c.l=d.l)=t:=⟨_,rfl⟩;rw[A]at b s;clear A;go_enter Tryz.func86,Tryz.ntmps86;go_wp2_with fail;refine(s.out W0 f.out).mono ?_;rintro e D ⟨rfl,a⟩;replace E:=bC a E n;replace F:=bC a F n;replace G:=bC a G n;replace n:=Kbq n a.size;replace u0:=bC a u0 m;replace u1:=bC a u1 m;replace u2:=bC a u2 m;replace m:=Kbq m a.size;replace f:=Q02 (f.out.trans (a.mono f.out.size));clear a
  cases t1 with
  |false=>
   go_wp2;go_ret;exact⟨Q08 (by rw[b.out];rfl),f.out⟩
  |true=>
   go_wp2_with fail;refine(H.out D f.out).mono ?_;rintro e N ⟨rfl,a⟩;replace E:=bC a E n;replace F:=bC a F n;replace G:=bC a G n;replace n:=Kbq n a.size;replace u0:=bC a u0 m;replace u1:=bC a u1 m;replace u2:=bC a u2 m;replace m:=Kbq m a.size;replace f:=Q02 (f.out.trans (a.mono f.out.size));clear a;go_wp2;go_ret;exact⟨Q08 (by rw[b.out];rfl),f.out⟩
 ·rw[decide_eq_false hk]at b
  go_enter Tryz.func86,Tryz.ntmps86;go_wp2;go_ret;exact⟨Q08 (by rw[b.out];rfl),f.out⟩
theorem Qd1 (v1 v2:Value) (f g:Pm) (w:World) (h1:Q4P w.heap.size w v1 f) (h2:Q4P w.heap.size w v2 g) (aB:Q2q f) (aC:Q2q g):
  Calls Tryz.prog 42 #[v1,v2] w fun e w'=>e=.returned (.bool (Q1I f g))/\Below w.heap.size w w':=by
 obtain⟨aO,aQ,rfl,al,r1⟩:=h1;obtain⟨aP,aR,rfl,am,r2⟩:=h2;obtain⟨o1,c1,rfl,k1⟩:=al.open;obtain⟨o2,c2,rfl,k2⟩:=am.open;obtain⟨aD,az,rfl⟩:=RiR.len r1;obtain⟨aE,aA,rfl⟩:=RiR.len r2;obtain⟨f1,f2,f3,f4,f5⟩:=aB;obtain⟨g1,g2,g3,g4,g5⟩:=aC;have m:=Q02 (show Q1I f g=(decide (f.key=g.key) && decide (f.l=g.l) && Q1d f.ring g.ring)from rfl);obtain⟨p1,ac⟩:∃x,f.key=x:=⟨_,rfl⟩;obtain⟨p2,ad⟩:∃x,g.key=x:=⟨_,rfl⟩;obtain⟨C,z⟩:∃x,f.l.length=x:=⟨_,rfl⟩;obtain⟨b2,E⟩:∃x,g.l.length=x:=⟨_,rfl⟩;obtain⟨I,G⟩:∃x,f.ring.length=x:=⟨_,rfl⟩
 obtain⟨q2,T⟩:∃x,g.ring.length=x:=⟨_,rfl⟩;have H1:=Q02 k1;have H2:=Q02 k2;have ah:=Q02 r1;have ai:=Q02 r2;have F4:=Q02 f4;have F5:=Q02 f5;have G4:=Q02 g4;have G5:=Q02 g5;rw[G]at ah;rw[T]at ai;have L:=Q02 z;have M:=Q02 E;have N:=Q02 G;have Z:=Q02 T;rw[z]at f1;rw[G]at f2;rw[ac,ad,z,E,G,T];rw[ac,ad]at m;clear r1 r2 k1 k2 al am f4 f5 g4 g5 ac ad z E G T g1 g2 g3 f3
 obtain⟨W0,D⟩:∃W,((w.alloc (.cells #[.int .i64 p1,.slice o1 C c1,.slice aD I az] 29)).alloc (.cells #[.int .i64 p2,.slice o2 b2 c2,.slice aE q2 aA] 29))=W:=⟨_,rfl⟩;have F:=alb0v0v2 D;have X:=Q02 F;clear F;have zz:=alz0v0v2 D;obtain⟨z0,z1,z2⟩:=alc3v0v2 D;have zu:=alz0v1v2 D;obtain⟨u0,u1,u2⟩:=alc3v1v2 D
 by_cases hk:p1=p2
 ·subst hk
  by_cases hb:C=b2
  ·subst hb
   by_cases hq:I=q2
   ·subst hq
    go_enter Tryz.func42,Tryz.ntmps42;go_wp2
    go_loopw [4,5] (fun rv iv wr=> ∃i:Nat,i<=C/\iv=.int .i64 (i:Int)/\rv=.bool false/\Hid (f.l.take i=g.l.take i)/\Hid (Below W0.heap.size W0 wr))
     (fun _ iv _=>C - (intOf iv).toNat)
    case atStart=>exact⟨0,Kcq _,rfl,rfl,rfl,KBq⟩
    case round=>
     rename World=>wr
     obtain⟨i,aJ,rfl,rfl,HT,t⟩:=hrel;have av:=bC t.out z1 zz;have au:=bC t.out u1 zu;have V:=Kbq zz t.out.size;have U:=Kbq zu t.out.size;have a:=Q02 (X.out.trans (t.out.mono X.out.size))
     by_cases hlt:i < C
     ·have ap:(i:Int) < (C:Int):=by omega
      obtain⟨g1,f1,rfl,A,a0,a1,a2⟩:=RdK.cells3 H1.out i (by rw[L.out];exact hlt);obtain⟨g2,f2,rfl,B,b0,C,b2⟩:=RdK.cells3 H2.out i (by rw[M.out];exact hlt);have G0:=Grown.cell av V;have G1:=Grown.cell au U;have Ga0:=Grown.cell (bC a.out a0 A) (Kbq A a.out.size);have Ga1:=Grown.cell (bC a.out a1 A) (Kbq A a.out.size);have Ga2:=Grown.cell (bC a.out a2 A) (Kbq A a.out.size);have Gb0:=Grown.cell (bC a.out b0 B) (Kbq B a.out.size);have Gb1:=Grown.cell (bC a.out C B) (Kbq B a.out.size)
      have Gb2:=Grown.cell (bC a.out b2 B) (Kbq B a.out.size);have T1:=Q02 (Q4w f.l i (by rw[L.out];exact hlt));have T2:=Q02 (Q4w g.l i (by rw[M.out];exact hlt))
      have aa:Hid (f.l=g.l->f.l.getD i (0,0,false)=g.l.getD i (0,0,false)):=fun h=>by rw[h]
      clear a0 a1 a2 b0 C b2;generalize f.l.getD i (0,0,false)=d at *;generalize g.l.getD i (0,0,false)=e at *
      by_cases hde:d=e
      ·subst hde
       obtain⟨d0,d1,d2⟩:=d;dsimp only at Ga0 Ga1 Ga2 Gb0 Gb1 Gb2;clear aa;go_wp2
       (refine Q09 (by kernel_rfl) (by kernel_rfl) ?_;intro u;(repeat (go_big_quiet_step (fail)));(with_reducible refine wpQuiet_nil ?_);intro _ s;obtain⟨H,r⟩:=s;subst r)
       have j:=Q02 (t.out.trans (H.b.mono t.out.size));go_wp2;go_roundw
       case rel=>exact⟨i+1,by omega,by go_num,rfl,(by unfold Hid;rw[T1.out,T2.out,HT.out]),j.out⟩
       case measure=>simp[intOf];omega
      ·have HX:Hid (Q1I f g=false):=by
        unfold Hid;rw[m.out,decide_eq_false (fun h=>hde (aa.out h))];simp
       obtain⟨d0,d1,d2⟩:=d;obtain⟨e0,e1,e2⟩:=e;dsimp only at Ga0 Ga1 Ga2 Gb0 Gb1 Gb2
       have R:¬(d0=e0/\d1=e1/\d2=e2):=fun h=>hde (by rw[h.1,h.2.1,h.2.2])
       clear hde aa T1 T2 m
       by_cases q0:d0=e0
       ·subst q0
        by_cases I:d1=e1
        ·subst I
         have q2:¬d2=e2:=fun h=>R ⟨rfl,rfl,h⟩
         clear R
         cases d2 <;> cases e2 <;> first|exact absurd rfl q2|skip
         all_goals clear q2
         all_goals go_wp2
         all_goals (refine Q09 (by kernel_rfl) (by kernel_rfl) ?_;intro u;(repeat (go_big_quiet_step (fail)));(with_reducible refine wpQuiet_nil ?_);intro _ s;obtain⟨H,r⟩:=s;subst r)
         all_goals have j:=Q02 (a.out.trans (H.b.mono a.out.size))
         all_goals go_wp2
         all_goals go_ret
         all_goals exact⟨Q08 HX.out.symm,j.out⟩
        ·clear R
         have aN:(d1==e1)=false:=by simpa using I
         go_wp2
         (refine Q09 (by kernel_rfl) (by kernel_rfl) ?_;intro u;(repeat (go_big_quiet_step (fail)));(with_reducible refine wpQuiet_nil ?_);intro _ s;obtain⟨H,r⟩:=s;subst r)
         have j:=Q02 (a.out.trans (H.b.mono a.out.size));go_wp2;go_ret;exact⟨Q08 HX.out.symm,j.out⟩
       ·clear R
        have aM:(d0==e0)=false:=by simpa using q0
        go_wp2
        (refine Q09 (by kernel_rfl) (by kernel_rfl) ?_;intro u;(repeat (go_big_quiet_step (fail)));(with_reducible refine wpQuiet_nil ?_);intro _ s;obtain⟨H,r⟩:=s;subst r)
        have j:=Q02 (a.out.trans (H.b.mono a.out.size));go_wp2;go_ret;exact⟨Q08 HX.out.symm,j.out⟩
     ·have e:i=C:=by omega
      subst e
      have aw:Hid (f.l=g.l):=by
       have h:=HT.out;rw[List.take_of_length_le (by rw[L.out];exact Kaq _),List.take_of_length_le (by rw[M.out];exact Kaq _)]at h;exact h
      have aj:Hid (Q1I f g=Q1d f.ring g.ring):=by
       unfold Hid;rw[m.out,decide_eq_true aw.out];simp
      clear m;go_wp2;clear av au V U
      go_loopw [4,6] (fun rv iv wq=> ∃k:Nat,k<=I/\iv=.int .i64 (k:Int)/\rv=.bool false/\Hid (∀x,x < k->Q10 (f.ring.getD x []) (g.ring.getD x [])=0)/\Hid (Below W0.heap.size W0 wq))
       (fun _ iv _=>I - (intOf iv).toNat)
      case atStart=>exact⟨0,Kcq _,rfl,rfl,fun q h=>absurd h (KMq _),t.out⟩
      case round=>
       rename World=>wq
       obtain⟨k,aK,rfl,rfl,ak,y⟩:=hrel;have aG:=bC y.out z2 zz;have aF:=bC y.out u2 zu;have V:=Kbq zz y.out.size;have U:=Kbq zu y.out.size;have c:=Q02 (X.out.trans (y.out.mono X.out.size))
       by_cases hlt:k < I
       ·have ap:(k:Int) < (I:Int):=by omega
        have O:k < f.ring.length:=by rw[N.out];exact hlt
        have ab:k < g.ring.length:=by rw[Z.out];exact hlt
        obtain⟨e1,w1,x1,rfl,an,a1,t1⟩:=RiRows.atS ah.out (Kaq _) k O;obtain⟨e2,w2,x2,rfl,ao,a2,t2⟩:=RiRows.atS ai.out (Kaq _) k ab;obtain⟨o3,c3,rfl,aq⟩:=RiT.rd t1;obtain⟨o4,c4,rfl,ar⟩:=RiT.rd t2;have Y:=Q02 (fun p:Grown wq=>Q5K o3 o4 c3 c4 (f.ring.getD k []) (g.ring.getD k []) p.v ((aq.kept (c.out.trans (p.b.mono c.out.size)) (Kaq _)).le (c.out.trans (p.b.mono c.out.size)).size) ((ar.kept (c.out.trans (p.b.mono c.out.size)) (Kaq _)).le (c.out.trans (p.b.mono c.out.size)).size) (F4.out k O) (G4.out k ab) (F5.out k O) (G5.out k ab))
        have G0:=Grown.cell aG V;have G1:=Grown.cell aF U;have G2:=Grown.cell (bC c.out a1 an) (Kbq an c.out.size);have G3:=Grown.cell (bC c.out a2 ao) (Kbq ao c.out.size);have ag:=Q02 (fun h=>Q6o (R1:=f.ring) (R2:=g.ring) O h);clear t1 t2 aq ar a1 a2;obtain⟨r1,ae⟩:∃n,(f.ring.getD k []).length=n:=⟨_,rfl⟩;obtain⟨r2,af⟩:∃n,(g.ring.getD k []).length=n:=⟨_,rfl⟩;obtain⟨mv,P⟩:∃q,Q10 (f.ring.getD k []) (g.ring.getD k [])=q:=⟨_,rfl⟩;rw[ae,af,P]at Y;rw[ae]at G2;rw[af]at G3;rw[P]at ag;have ax:=Q02 P;clear ae af P
        by_cases h0:mv=0
        ·subst h0
         go_wp2
         (refine Q09 (by kernel_rfl) (by kernel_rfl) ?_;intro u;(repeat (go_big_quiet_step ((go_at_call 65;exact Q1w _ (Y.out _)))));(with_reducible refine wpQuiet_nil ?_);intro _ s;obtain⟨H,r⟩:=s;subst r)
         have j:=Q02 (y.out.trans (H.b.mono y.out.size))
         have ay:Hid (∀x,x < k+1->Q10 (f.ring.getD x []) (g.ring.getD x [])=0):=fun x hx=>by
          rcases Nat.lt_succ_iff_lt_or_eq.1 hx with h|h
          ·exact ak.out x h
          ·rw[h];exact ax.out
         go_wp2;go_roundw
         case rel=>exact⟨k+1,by omega,by go_num,rfl,ay.out,j.out⟩
         case measure=>simp[intOf];omega
        ·have J:=Q02 (aj.out.trans (ag.out h0))
         have aH:(mv==0)=false:=by simpa using h0
         go_wp2
         (refine Q09 (by kernel_rfl) (by kernel_rfl) ?_;intro u;(repeat (go_big_quiet_step ((go_at_call 65;exact Q1w _ (Y.out _)))));(with_reducible refine wpQuiet_nil ?_);intro _ s;obtain⟨H,r⟩:=s;subst r)
         have j:=Q02 (c.out.trans (H.b.mono c.out.size));go_wp2;go_ret;exact⟨Q08 J.out.symm,j.out⟩
       ·have e:k=I:=by omega
        subst e;have J:Hid (Q1I f g=true):=aj.out.trans (Q3Z (by rw[N.out,Z.out]) (fun i hi=>ak.out i (by rw[<-N.out];exact hi)));go_wp2;go_ret;exact⟨Q08 J.out.symm,c.out⟩
   ·have aL:¬((I:Int)=(q2:Int)):=by omega
    have J:Hid (Q1I f g=false):=by
     unfold Hid;rw[m.out];rw[Q5p (by rw[N.out,Z.out];exact hq)];simp
    clear m;go_enter Tryz.func42,Tryz.ntmps42;go_wp2;go_ret;exact⟨Q08 J.out.symm,X.out⟩
  ·have aI:¬((C:Int)=(b2:Int)):=by omega
   have J:Hid (Q1I f g=false):=by
    unfold Hid;rw[m.out];rw[decide_eq_false (show ¬f.l=g.l from fun h=>hb (by rw[<-L.out,<-M.out,h]))];simp
   clear m;go_enter Tryz.func42,Tryz.ntmps42;go_wp2;go_ret;exact⟨Q08 J.out.symm,X.out⟩
 ·skip
  have J:Hid (Q1I f g=false):=by
   unfold Hid;rw[m.out];rw[decide_eq_false hk];rfl
  clear m;go_enter Tryz.func42,Tryz.ntmps42;go_wp2;go_ret;exact⟨Q08 J.out.symm,X.out⟩
structure Bm where
 j:Jm
 p:Pm
 t:List Sl
abbrev Q0O (kj:Int) (vl:Value) (sf kp:Int) (vb vr vt:Value):Value:=.agg #[.int .i64 kj,vl,.int .i64 sf,.int .i64 kp,vb,vr,vt]
def RdBm (C:Nat) (w:World) (v:Value) (m:Bm):Prop:=∃vl vb vr vt,v=Q0O m.j.key vl m.j.safe m.p.key vb vr vt/\RdJm C w (jrn m.j.key vl m.j.safe) m.j/\Q4P C w (plv m.p.key vb vr) m.p/\RdT C w (tab vt) m.t
def InBm (lo hi:Nat) (w:World) (v:Value) (m:Bm):Prop:=∃vl vb vr vt j0 j1 p0 p1 t0 t1,v=Q0O m.j.key vl m.j.safe m.p.key vb vr vt/\(lo<=j0/\j1<=hi/\lo<=p0/\p1<=hi/\lo<=t0/\t1<=hi/\(j1<=p0\/p1<=j0)/\(j1<=t0\/t1<=j0)/\(p1<=t0\/t1<=p0))/\InJm j0 j1 w (jrn m.j.key vl m.j.safe) m.j/\InPm p0 p1 w (plv m.p.key vb vr) m.p/\InTb t0 t1 w (tab vt) m.t
theorem InBm.asc {lo hi a b:Nat} {w:World} {m:Bm} {d c f g:Value} (k:lo<=a) (l:a<=b) (n:b<=hi) (h:InJm lo a w (jrn m.j.key d m.j.safe) m.j) (h2:InPm a b w (plv m.p.key c f) m.p) (i:InTb b hi w (tab g) m.t):InBm lo hi w (Q0O m.j.key d m.j.safe m.p.key c f g) m:=
 ⟨d,c,f,g,lo,a,a,b,b,hi,rfl,by omega,h,h2,i⟩
theorem InBm.rd {lo hi:Nat} {w:World} {v:Value} {m:Bm} (h:InBm lo hi w v m):RdBm hi w v m:=by
 obtain⟨d,c,f,g,i,j,l,n,p,q,e,k,a,h2,b⟩:=h;exact⟨d,c,f,g,e,a.rd.le (by omega),h2.rd.le (by omega),b.rd.le (by omega)⟩
theorem InBm.step {x y lo hi:Nat} {w a:World} {v:Value} {m:Bm} (h:InBm x y w v m) (s:Stp lo hi w a) (t:hi<=x\/y<=lo):InBm x y a v m:=by
 obtain⟨p,n,q,r,d,f,g,i,j,l,e,k,b,h2,c⟩:=h;exact⟨p,n,q,r,d,f,g,i,j,l,e,k,b.step s (by omega),h2.step s (by omega),c.step s (by omega)⟩
theorem RdBm.opn {C:Nat} {w:World} {v:Value} {m:Bm} (h:RdBm C w v m):∃(o:Option Addr) (c:Nat) (q:Option Addr) (b:Nat) (n:Option Addr) (a:Nat) (r:Option Addr) (d:Nat),v=Q0O m.j.key (.slice o m.j.l.length c) m.j.safe m.p.key (.slice q m.p.l.length b) (.slice n m.p.ring.length a) (.slice r m.t.length d):=by
 obtain⟨B,A,D,E,e,⟨y,s,o,c,f,_⟩,h2,⟨z,x,r,d,k,_⟩⟩:=h;obtain⟨q,b,n,a,u⟩:=h2.opn;simp only[Value.agg.injEq,Array.mk.injEq,List.cons.injEq,and_true,true_and]at s u x;obtain⟨g,i⟩:=u;subst s f x k g i;exact⟨o,c,q,b,n,a,r,d,e⟩
def fitBm (m:Bm):Prop:=m.j.l.length<=100000/\Q2q m.p/\m.t.length<=1048576
def Q6e (m:Bm):Prop:=m.j.l.length<=1048576/\Q2q m.p/\m.t.length<=1048576
theorem fitBm.b0 {m:Bm} (h:fitBm m):Q6e m:=⟨by have:=h.1;omega,h.2.1,h.2.2⟩
theorem Qbe (key:Int) (o:Option Addr) (cap:Nat) (l:List Bk) (h:Option Addr) (f d:Nat) (k i g:Int) (w:World) (D:Q0b l=true) (hm:doL l k i g=none) (s:l.length<=100) (r:RdK w.heap.size w o l):
  Calls Tryz.prog 95 #[plv key (.slice o l.length cap) (.slice h f d),cmd k i g] w fun e E=>e=.returned (.tuple #[plv key (.slice o l.length cap) (.slice h f d),.bool false])/\Below w.heap.size w E:=by
 have c:Q0A l i=(k==0):=by
  unfold doL at hm
  split at hm
  ·assumption
  ·cases hm
 obtain⟨y,a⟩:∃W,(((w.alloc (.cells #[.int .i64 key,.slice o l.length cap,.slice h f d] 29)).alloc (.cells #[.int .i64 k,.int .i64 i,.int .i64 g] 77)).alloc (.cells #[.int .i64 0,.slice none 0 0,.slice none 0 0] 29))=W:=⟨_,rfl⟩;have b:=alb0v0v3 a;have j:=Q02 b;clear b;have M:=alz0v0v3 a;obtain⟨G,H,I⟩:=alc3v0v3 a;have L:=alz0v1v3 a;obtain⟨u0,u1,u2⟩:=alc3v1v3 a;have J:=alz0v2v3 a;obtain⟨t,u,x⟩:=alc3v2v3 a;obtain⟨z,A,B⟩:=alf3v2v3 a;have m:=Q02 (Q5S o cap l i y ((r.kept j.out (Kaq _)).le j.out.size) (by omega) D);clear r hm
 by_cases h0:k=0
 ·subst h0
  have q:Q0A l i=true:=c;rw[Qci q]at m
  have C:(0:Int)<=(Q0h l i:Int):=by omega
  clear c q;generalize Q0h l i=pl at *;go_enter Tryz.func95,Tryz.ntmps95;go_wp2_with fail;refine m.out.mono ?_;rintro e F ⟨rfl,rfl⟩;go_wp2;refine bodyPost_ret (v:=.tuple #[plv key (.slice o l.length cap) (.slice h f d),.bool false]) (by simp[results,Tryz.results95,go_sem,t,u,x]) rfl ⟨rfl, ?_⟩;exact((j.out.setCell (p:=⟨w.heap.size+1+1,0,none⟩) (by(try simp) <;> omega) _).setCell (p:=⟨w.heap.size+1+1,1,none⟩) (by(try simp) <;> omega) _).setCell (p:=⟨w.heap.size+1+1,2,none⟩) (by(try simp) <;> omega) _
 ·have n:(k==0)=false:=beq_eq_false_iff_ne.2 h0
  rw[n]at c;rw[Qe9 c]at m;clear c;go_enter Tryz.func95,Tryz.ntmps95;go_wp2_with fail;refine m.out.mono ?_;rintro e F ⟨rfl,rfl⟩;go_wp2;refine bodyPost_ret (v:=.tuple #[plv key (.slice o l.length cap) (.slice h f d),.bool false]) (by simp[results,Tryz.results95,go_sem,t,u,x]) rfl ⟨rfl, ?_⟩;exact((j.out.setCell (p:=⟨w.heap.size+1+1,0,none⟩) (by(try simp) <;> omega) _).setCell (p:=⟨w.heap.size+1+1,1,none⟩) (by(try simp) <;> omega) _).setCell (p:=⟨w.heap.size+1+1,2,none⟩) (by(try simp) <;> omega) _
theorem Q6Q (key:Int) (o:Option Addr) (cap:Nat) (l:List Bk) (p:Option Addr) (s:Nat) (a:List Hd) (k i g:Int) (m:List Bk) (w:World) (A:Q1D key=true) (B:Q0b l=true) (z:Q0F k i g=true) (hm:doL l k i g=some m) (c:l.length<=100) (y:RdK w.heap.size w o l) (x:RdL Q0E w.heap.size w p a) (j:p=none->s=0) (f:a.length<=3):
  Calls Tryz.prog 95 #[plv key (.slice o l.length cap) (.slice p a.length s),cmd k i g] w fun e r=> ∃C c2 q u d v t n,e=.returned (.tuple #[plv key (.slice C m.length c2) (.slice q u d),.bool true])/\u=(((v,8,t)::a).take 3).length/\Q1e r w.heap.size (.slice C m.length c2) m/\ownL Q0E 51 r w.heap.size (.slice q u d) (((v,8,t)::a).take 3)/\ownL Q0E 47 r w.heap.size (.slice v 8 t) n/\Tab (fun b=>Q14 key b m) 8 r w.heap.size n/\Below w.heap.size w r:=by
 by_cases h0:k=0
 ·subst h0
  exact(Qgc key o cap l p s a i g m w A B z hm c y x j f).mono (fun _ _ h=>h)
 ·exact(Qfg key o cap l p s a k i g (Q0h l i) m w A B z hm c y x j f h0 (beq_eq_false_iff_ne.2 h0) rfl).mono (fun _ _ h=>h)
theorem Q7o (key:Int) (w:World) (L:Q1D key=true):
  Calls Tryz.prog 93 #[.int .i64 key] w fun e G=> ∃g,e=.returned (plv key (.slice none 0 0) (.slice (some ⟨g,0,none⟩) 1 1))/\RingO G w.heap.size (.slice (some ⟨g,0,none⟩) 1 1) (fun b=>Q14 key b []) []/\Below w.heap.size w G:=by
 obtain⟨I,k⟩:∃W,(w.alloc (.cells #[.int .i64 0,.slice none 0 0,.slice none 0 0] 29))=W:=⟨_,rfl⟩;have d:=alb0v0v1 k;have m:=Q02 d;clear d;have c:=alz0v0v1 k;obtain⟨r,s,t⟩:=alc3v0v1 k;obtain⟨h,i,j⟩:=alf3v0v1 k;have F:=c;have H:=Q02 (Q1x key none 0 [] I (.inl rfl) (by simp) L rfl);go_enter Tryz.func93,Tryz.ntmps93;go_wp2_with fail;refine(H.out).mono ?_;rintro e l ⟨y,x,B,rfl,q,u,f⟩;have N:=f.size;have C:=Q02 (And.intro q u);clear q u;replace r:=bC f r c;replace s:=bC f s c;replace t:=bC f t c;replace h:=bF f h c
 replace i:=bF f i c;replace j:=bF f j c;replace c:=Kbq c f.size;replace m:=Q02 (m.out.trans (f.mono m.out.size));clear f
 have J:l.heap.size+1=(l.alloc (.cells #[.slice y 8 x] 51)).heap.size:=by simp
 have M:l.heap.size≠w.heap.size:=by omega
 have E:w.heap.size≠l.heap.size:=by omega
 obtain⟨D,n⟩:∃W,l.alloc (.cells #[.slice y 8 x] 51)=W:=⟨_,rfl⟩;have a:=alb0v0v1 n;have A:Hid (RingO D (w.heap.size+1) (.slice (some ⟨l.heap.size,0,none⟩) 1 1) (fun b=>Q14 key b []) []):=⟨y,x,B,by rw[<-n];exact Q04 (Q4s l y 8 x _) (by omega),Q04 (Q03 C.out.1 a) (by omega),Tab.mono (C.out.2.kept a) (by omega)⟩;have O:=a.size;replace r:=bC a r c;replace s:=bC a s c;replace t:=bC a t c;replace h:=bF a h c;replace i:=bF a i c;replace j:=bF a j c;have z:Hid (Below w.heap.size w D):=m.out.trans (a.mono m.out.size);go_wp2
 refine bodyPost_ret (v:=plv key (.slice none 0 0) (.slice (some ⟨l.heap.size,0,none⟩) 1 1)) (by simp[results,Tryz.results93,go_sem,r,s,t]) rfl ⟨l.heap.size,rfl, ?_, ?_⟩
 ·exact RingO.mono (((A.out.low (Nat.lt_succ_self _) 0 _).low (Nat.lt_succ_self _) 1 _).low (Nat.lt_succ_self _) 2 _) (Nat.le_succ _)
 ·exact((z.out.setCell (p:=⟨w.heap.size,0,none⟩) (by(try simp) <;> omega) _).setCell (p:=⟨w.heap.size,1,none⟩) (by(try simp) <;> omega) _).setCell (p:=⟨w.heap.size,2,none⟩) (by(try simp) <;> omega) _
structure PBox (w:World) (base B:Nat) (key:Int) (l:List Bk) (hs:List Hd) (o:Option Addr) (c:Nat) (oR:Option Addr) (cR:Nat):Prop where
 box:w.heap[B]? =some (.cells #[.int .i64 key,.slice o l.length c,.slice oR hs.length cR] 29 (0,0))
 backs:Q1e w base (.slice o l.length c) l
 ring:ownL Q0E 51 w base (.slice oR hs.length cR) hs
theorem PBox.kept {w f:World} {base B:Nat} {key:Int} {l:List Bk} {hs:List Hd} {o d:Option Addr} {c b:Nat} (h:PBox w base B key l hs o c d b) (a:Below w.heap.size w f):PBox f base B key l hs o c d b:=
 ⟨(a.block B (KEq h.box)).trans h.box,Q03 h.backs a,Q03 h.ring a⟩
theorem PBox.set {w:World} {base B:Nat} {key:Int} {l:List Bk} {hs:List Hd} {o b:Option Addr} {c n a:Nat} {z:Array Value} (g:w.heap[B]? =some (.cells z 29 (0,0))) (k:z.size=3) (i:Q1e w base (.slice o l.length c) l) (h2:ownL Q0E 51 w base (.slice b n a) hs) (j:n=hs.length):PBox (setP w B (.int .i64 key) (.slice o l.length c) (.slice b n a)) base B key l hs o c b a:=by
 subst j;have d:=Q05 g 0 (.int .i64 key);have f:=Q05 d 1 (.slice o l.length c);have h:=Q05 f 2 (.slice b hs.length a);refine⟨?_,Q0p (Q0p (Q0p i g Q8b 0 _) d Q8b 1 _) f Q8b 2 _,Q0p (Q0p (Q0p h2 g Qa4 0 _) d Qa4 1 _) f Qa4 2 _⟩;rw[h]
 match z,k with
 |⟨[x,y,u]⟩,_=>rfl
theorem QiM {w:World} {base:Nat} {o:Option Addr} {n c:Nat} {hs:List Hd} (h:ownL Q0E 51 w base (.slice o n c) hs):o=none->c=0:=fun e=>(InRow.cap (InRow.of h)) n c (by rw[e])
theorem Q0s {C:Nat} {w W:World} {B:Nat} (h:Below C w W) (hB:C<=B) (x y z:Value):Below C w (setP W B x y z):=((h.setCell (p:=⟨B,0,none⟩) hB _).setCell (p:=⟨B,1,none⟩) hB _).setCell (p:=⟨B,2,none⟩) hB _
theorem Qjb {a W:World} {base B:Nat} {key:Int} {m:List Bk} {c:List Hd} {h d:Option Addr} {c2 g b:Nat} {u v w:Value} (q:W.heap[B]? =some (.cells #[u,v,w] 29 (0,0))) (s:Below a.heap.size a W) (k:a.heap.size<=B) (n:Q1e W base (.slice h m.length c2) m) (h2:ownL Q0E 51 W base (.slice d g b) c) (r:g=c.length) (p:c.length<=3):
  ∃B' f t l j i,Value.pointer (some ⟨B,0,none⟩)=.pointer (some ⟨B',0,none⟩)/\Value.bool true=.bool true/\Hid (PBox (setP W B (.int .i64 key) (.slice h m.length c2) (.slice d g b)) base B' key m f t l j i)/\Hid (Below a.heap.size a (setP W B (.int .i64 key) (.slice h m.length c2) (.slice d g b)))/\a.heap.size<=B'/\Hid (f.length<=3):=
 ⟨B,c,h,c2,d,b,rfl,rfl,PBox.set q rfl n h2 r,Q0s s k _ _ _,k,p⟩
theorem QiS {a W:World} {base:Nat} {key:Int} {m:List Bk} {c:List Hd} {h d:Option Addr} {c2 g b:Nat} (j:Below a.heap.size a W) (n:Q1e W base (.slice h m.length c2) m) (h2:ownL Q0E 51 W base (.slice d g b) c) (q:g=c.length) (p:c.length<=3):
  ∃B' f r l k i,Value.pointer (some ⟨W.heap.size,0,none⟩)=.pointer (some ⟨B',0,none⟩)/\Value.bool true=.bool true/\Hid (PBox (W.alloc (.cells #[.int .i64 key,.slice h m.length c2,.slice d g b] 29)) base B' key m f r l k i)/\Hid (Below a.heap.size a (W.alloc (.cells #[.int .i64 key,.slice h m.length c2,.slice d g b] 29)))/\a.heap.size<=B'/\Hid (f.length<=3):=by
 subst q;exact⟨W.heap.size,c,h,c2,d,b,rfl,rfl,⟨World.alloc_heap_new W _,World.ownsRow.alloc n _,World.ownsRow.alloc h2 _⟩,j.alloc j.size _,j.size,p⟩
theorem Q8t (key safe:Int) (b off cap:Nat) (cs:List Cd) (w:World) (ad:cs.length≠0->b < w.heap.size) (am:∀i,i < cs.length->∀j,j < Q3F.k->w.cell? ⟨b,off+i * Q3F.k+j,none⟩=(Q3F.cs (cs.getD i Q3F.d))[j]?) (hk:Q1D key=true) (hl:cs.length<=100) (h0:0<=safe) (h1:safe<=(cs.length:Int)) (ob:Option Addr) (aD:cs.length≠0->ob=some ⟨b,off,none⟩):
  Calls Tryz.prog 40 #[jrn key (.slice ob cs.length cap) safe] w fun e w'=>e=.returned (.bool (Q0S cs cs.length).isSome)/\Below w.heap.size w w':=by
 have aC:=Qag key;rw[hk]at aC;have HC:=Q02 am;have a1:=Q02 aD;have aZ:=Q02 ad;have q1:decide (100 < (cs.length:Int))=false:=decide_eq_false (by omega);have q2:decide (safe < 0)=false:=decide_eq_false (by omega);have q3:decide ((cs.length:Int) < safe)=false:=decide_eq_false (by omega);have HN:=Q02 hl;clear am aD ad h0 h1;obtain⟨W0,ak⟩:∃W,(w.alloc (.cells #[.int .i64 key,.slice ob cs.length cap,.int .i64 safe] 25))=W:=⟨_,rfl⟩;have al:=alb0v0v1 ak;have HB:=Q02 al;clear al;have zz:=alz0v0v1 ak;obtain⟨z0,z1,z2⟩:=alc3v0v1 ak;have HL:=Q02 (Q7o key W0 hk);have bg:=zz
 go_enter Tryz.func40,Tryz.ntmps40;go_wp2_with (go_at_call 48;refine(aC _).mono ?_;rintro e w9 ⟨rfl,rfl⟩);refine(HL.out).mono ?_;rintro e z ⟨gR,rfl,ap,g⟩;have aS:=Q02 ap;have bd:=g.size;clear ap;replace z0:=bC g z0 zz;replace z1:=bC g z1 zz;replace z2:=bC g z2 zz;replace zz:=Kbq zz g.size;replace HB:=Q02 (HB.out.trans (g.mono HB.out.size));clear g;have a7:=z1;have a8:=zz;have ab:=HB;obtain⟨W1,X⟩:∃W,(z.alloc (.cells #[.int .i64 key,.slice none 0 0,.slice (some ⟨gR,0,none⟩) 1 1] 29))=W:=⟨_,rfl⟩;have v:=alb0v0v1 X;replace z0:=bC v z0 zz
 replace z1:=bC v z1 zz;replace z2:=bC v z2 zz;replace zz:=Kbq zz v.size;replace HB:=Q02 (HB.out.trans (v.mono HB.out.size));clear v;have zp:=alz0v0v1 X;obtain⟨p0,p1,p2⟩:=alc3v0v1 X;obtain⟨o3,c3,aE,aY,_,_⟩:=aS.out;have aT:=alb0v0v1 X;have HP:Hid (PBox W1 w.heap.size z.heap.size key [] [(o3,8,c3)] none 0 (some ⟨gR,0,none⟩) 1):=⟨by rw[<-X];exact World.alloc_heap_new z _,KLq _ _ _ _,Q04 (Q03 aY aT) (by omega)⟩;clear aY aS aT;go_wp2
 go_loopw [4] (fun iv wr=> ∃(t:Nat) (l:List Bk) (hs:List Hd) (o:Option Addr) (c:Nat) (oR:Option Addr) (cR:Nat),t<=cs.length/\iv=.int .i64 (t:Int)/\Hid (PBox wr w.heap.size z.heap.size key l hs o c oR cR)/\Hid (Q0S cs t=some l)/\Hid (hs.length<=3)/\Hid (Below z.heap.size z wr))
  (fun iv _=>cs.length - (intOf iv).toNat)
 case atStart=>exact⟨0,[],_,_,_,_,_,Kcq _,rfl,HP.out,rfl,(Nat.le_of_ble_eq_true rfl),by rw[<-X];exact KBq.alloc (Kaq _) _⟩
 case round=>
  obtain⟨t,l,hs,o,c,oR,cR,bf,rfl,aR,U,a4,af⟩:=hrel;have a5:=af.out.size;have A:Hid (Below w.heap.size w wr):=(ab.out).trans (af.out.mono ab.out.size);have y1:=bC af.out a7 a8
  by_cases hlt:t < cs.length
  ·skip
   clear z0 z1 z2 zz p0 p1 p2 zp ak X HP aC HB
   have a9:(t:Int) < (cs.length:Int):=by omega
   have be:(0:Int)<=(t:Int):=by omega
   have aD:=a1.out (by omega);have ad:=aZ.out (by omega);subst aD;obtain⟨aU,bb⟩:=Q4v t l (by omega) U.out;obtain⟨c0,c1,c2⟩:=RdL.cmd (C:=w.heap.size) HC.out t hlt;replace c0:=(A.out.cell (p:=⟨b,off+t * 3,none⟩) ad).trans c0;replace c1:=(A.out.cell (p:=⟨b,off+t * 3+1,none⟩) ad).trans c1;replace c2:=(A.out.cell (p:=⟨b,off+t * 3+2,none⟩) ad).trans c2;have P:=Q02 (Q2A hlt);obtain⟨x,y,u,ar⟩:∃x y u,cs.getD t (0,0,0)=(x,y,u):=⟨_,_,_,rfl⟩;rw[ar]at c0 c1 c2 P;have D:=Q02 (fun h=>Qc0 hlt (ar ▸ h):Q5f (Q0S cs t) (x,y,u)=none->(Q0S cs cs.length).isSome=false)
   rw[U.out]at P D;simp only[Q5f,Option.bind_some]at c0 c1 c2 P D;clear ar U;have ah:=Q02 (Q6h x y u)
   cases hc:Q0F x y u with
   |false=>
    rw[hc]at D ah;have ag:=Q02 (D.out (by simp));clear D P;have HB:=A;go_wp2_with fail;refine(ah.out _).mono ?_;rintro e a ⟨rfl,g⟩;replace HB:=Q02 (HB.out.trans (g.mono HB.out.size));clear g;go_wp2;go_ret;exact⟨by rw[ag.out];rfl,HB.out⟩
   |true=>
    rw[hc]at D P ah;simp only[if_true]at D P;go_wp2_with fail;refine(ah.out _).mono ?_;rintro e a ⟨rfl,g⟩;have R:=g.size;have s:=Q02 (aR.out.kept g);have aP:=Q02 (af.out.trans (g.mono a5));have ac:=Q02 (A.out.trans (g.mono A.out.size));replace y1:=bC g y1 (show w.heap.size < wr.heap.size by have:=ab.out.size;omega);replace c0:=bC g c0 (show b < wr.heap.size by have:=A.out.size;omega);replace c1:=bC g c1 (show b < wr.heap.size by have:=A.out.size;omega);replace c2:=bC g c2 (show b < wr.heap.size by have:=A.out.size;omega);clear g aR af A ah
    have p0:a.cell? ⟨z.heap.size,0,none⟩=some (.int .i64 key):=Q00 s.out.box 0 _ rfl;have p1:a.cell? ⟨z.heap.size,1,none⟩=some (.slice o l.length c):=Q00 s.out.box 1 _ rfl;have p2:a.cell? ⟨z.heap.size,2,none⟩=some (.slice oR hs.length cR):=Q00 s.out.box 2 _ rfl;have n:z.heap.size < a.heap.size:=(KEq s.out.box)
    have ae:w.heap.size < a.heap.size:=by have:=ab.out.size;omega
    have q:b < a.heap.size:=by omega
    have a6:z.heap.size<=a.heap.size:=by omega
    have aG:=Q02 (ownL.rds (L:=Q16) s.out.backs);have aH:=Q02 (ownL.rds (L:=Q0E) s.out.ring);have aV:=Q4B s.out.backs;have aW:=QiM s.out.ring
    cases hdo:doL l x y u with
    |none=>
     rw[hdo]at D;have ag:=Q02 (D.out rfl);have HY:=Q02 (fun W (g:Below a.heap.size a W)=>Qbe key o c l oR hs.length cR x y u W aU hdo (by have:=HN.out;omega) ((aG.out.kept g (Kaq _)).le g.size));clear D P hdo aH aV aW;go_upto_region 9 with fail
     go_cut [5,6]from 47 to 56 (fun s5 s6 wx=>s6=.bool false/\Hid (Below a.heap.size a wx))
     case first=>
      go_region_held3 (fun w'=>w'.cell? ⟨z.heap.size,0,none⟩=some (.int .i64 key)/\w'.cell? ⟨z.heap.size,1,none⟩=some (.slice o l.length c)/\w'.cell? ⟨z.heap.size,2,none⟩=some (.slice oR hs.length cR)/\w'.cell? ⟨w.heap.size,1,none⟩=some (.slice (some ⟨b,off,none⟩) cs.length cap)/\w'.cell? ⟨b,off+t * 3,none⟩=some (.int .i64 x)/\w'.cell? ⟨b,off+t * 3+1,none⟩=some (.int .i64 y)/\w'.cell? ⟨b,off+t * 3+2,none⟩=some (.int .i64 u)) (first|with_reducible exact⟨F,G,H,I,J,M,N⟩|with_reducible exact⟨p0,p1,p2,y1,c0,c1,c2⟩|with_reducible exact⟨au,av,aw,ax,ay,az,aA⟩|go_keep) (first|(go_at_call 95;have E:=HY.out a.drew (KHq KBq);with_reducible refine E.mono ?_;clear E;rintro e O ⟨rfl,g⟩;have f:Below a.heap.size a O:=Below.trans (show Below a.heap.size a a.drew from(KHq KBq)) (g.mono (by simp));have aO:=f.size;have F:=bC f p0 n;have G:=bC f p1 n;have H:=bC f p2 n;have I:=bC f y1 ae;have J:=bC f c0 q;have M:=bC f c1 q;have N:=bC f c2 q;clear g)|(go_at_call 95;have E:=HY.out (a.alloc (.cells #[.int .i64 0,.slice none 0 0,.slice none 0 0] 29)).drew (KHq (KBq.alloc (Kaq _) _));with_reducible refine E.mono ?_;clear E;rintro e O ⟨rfl,g⟩;have f:Below a.heap.size a O:=Below.trans (show Below a.heap.size a (a.alloc (.cells #[.int .i64 0,.slice none 0 0,.slice none 0 0] 29)).drew from(KHq (KBq.alloc (Kaq _) _))) (g.mono (by simp));have aO:=f.size;have F:=bC f p0 n;have G:=bC f p1 n;have H:=bC f p2 n;have I:=bC f y1 ae;have J:=bC f c0 q;have M:=bC f c1 q;have N:=bC f c2 q;have r:=Q34 g;have aX:=(KEq r);have aI:=Q00 r 0 _ rfl;have aL:=Q01 r 0;have aJ:=Q00 r 1 _ rfl;have aM:=Q01 r 1;have aK:=Q00 r 2 _ rfl;have aN:=Q01 r 2;have au:(((O.setCell ⟨a.heap.size,0,none⟩ (.int .i64 key)).setCell ⟨a.heap.size,1,none⟩ (.slice o l.length c)).setCell ⟨a.heap.size,2,none⟩ (.slice oR hs.length cR)).cell? ⟨z.heap.size,0,none⟩=some (.int .i64 key):=Q06 F n;have av:(((O.setCell ⟨a.heap.size,0,none⟩ (.int .i64 key)).setCell ⟨a.heap.size,1,none⟩ (.slice o l.length c)).setCell ⟨a.heap.size,2,none⟩ (.slice oR hs.length cR)).cell? ⟨z.heap.size,1,none⟩=some (.slice o l.length c):=Q06 G n;have aw:(((O.setCell ⟨a.heap.size,0,none⟩ (.int .i64 key)).setCell ⟨a.heap.size,1,none⟩ (.slice o l.length c)).setCell ⟨a.heap.size,2,none⟩ (.slice oR hs.length cR)).cell? ⟨z.heap.size,2,none⟩=some (.slice oR hs.length cR):=Q06 H n;have ax:(((O.setCell ⟨a.heap.size,0,none⟩ (.int .i64 key)).setCell ⟨a.heap.size,1,none⟩ (.slice o l.length c)).setCell ⟨a.heap.size,2,none⟩ (.slice oR hs.length cR)).cell? ⟨w.heap.size,1,none⟩=some (.slice (some ⟨b,off,none⟩) cs.length cap):=Q06 I ae;have ay:(((O.setCell ⟨a.heap.size,0,none⟩ (.int .i64 key)).setCell ⟨a.heap.size,1,none⟩ (.slice o l.length c)).setCell ⟨a.heap.size,2,none⟩ (.slice oR hs.length cR)).cell? ⟨b,off+t * 3,none⟩=some (.int .i64 x):=Q06 J q;have az:(((O.setCell ⟨a.heap.size,0,none⟩ (.int .i64 key)).setCell ⟨a.heap.size,1,none⟩ (.slice o l.length c)).setCell ⟨a.heap.size,2,none⟩ (.slice oR hs.length cR)).cell? ⟨b,off+t * 3+1,none⟩=some (.int .i64 y):=Q06 M q;have aA:(((O.setCell ⟨a.heap.size,0,none⟩ (.int .i64 key)).setCell ⟨a.heap.size,1,none⟩ (.slice o l.length c)).setCell ⟨a.heap.size,2,none⟩ (.slice oR hs.length cR)).cell? ⟨b,off+t * 3+2,none⟩=some (.int .i64 u):=Q06 N q;clear g))
      all_goals (go_wp2_with fail;go_meet)
      all_goals first
       |with_reducible exact⟨rfl,Q02 (Q0s f (Kaq _) _ _ _)⟩
       |with_reducible exact⟨rfl,Q02 (f.alloc f.size _)⟩
     case rest=>
     obtain⟨rfl,aj⟩:=hcut;have aQ:=Q02 (ac.out.trans (aj.out.mono ac.out.size));go_wp2;go_ret;exact⟨by rw[ag.out];rfl,aQ.out⟩
    |some m=>
     rw[hdo]at P;have aE:=a4.out;have HY:=Q02 (fun W (g:Below a.heap.size a W)=>Q6Q key o c l oR cR hs x y u m W hk aU hc hdo (by have:=HN.out;omega) ((aG.out.kept g (Kaq _)).le g.size) ((aH.out.kept g (Kaq _)).le g.size) aW aE);clear D hdo hc aG aH aV;go_upto_region 9 with fail
     go_cut [5,6]from 47 to 56 (fun s5 s6 wx=> ∃B aq o' c' aF aB,s5=.pointer (some ⟨B,0,none⟩)/\s6=.bool true/\Hid (PBox wx w.heap.size B key m aq o' c' aF aB)/\Hid (Below a.heap.size a wx)/\a.heap.size<=B/\Hid (aq.length<=3))
     case first=>
      go_region_held3 (fun w'=>w'.cell? ⟨z.heap.size,0,none⟩=some (.int .i64 key)/\w'.cell? ⟨z.heap.size,1,none⟩=some (.slice o l.length c)/\w'.cell? ⟨z.heap.size,2,none⟩=some (.slice oR hs.length cR)/\w'.cell? ⟨w.heap.size,1,none⟩=some (.slice (some ⟨b,off,none⟩) cs.length cap)/\w'.cell? ⟨b,off+t * 3,none⟩=some (.int .i64 x)/\w'.cell? ⟨b,off+t * 3+1,none⟩=some (.int .i64 y)/\w'.cell? ⟨b,off+t * 3+2,none⟩=some (.int .i64 u)) (first|with_reducible exact⟨F,G,H,I,J,M,N⟩|with_reducible exact⟨p0,p1,p2,y1,c0,c1,c2⟩|with_reducible exact⟨au,av,aw,ax,ay,az,aA⟩|go_keep) (first|(go_at_call 95;have E:=HY.out a.drew (KHq KBq);with_reducible refine E.mono ?_;clear E;rintro e O ⟨o2,d2,Z,n2,V,o3,d3,aE,rfl,ao,aa,T,_,_,g⟩;have f:Below a.heap.size a O:=Below.trans (show Below a.heap.size a a.drew from(KHq KBq)) (g.mono (by simp));have aO:=f.size;have aa:=Q04 aa (show w.heap.size<=_ by(try simp) <;> omega);have T:=Q04 T (show w.heap.size<=_ by(try simp) <;> omega);have an:=List.length_take_le 3 ((o3,8,d3)::hs);generalize List.take 3 ((o3,8,d3)::hs)=R at ao T an;subst ao;have F:=bC f p0 n;have G:=bC f p1 n;have H:=bC f p2 n;have I:=bC f y1 ae;have J:=bC f c0 q;have M:=bC f c1 q;have N:=bC f c2 q;clear g)|(go_at_call 95;have E:=HY.out (a.alloc (.cells #[.int .i64 0,.slice none 0 0,.slice none 0 0] 29)).drew (KHq (KBq.alloc (Kaq _) _));with_reducible refine E.mono ?_;clear E;rintro e O ⟨o2,d2,Z,n2,V,o3,d3,aE,rfl,ao,aa,T,_,_,g⟩;have f:Below a.heap.size a O:=Below.trans (show Below a.heap.size a (a.alloc (.cells #[.int .i64 0,.slice none 0 0,.slice none 0 0] 29)).drew from(KHq (KBq.alloc (Kaq _) _))) (g.mono (by simp));have aO:=f.size;have aa:=Q04 aa (show w.heap.size<=_ by(try simp) <;> omega);have T:=Q04 T (show w.heap.size<=_ by(try simp) <;> omega);have an:=List.length_take_le 3 ((o3,8,d3)::hs);generalize List.take 3 ((o3,8,d3)::hs)=R at ao T an;subst ao;have F:=bC f p0 n;have G:=bC f p1 n;have H:=bC f p2 n;have I:=bC f y1 ae;have J:=bC f c0 q;have M:=bC f c1 q;have N:=bC f c2 q;have r:=Q34 g;have aX:=(KEq r);have aI:=Q00 r 0 _ rfl;have aL:=Q01 r 0;have aJ:=Q00 r 1 _ rfl;have aM:=Q01 r 1;have aK:=Q00 r 2 _ rfl;have aN:=Q01 r 2;have au:(((O.setCell ⟨a.heap.size,0,none⟩ (.int .i64 key)).setCell ⟨a.heap.size,1,none⟩ (.slice o2 m.length d2)).setCell ⟨a.heap.size,2,none⟩ (.slice Z R.length V)).cell? ⟨z.heap.size,0,none⟩=some (.int .i64 key):=Q06 F n;have av:(((O.setCell ⟨a.heap.size,0,none⟩ (.int .i64 key)).setCell ⟨a.heap.size,1,none⟩ (.slice o2 m.length d2)).setCell ⟨a.heap.size,2,none⟩ (.slice Z R.length V)).cell? ⟨z.heap.size,1,none⟩=some (.slice o l.length c):=Q06 G n;have aw:(((O.setCell ⟨a.heap.size,0,none⟩ (.int .i64 key)).setCell ⟨a.heap.size,1,none⟩ (.slice o2 m.length d2)).setCell ⟨a.heap.size,2,none⟩ (.slice Z R.length V)).cell? ⟨z.heap.size,2,none⟩=some (.slice oR hs.length cR):=Q06 H n;have ax:(((O.setCell ⟨a.heap.size,0,none⟩ (.int .i64 key)).setCell ⟨a.heap.size,1,none⟩ (.slice o2 m.length d2)).setCell ⟨a.heap.size,2,none⟩ (.slice Z R.length V)).cell? ⟨w.heap.size,1,none⟩=some (.slice (some ⟨b,off,none⟩) cs.length cap):=Q06 I ae;have ay:(((O.setCell ⟨a.heap.size,0,none⟩ (.int .i64 key)).setCell ⟨a.heap.size,1,none⟩ (.slice o2 m.length d2)).setCell ⟨a.heap.size,2,none⟩ (.slice Z R.length V)).cell? ⟨b,off+t * 3,none⟩=some (.int .i64 x):=Q06 J q;have az:(((O.setCell ⟨a.heap.size,0,none⟩ (.int .i64 key)).setCell ⟨a.heap.size,1,none⟩ (.slice o2 m.length d2)).setCell ⟨a.heap.size,2,none⟩ (.slice Z R.length V)).cell? ⟨b,off+t * 3+1,none⟩=some (.int .i64 y):=Q06 M q;have aA:(((O.setCell ⟨a.heap.size,0,none⟩ (.int .i64 key)).setCell ⟨a.heap.size,1,none⟩ (.slice o2 m.length d2)).setCell ⟨a.heap.size,2,none⟩ (.slice Z R.length V)).cell? ⟨b,off+t * 3+2,none⟩=some (.int .i64 u):=Q06 N q;clear g))
      all_goals (go_wp2_with fail;go_meet)
      all_goals first
       |with_reducible exact Qjb r f (Kaq _) aa T rfl an
       |with_reducible exact QiS f aa T rfl an
     case rest=>
     obtain⟨B,aq,o',c',aF,aB,rfl,rfl,ai,aj,ba,HS3'⟩:=hcut;have aQ:=Q02 (ac.out.trans (aj.out.mono ac.out.size));have Y:=(aj.out.block z.heap.size n).trans s.out.box;have O:=Q00 ai.out.box 0 _ rfl;have x1:=Q00 ai.out.box 1 _ rfl;have x2:=Q00 ai.out.box 2 _ rfl;have d0:=Q00 Y 0 _ rfl;have d1:=Q00 Y 1 _ rfl;have d2:=Q00 Y 2 _ rfl;have f0:=Q01 Y 0;have f1:=Q01 Y 1;have f2:=Q01 Y 2;have a2:=Q02 (PBox.set (key:=key) Y rfl ai.out.backs ai.out.ring rfl)
     have a0:=Q02 (Q0s (aP.out.trans (aj.out.mono a6)) (Kaq _) (.int .i64 key) (.slice o' m.length c') (.slice aF aq.length aB));clear p0 p1 p2 y1 c0 c1 c2 Y;go_wp2;go_roundw
     case rel=>exact⟨t+1,m,aq,o',c',aF,aB,by omega,by go_num,a2.out,P.out,HS3'.out,a0.out⟩
     case measure=>simp[intOf];omega
  ·have e:t=cs.length:=by omega
   subst e;have a3:=Q02 (show(Q0S cs cs.length).isSome=true by rw[U.out];rfl);clear z0 z1 z2 zz p0 p1 p2 zp ak X HP aC HB U
   have bc:¬((cs.length:Int) < (cs.length:Int)):=by omega
   go_wp2;go_ret;exact⟨by rw[a3.out];rfl,A.out⟩
theorem Q5U (key safe:Int) (o:Option Addr) (cap:Nat) (cs:List Cd) (w:World) (m:RdC w.heap.size w o cs) (v:cs.length<=1048576):
  Calls Tryz.prog 40 #[jrn key (.slice o cs.length cap) safe] w fun e t=>e=.returned (.bool (Q0f key cs safe))/\Below w.heap.size w t:=by
 by_cases hall:Q1D key=true/\cs.length<=100/\0<=safe/\safe<=(cs.length:Int)
 ·obtain⟨n,h2,g,j⟩:=hall
  have e:Q0f key cs safe=(Q0S cs cs.length).isSome:=by unfold Q0f;simp[n,h2,g,j]
  rw[e]
  rcases m with m|⟨b,off,rfl,p,f⟩
  ·subst m
   exact Q8t key safe 0 0 cap [] w (fun h=>absurd rfl h) (fun i hi=>absurd hi (KMq _)) n h2 g j o (fun h=>absurd rfl h)
  ·exact Q8t key safe b off cap cs w (fun _=>p) f n h2 g j _ (fun _=>rfl)
 have l:=Q02 (show Q0f key cs safe=false by
  rw[Bool.eq_false_iff];intro h;unfold Q0f at h;simp only[Bool.and_eq_true,decide_eq_true_eq]at h;exact hall ⟨h.1.1.1.1,h.1.1.1.2,h.1.1.2,h.1.2⟩)
 have a:=Qag key;obtain⟨u,d⟩:∃W,(w.alloc (.cells #[.int .i64 key,.slice o cs.length cap,.int .i64 safe] 25))=W:=⟨_,rfl⟩;have c:=alb0v0v1 d;have k:=Q02 c;clear c;have B:=alz0v0v1 d;obtain⟨y,z,A⟩:=alc3v0v1 d;clear m
 cases hk:Q1D key with
 |false=>
  rw[hk]at a;clear hall;go_enter Tryz.func40,Tryz.ntmps40;go_wp2_with (go_at_call 48;refine(a _).mono ?_;rintro e q ⟨rfl,rfl⟩);go_ret;exact⟨by rw[l.out];rfl,k.out⟩
 |true=>
  by_cases h2:cs.length<=100
  ·by_cases g:0<=safe
   ·by_cases j:safe<=(cs.length:Int)
    ·exact absurd ⟨hk,h2,g,j⟩ hall
    ·skip
     rw[hk]at a;have r:decide (100 < (cs.length:Int))=false:=decide_eq_false (by omega);have s:decide (safe < 0)=false:=decide_eq_false (by omega);have x:decide ((cs.length:Int) < safe)=true:=decide_eq_true (by omega);clear hall;go_enter Tryz.func40,Tryz.ntmps40;go_wp2_with (go_at_call 48;refine(a _).mono ?_;rintro e q ⟨rfl,rfl⟩);go_ret;exact⟨by rw[l.out];rfl,k.out⟩
   ·skip
    rw[hk]at a;have r:decide (100 < (cs.length:Int))=false:=decide_eq_false (by omega);have s:decide (safe < 0)=true:=decide_eq_true (by omega);clear hall;go_enter Tryz.func40,Tryz.ntmps40;go_wp2_with (go_at_call 48;refine(a _).mono ?_;rintro e q ⟨rfl,rfl⟩);go_ret;exact⟨by rw[l.out];rfl,k.out⟩
  ·skip
   rw[hk]at a;have r:decide (100 < (cs.length:Int))=true:=decide_eq_true (by omega);clear hall;go_enter Tryz.func40,Tryz.ntmps40;go_wp2_with (go_at_call 48;refine(a _).mono ?_;rintro e q ⟨rfl,rfl⟩);go_ret;exact⟨by rw[l.out];rfl,k.out⟩
def PTabs (w:World) (base:Nat) (key:Int) (hs:List Hd) (R:List (List Bk)):Prop:=hs.length=R.length/\∀i,i < R.length->∃o3 c3 hs8,hs.getD i (none,0,0)=(o3,8,c3)/\ownL Q0E 47 w base (.slice o3 8 c3) hs8/\Tab (fun b=>Q14 key b (R.getD i [])) 8 w base hs8
theorem PTabs.kept {w c:World} {base:Nat} {key:Int} {hs:List Hd} {R:List (List Bk)} (h:PTabs w base key hs R) (b:Below w.heap.size w c):PTabs c base key hs R:=
 ⟨h.1,fun i hi=>by obtain⟨g,d,a,e,f,h2⟩:=h.2 i hi;exact⟨g,d,a,e,Q03 f b,h2.kept b⟩⟩
theorem PTabs.putB {w:World} {base:Nat} {key:Int} {hs:List Hd} {R:List (List Bk)} {B:Nat} {c:Array Value} (h:PTabs w base key hs R) (b:w.heap[B]? =some (.cells c 29 (0,0))) (j:Nat) (u:Value):PTabs (w.setCell ⟨B,j,none⟩ u) base key hs R:=
 ⟨h.1,fun i hi=>by obtain⟨k,d,a,e,f,h2⟩:=h.2 i hi;exact⟨k,d,a,e,Q0p f b QiG j u,h2.grown (Q0H w B j u) (fun q g=>Q1R (h2.row q g) b QiY)⟩⟩
theorem PTabs.setP {w:World} {base:Nat} {key:Int} {hs:List Hd} {R:List (List Bk)} {B:Nat} {c:Array Value} (h:PTabs w base key hs R) (a:w.heap[B]? =some (.cells c 29 (0,0))) (x y z:Value):PTabs (Go.Proofs.YtpneolgdghbinaaGreat.setP w B x y z) base key hs R:=
 ((h.putB a 0 x).putB (Q05 a 0 x) 1 y).putB (Q05 (Q05 a 0 x) 1 y) 2 z
theorem PTabs.low {w:World} {base:Nat} {key:Int} {hs:List Hd} {R:List (List Bk)} {B:Nat} (h:PTabs w base key hs R) (f:B < base) (j:Nat) (u:Value):PTabs (w.setCell ⟨B,j,none⟩ u) base key hs R:=
 ⟨h.1,fun i hi=>by
  obtain⟨k,c,a,e,d,h2⟩:=h.2 i hi;refine⟨k,c,a,e,Q0j d f j u,h2.grown (Q0H w B j u) (fun q g=>?_)⟩
  cases hob:(hv a q).ownBlock with
  |none=>exact .inl rfl
  |some b=>exact .inr (fun e=>by have:=((h2.row q g).lt b hob).1;injection e with e;omega)⟩
theorem PTabs.mono {w:World} {base b:Nat} {key:Int} {hs:List Hd} {R:List (List Bk)} (h:PTabs w base key hs R) (c:b<=base):PTabs w b key hs R:=
 ⟨h.1,fun i hi=>by obtain⟨g,d,a,e,f,h2⟩:=h.2 i hi;exact⟨g,d,a,e,Q04 f c,Tab.mono h2 c⟩⟩
theorem PTabs.cons {w:World} {base:Nat} {key:Int} {hs a:List Hd} {R:List (List Bk)} {m:List Bk} {d:Option Addr} {c:Nat} (h:PTabs w base key hs R) (f:ownL Q0E 47 w base (.slice d 8 c) a) (h2:Tab (fun b=>Q14 key b m) 8 w base a):PTabs w base key ((d,8,c)::hs) (m::R):=
 ⟨by simp[h.1],fun i hi=>by
  cases i with
  |zero=>exact⟨d,c,a,rfl,f,h2⟩
  |succ i=>simpa using h.2 i (by simpa using hi)⟩
theorem PTabs.take {w:World} {base:Nat} {key:Int} {hs:List Hd} {R:List (List Bk)} (n:Nat) (h:PTabs w base key hs R):PTabs w base key (hs.take n) (R.take n):=
 ⟨by simp[h.1],fun i hi=>by
  have a:i < n:=by simp at hi;omega
  have h2:i < R.length:=by simp at hi;omega
  have b:(hs.take n).getD i (none,0,0)=hs.getD i (none,0,0):=by simp[KFq,List.getElem?_take,a]
  have c:(R.take n).getD i []=R.getD i []:=by simp[KFq,List.getElem?_take,a]
  rw[b,c];exact h.2 i h2⟩
theorem Qdj {w x:World} {base d:Nat} {key:Int} {hs c:List Hd} {R:List (List Bk)} {m:List Bk} {g:Option Addr} {f:Nat} (h:PTabs w base key hs R) (j:Below w.heap.size w x) (i:ownL Q0E 47 x d (.slice g 8 f) c) (h2:Tab (fun b=>Q14 key b m) 8 x d c) (a:base<=d):PTabs x base key (((g,8,f)::hs).take 3) ((m::R).take 3):=
 ((h.kept j).cons (Q04 i a) (Tab.mono h2 a)).take 3
def Q1f (cs:List Cd):Nat->List (List Bk)
 |0=> [[]]
 |t+1=>(Q0i cs (t+1)::Q1f cs t).take 3
theorem Q6f {cs:List Cd} {t:Nat} (h:(Q0S cs cs.length).isSome=true) (ht:t<=cs.length):∃l,Q0S cs t=some l:=by
 cases hr:Q0S cs t with
 |some l=>exact⟨l,rfl⟩
 |none=>rw[Q6k hr ht]at h;cases h
theorem QcR {cs:List Cd} {t:Nat} {l:List Bk} (h:(Q0S cs cs.length).isSome=true) (c:t < cs.length) (b:Q0S cs t=some l):∃m,Q0F (cs.getD t (0,0,0)).1 (cs.getD t (0,0,0)).2.1 (cs.getD t (0,0,0)).2.2=true/\doL l (cs.getD t (0,0,0)).1 (cs.getD t (0,0,0)).2.1 (cs.getD t (0,0,0)).2.2=some m/\Q0S cs (t+1)=some m:=by
 obtain⟨m,hm⟩:=Q6f h (show t+1<=cs.length by omega);have hs:=Q2A c;rw[hm,b]at hs;simp only[Q5f,Option.bind_some]at hs
 split at hs
 ·next a=>exact⟨m,a,hs.symm,hm⟩
 ·cases hs
theorem Q80 (key:Int) (b off cap:Nat) (cs:List Cd) (w:World) (G:cs.length≠0->b < w.heap.size) (P:∀i,i < cs.length->∀j,j < Q3F.k->w.cell? ⟨b,off+i * Q3F.k+j,none⟩=(Q3F.cs (cs.getD i Q3F.d))[j]?) (hk:Q1D key=true) (hl:cs.length<=100) (ac:(Q0S cs cs.length).isSome=true) (ob:Option Addr) (Z:cs.length≠0->ob=some ⟨b,off,none⟩):
  Calls Tryz.prog 43 #[.int .i64 key,.slice ob cs.length cap] w fun e w'=> ∃o c U M hs,e=.returned (plv key (.slice o (Q0i cs cs.length).length c) (.slice U hs.length M))/\Q1e w' w.heap.size (.slice o (Q0i cs cs.length).length c) (Q0i cs cs.length)/\ownL Q0E 51 w' w.heap.size (.slice U hs.length M) hs/\PTabs w' w.heap.size key hs (Q1f cs cs.length)/\hs.length<=3/\Below w.heap.size w w':=by
 have HC:=Q02 P;have aJ:=Q02 Z;have aF:=Q02 G;have HN:=Q02 hl;have aq:=Q02 ac;clear P Z G ac;obtain⟨X,N⟩:∃W,(w.alloc (.cells #[.int .i64 0,.slice none 0 0,.slice none 0 0] 29))=W:=⟨_,rfl⟩;have O:=alb0v0v1 N;have HB:=Q02 O;clear O;have r:=alz0v0v1 N;obtain⟨r0,r1,r2⟩:=alc3v0v1 N;obtain⟨D,E,F⟩:=alf3v0v1 N;have q:=r;have HL:=Q02 (Q7o key X hk);go_enter Tryz.func43,Tryz.ntmps43;go_wp2_with fail;refine(HL.out).mono ?_;rintro e g ⟨gR,rfl,T,s⟩;have ao:=Q02 T;have a4:=s.size;clear T;replace r0:=bC s r0 r
 replace r1:=bC s r1 r;replace r2:=bC s r2 r;replace D:=bF s D r;replace E:=bF s E r;replace F:=bF s F r;replace r:=Kbq r s.size;replace HB:=Q02 (HB.out.trans (s.mono HB.out.size));clear s;have aT:=r0;have aU:=r1;have aV:=r2;have aN:=D;have aO:=E;have aP:=F;have I:=r;have ae:=HB;obtain⟨W1,A⟩:∃W,(g.alloc (.cells #[.int .i64 key,.slice none 0 0,.slice (some ⟨gR,0,none⟩) 1 1] 29))=W:=⟨_,rfl⟩;have a:=alb0v0v1 A;replace r0:=bC a r0 r;replace r1:=bC a r1 r;replace r2:=bC a r2 r;replace D:=bF a D r
 replace E:=bF a E r;replace F:=bF a F r;replace r:=Kbq r a.size;replace HB:=Q02 (HB.out.trans (a.mono HB.out.size));clear a;have zp:=alz0v0v1 A;obtain⟨p0,p1,p2⟩:=alc3v0v1 A;obtain⟨o3,c3,ay,aB,aC,aD⟩:=ao.out;have ag:=alb0v0v1 A;have HP:Hid (PBox W1 X.heap.size g.heap.size key [] [(o3,8,c3)] none 0 (some ⟨gR,0,none⟩) 1):=⟨by rw[<-A];exact World.alloc_heap_new g _,KLq _ _ _ _,Q03 aB ag⟩
 have al:Hid (PTabs W1 X.heap.size key [(o3,8,c3)] (Q1f cs 0)):=(PTabs.cons (R:=[]) (hs:=[]) ⟨rfl,fun i hi=>absurd hi (KMq _)⟩ aC aD).kept ag;clear aB aC aD ao ag;go_wp2
 go_loopw [6] (fun iv wr=> ∃(t:Nat) (l:List Bk) (hs:List Hd) (o:Option Addr) (c:Nat) (U:Option Addr) (M:Nat),t<=cs.length/\iv=.int .i64 (t:Int)/\Hid (PBox wr X.heap.size g.heap.size key l hs o c U M)/\Hid (PTabs wr X.heap.size key hs (Q1f cs t))/\Hid (Q0S cs t=some l)/\Hid (hs.length<=3)/\Hid (Below g.heap.size g wr))
  (fun iv _=>cs.length - (intOf iv).toNat)
 case atStart=>exact⟨0,[],_,_,_,_,_,Kcq _,rfl,HP.out,al.out,rfl,(Nat.le_of_ble_eq_true rfl),by rw[<-A];exact KBq.alloc (Kaq _) _⟩
 case round=>
  obtain⟨t,l,hs,o,c,U,M,a6,rfl,f,ab,af,ar,h⟩:=hrel;have aS:=h.out.size;clear r0 r1 r2 D E F r p0 p1 p2 zp N A HP al HB;have J:Hid (Below w.heap.size w wr):=ae.out.trans (h.out.mono ae.out.size);have aR:g.heap.size < wr.heap.size:=(KEq f.out.box)
  by_cases hlt:t < cs.length
  ·skip
   have aX:(t:Int) < (cs.length:Int):=by omega
   have a5:(0:Int)<=(t:Int):=by omega
   have Z:=aJ.out (by omega);have G:=aF.out (by omega);subst Z;obtain⟨aQ,a2⟩:=Q4v t l (by omega) af.out;obtain⟨m,hc,Y,ak⟩:=QcR aq.out hlt af.out;obtain⟨c0,c1,c2⟩:=RdL.cmd (C:=w.heap.size) HC.out t hlt;replace c0:=(J.out.cell (p:=⟨b,off+t * 3,none⟩) G).trans c0;replace c1:=(J.out.cell (p:=⟨b,off+t * 3+1,none⟩) G).trans c1;replace c2:=(J.out.cell (p:=⟨b,off+t * 3+2,none⟩) G).trans c2;obtain⟨x,y,u,ad⟩:∃x y u,cs.getD t (0,0,0)=(x,y,u):=⟨_,_,_,rfl⟩;rw[ad]at c0 c1 c2 hc Y;dsimp only at c0 c1 c2 hc Y;clear ad;have aI:=Q02 ak
   have aM:=Q02 (show Q1f cs (t+1)=(m::Q1f cs t).take 3 by rw[Q1f];unfold Q0i;rw[ak];rfl);clear ak;have ay:=ar.out
   have ai:b < wr.heap.size:=by have:=J.out.size;omega
   have ah:b < g.heap.size:=by have:=ae.out.size;omega
   have an:=Q02 (ownL.rds (L:=Q16) f.out.backs);have ap:=Q02 (ownL.rds (L:=Q0E) f.out.ring);have aw:=QiM f.out.ring;have HY:=Q02 (fun W (s:Below wr.heap.size wr W)=>Q6Q key o c l U M hs x y u m W hk aQ hc Y (by have:=HN.out;omega) ((an.out.kept s (Kaq _)).le s.size) ((ap.out.kept s (Kaq _)).le s.size) aw ay);clear hc Y aw an ap;have p0:wr.cell? ⟨g.heap.size,0,none⟩=some (.int .i64 key):=Q00 f.out.box 0 _ rfl;have p1:wr.cell? ⟨g.heap.size,1,none⟩=some (.slice o l.length c):=Q00 f.out.box 1 _ rfl
   have p2:wr.cell? ⟨g.heap.size,2,none⟩=some (.slice U hs.length M):=Q00 f.out.box 2 _ rfl
   have aW:X.heap.size<=wr.heap.size:=by omega
   go_wp2
   go_region_with (first|(go_at_call 95;have av:=HY.out wr.drew (KHq KBq);with_reducible refine av.mono ?_;clear av;rintro e x0 ⟨o2,d2,H,n2,B,o3,d3,aY,rfl,ax,aa,V,aA,aE,s⟩;have z:Below wr.heap.size wr x0:=Below.trans (show Below wr.heap.size wr wr.drew from KHq KBq) (s.mono (by simp));have bd:=z.size;have aa:=Q04 aa (show X.heap.size<=_ by(try simp) <;> omega);have V:=Q04 V (show X.heap.size<=_ by(try simp) <;> omega);have pt:=Qdj ab.out z aA aE (show X.heap.size<=_ by(try simp) <;> omega);rw[<-aM.out]at pt;have aj:=List.length_take_le 3 ((o3,8,d3)::hs);generalize List.take 3 ((o3,8,d3)::hs)=hs2 at ax V aj pt;subst ax;have k0:=bC z c0 ai;have k1:=bC z c1 ai;have k2:=bC z c2 ai;have n:=(z.block g.heap.size aR).trans f.out.box;have a7:x0.cell? ⟨g.heap.size,0,none⟩=some (.int .i64 key):=Q00 n 0 _ rfl;have ba:=Q01 n 0;have a8:x0.cell? ⟨g.heap.size,1,none⟩=some (.slice o l.length c):=Q00 n 1 _ rfl;have bb:=Q01 n 1;have a9:x0.cell? ⟨g.heap.size,2,none⟩=some (.slice U hs.length M):=Q00 n 2 _ rfl;have bc:=Q01 n 2;have s0:(((x0.setCell ⟨g.heap.size,0,none⟩ (.int .i64 key)).setCell ⟨g.heap.size,1,none⟩ (.slice o2 m.length d2)).setCell ⟨g.heap.size,2,none⟩ (.slice H hs2.length B)).cell? ⟨b,off+t * 3,none⟩=some (.int .i64 x):=Q06 k0 ah;have s1:(((x0.setCell ⟨g.heap.size,0,none⟩ (.int .i64 key)).setCell ⟨g.heap.size,1,none⟩ (.slice o2 m.length d2)).setCell ⟨g.heap.size,2,none⟩ (.slice H hs2.length B)).cell? ⟨b,off+t * 3+1,none⟩=some (.int .i64 y):=Q06 k1 ah;have s2:(((x0.setCell ⟨g.heap.size,0,none⟩ (.int .i64 key)).setCell ⟨g.heap.size,1,none⟩ (.slice o2 m.length d2)).setCell ⟨g.heap.size,2,none⟩ (.slice H hs2.length B)).cell? ⟨b,off+t * 3+2,none⟩=some (.int .i64 u):=Q06 k2 ah;have aL:=Q02 (PBox.set (key:=key) n rfl aa V rfl);have am:=Q02 (PTabs.setP pt n (.int .i64 key) (.slice o2 m.length d2) (.slice H hs2.length B));have aH:=Q02 aj;have aK:=Q02 z;clear s aa V aA aE pt aj z n))
   all_goals (have aG:=Q02 (Q0s (h.out.trans (aK.out.mono aS)) (Kaq _) (.int .i64 key) (.slice o2 m.length d2) (.slice H hs2.length B));go_wp2;go_roundw;(case rel=>exact⟨t+1,m,hs2,o2,d2,H,B,by omega,by go_num,aL.out,am.out,aI.out,aH.out,aG.out⟩);(case measure=>(simp[intOf];omega)))
  ·have e:t=cs.length:=by omega
   subst e
   have a3:¬((cs.length:Int) < (cs.length:Int)):=by omega
   have az:Q0i cs cs.length=l:=by unfold Q0i;rw[af.out];rfl
   have au:=Q02 az;clear az;have p0:wr.cell? ⟨g.heap.size,0,none⟩=some (.int .i64 key):=Q00 f.out.box 0 _ rfl;have p1:wr.cell? ⟨g.heap.size,1,none⟩=some (.slice o l.length c):=Q00 f.out.box 1 _ rfl;have p2:wr.cell? ⟨g.heap.size,2,none⟩=some (.slice U hs.length M):=Q00 f.out.box 2 _ rfl;have q0:=bC h.out aT I;have aZ:=bF h.out aN I;have q1:=bC h.out aU I;have a0:=bF h.out aO I;have q2:=bC h.out aV I;have a1:=bF h.out aP I;go_wp2
   refine bodyPost_ret (v:=plv key (.slice o l.length c) (.slice U hs.length M)) (by simp[results,Tryz.results43,go_sem,q0,q1,q2]) rfl ⟨o,c,U,M,hs,by rw[au.out], ?_, ?_, ?_,ar.out,Q0s J.out (Kaq _) _ _ _⟩
   ·rw[au.out];exact Q04 (Q0j (Q0j (Q0j f.out.backs q 0 _) q 1 _) q 2 _) (by omega)
   ·exact Q04 (Q0j (Q0j (Q0j f.out.ring q 0 _) q 1 _) q 2 _) (by omega)
   ·exact PTabs.mono (((ab.out.low q 0 _).low q 1 _).low q 2 _) (by omega)
theorem QdS {α:Type} {L:Lay α} (w:World) (e:TypeId):ownL L e (w.alloc (.cells #[] e)) w.heap.size (.slice (some ⟨w.heap.size,0,none⟩) 0 0) ([]:List α):=Q3q w e
def QaG (m:Jm) (keep:Int):Int:=if keep < (m.l.length:Int) - m.safe then m.safe+keep else m.l.length
def jm0:Jm:=⟨0,[],0⟩
def Qi1 (m:Jm) (keep:Int):Bool:=Q0f m.key m.l m.safe && decide (0<=keep)
def Q4W (m:Jm) (keep:Int):Jm:=if Qi1 m keep=true then⟨m.key,m.l.take (QaG m keep).toNat,QaG m keep⟩else jm0
theorem Q0K {key:Int} {cs:List Cd} {safe:Int} (h:Q0f key cs safe=true):Q1D key=true/\cs.length<=100/\0<=safe/\safe<=(cs.length:Int):=by
 unfold Q0f at h;simp only[Bool.and_eq_true,decide_eq_true_eq]at h;exact⟨h.1.1.1.1,h.1.1.1.2,h.1.1.2,h.1.2⟩
theorem QcC {m:Jm} (keep:Int) (h:Q6L m):(Q4W m keep).l.length<=1048576:=by
 unfold Q4W;unfold Q6L at h
 split
 ·simp;omega
 ·decide
theorem QgK {C:Nat} {w:World} {o:Option Addr} {l:List Cd} (n:Nat) (h:RdC C w o l):RdC C w o (l.take n):=by
 rcases h with h|⟨b,off,f,a,r⟩
 ·left;rw[h];simp
 ·refine .inr ⟨b,off,f,a,fun i hi j d=>?_⟩
  have c:i < n:=by simp at hi;omega
  have h2:i < l.length:=by simp at hi;omega
  rw[r i h2 j d];simp[KFq,List.getElem?_take,c]
theorem Qda (key safe:Int) (o:Option Addr) (cap:Nat) (l:List Cd) (n:Nat) (r:n=l.length) (w:World) (N:RdC w.heap.size w o l) (hn:o=none->cap=0) (hl:l.length<=1048576):
  Calls Tryz.prog 169 #[jrn key (.slice o n cap) safe] w fun e w'=> ∃T c2,e=.returned (jrn key (.slice T n c2) safe)/\QaU w' w.heap.size (.slice T n c2) l/\Below w.heap.size w w':=by
 obtain⟨c,b⟩:∃W,((w.alloc (.cells #[.int .i64 key,.slice o n cap,.int .i64 safe] 25)).alloc (.cells #[.int .i64 0,.slice none 0 0,.int .i64 0] 25))=W:=⟨_,rfl⟩;have d:=alb0v0v2 b;have t:=Q02 d;clear d;have H:=alz0v0v2 b;obtain⟨V,X,Y⟩:=alc3v0v2 b;have m:=alz0v1v2 b;obtain⟨r0,r1,r2⟩:=alc3v1v2 b;obtain⟨z,A,B⟩:=alf3v1v2 b;have Z:=Q02 (N.kept t.out (Kaq _));have p:=Q02 r;have j:=m;clear N r;go_enter Tryz.func169,Tryz.ntmps169;go_wp2
 go_region_held3 (fun w'=>w'.cell? ⟨w.heap.size,0,none⟩=some (.int .i64 key)/\w'.cell? ⟨w.heap.size,1,none⟩=some (.slice o n cap)/\w'.cell? ⟨w.heap.size,2,none⟩=some (.int .i64 safe)) (first|with_reducible exact⟨O,P,R⟩|with_reducible exact⟨V,X,Y⟩|with_reducible exact⟨Q06 O (Nat.lt_succ_self _),Q06 P (Nat.lt_succ_self _),Q06 R (Nat.lt_succ_self _)⟩|go_keep) (first|(have f:ownL Q3F 77 (c.alloc (.cells #[] 77)).drew c.heap.size (.slice (some ⟨c.heap.size,0,none⟩) 0 0) ([]:List Cd):=QdS c _;have g:Below c.heap.size c (c.alloc (.cells #[] 77)).drew:=KHq (KBq.alloc (Kaq _) _);refine Q0n QdE rfl _ _ rfl c.heap.size (.slice (some ⟨c.heap.size,0,none⟩) 0 0) ([]:List Cd) rfl f o cap w.heap.size l n p.out rfl hn (Z.out.kept g (by omega)) (by simp;omega) (by(try simp) <;> omega) ?_;intro v8 U i q C;have a:Below c.heap.size c U:=g.grown q (by(try simp) <;> omega) (fun k h=>by simp[Value.ownBlock]at h;omega);have aa:=a.size;obtain⟨D,y,e8,_⟩:=ownL.open (L:=Q3F) i;subst e8;have u:Hid (QaU U c.heap.size (.slice D l.length y) l):=i;have O:=bC a V H;have P:=bC a X H;have R:=bC a Y H;have E:=bC a r0 m;have F:=bC a r1 m;have G:=bC a r2 m;have I:=bF a z m;have J:=bF a A m;have M:=bF a B m;have x:=Q02 a;clear i q C f g a))
 go_wp2;have s:=p.out
 skip
 refine bodyPost_ret (v:=jrn key (.slice D l.length y) safe) (by simp[results,Tryz.results169,go_sem,E,F,G]) rfl ⟨D,y,by rw[s], ?_,Q0s (t.out.trans (x.out.mono t.out.size)) (Nat.le_succ _) _ _ _⟩;rw[s];exact Q04 (Q0j (Q0j (Q0j u.out j 0 _) j 1 _) j 2 _) (by omega)
def roomJm (v:Value):Prop:=∃k o n c s,v=jrn k (.slice o n c) s/\n<=c/\(o=none->c=0)
theorem InJm.room {lo hi:Nat} {w:World} {v:Value} {m:Jm} (h:InJm lo hi w v m):roomJm v:=by
 obtain⟨q,e,c⟩:=h
 rcases c.1.2 with⟨a,f⟩|⟨g,cap,b,a,n,p,d,i,j,k⟩
 ·exact⟨_,none,0,0,_,by rw[e,a],Kaq _,fun _=>rfl⟩
 ·exact⟨_,some ⟨g,0,none⟩,m.l.length,cap,_,by rw[e,a],d,fun h=>by cases h⟩
theorem roomJm.two {k s:Int} {o:Option Addr} {n c:Nat} (h:roomJm (jrn k (.slice o n c) s)):n<=c/\(o=none->c=0):=by
 obtain⟨i,l,j,g,m,e,f,h2⟩:=h;injection e with e;simp at e;obtain⟨_,⟨a,b,d⟩,_⟩:=e;subst a b d;exact⟨f,h2⟩
def QiW (l:List Cd) (safe keep:Int):Int:=if keep < (l.length:Int) - safe then safe+keep else l.length
theorem Q1E {w:World} {base s n:Nat} {v:Value} {a:List Value} {B:Nat} {c:Array Value} (h:w.ownsRow base 77 s v n a) (b:w.heap[B]? =some (.cells c 25 (0,0))) (j:Nat) (u:Value):(w.setCell ⟨B,j,none⟩ u).ownsRow base 77 s v n a:=
 World.ownsRow.kept h (Q0H w B j u) (Q1R h b (by decide))
theorem Q60 (o:Option Addr) (cap:Nat) (l:List Cd) (n:Nat) (b:n=l.length) (w:World) (g:RdC w.heap.size w o l) (i:o=none->cap=0) (h:l.length<=1048576):
  Calls Tryz.prog 71 #[.slice o n cap] w fun e c=> ∃a c2,e=.returned (.slice a n c2)/\QaU c w.heap.size (.slice a n c2) l/\Below w.heap.size w c:=by
 subst b;refine(Q9H o cap l w g i h).mono ?_;rintro e c ⟨v,rfl,d,h2⟩;obtain⟨a,c2,f,_⟩:=ownL.open (L:=Q3F) d;subst f;exact⟨a,c2,rfl,d,h2⟩
theorem Qb6 (key keep:Int) (w:World) (U:0<=keep) (r:∀W:World,Below w.heap.size w W->Calls Tryz.prog 70 #[jrn key (.slice none 0 0) 0] W fun e w'=>e=.returned (.bool true)/\Below W.heap.size W w'):
  Calls Tryz.prog 29 #[jrn key (.slice none 0 0) 0,.int .i64 keep] w fun e w'=> ∃h c2,e=.returned (jrn key (.slice h 0 c2) 0)/\QaU w' w.heap.size (.slice h 0 c2) ([]:List Cd)/\Below w.heap.size w w':=by
 obtain⟨T,d⟩:∃W,((w.alloc (.cells #[.int .i64 key,.slice none 0 0,.int .i64 0] 25)).alloc (.cells #[.int .i64 0,.slice none 0 0,.int .i64 0] 25))=W:=⟨_,rfl⟩;have f:=alb0v0v2 d;have p:=Q02 f;clear f;have j:=alz0v0v2 d;obtain⟨t,u,x⟩:=alc3v0v2 d;have c:=alz0v1v2 d;obtain⟨F,G,H⟩:=alc3v1v2 d;obtain⟨k,l,m⟩:=alf3v1v2 d;have Z:=c;have z:=Q02 (r T p.out);clear r
 have B:¬(keep < 0):=by omega
 have M:decide (keep < 0)=false:=decide_eq_false B
 have X:min keep 0=0:=by omega
 have V:¬(keep < 0 - 0):=by omega
 have N:decide (keep < 0)=false:=decide_eq_false (by omega);go_enter Tryz.func29,Tryz.ntmps29;go_wp2_with fail;refine(z.out).mono ?_;rintro e i ⟨rfl,b⟩;have Y:=b.size;replace t:=bC b t j;replace u:=bC b u j;replace x:=bC b x j;replace j:=Kbq j b.size;replace F:=bC b F c;replace G:=bC b G c;replace H:=bC b H c;replace k:=bF b k c;replace l:=bF b l c;replace m:=bF b m c;replace c:=Kbq c b.size;replace p:=Q02 (p.out.trans (b.mono p.out.size));clear b;go_wp2
 go_region_held3 (fun w'=>w'.cell? ⟨w.heap.size,0,none⟩=some (.int .i64 key)/\w'.cell? ⟨w.heap.size,1,none⟩=some (.slice none 0 0)/\w'.cell? ⟨w.heap.size,2,none⟩=some (.int .i64 0)) (first|with_reducible exact⟨O,P,R⟩|with_reducible exact⟨t,u,x⟩|with_reducible exact⟨s0,s1,s2⟩|go_keep) (first|(go_at_call 71;have q:=Q60 none 0 ([]:List Cd) 0 rfl i.drew (.inl rfl) (fun _=>rfl) (by simp);with_reducible refine q.mono ?_;clear q;rintro e s ⟨h,c2,rfl,g,b⟩;have a:Below i.heap.size i s:=Below.trans (show Below i.heap.size i i.drew from KHq KBq) (b.mono (by simp));have g:=Q04 g (show i.heap.size<=_ by simp);have O:=bC a t j;have P:=bC a u j;have R:=bC a x j;have C:=bC a F c;have D:=bC a G c;have E:=bC a H c;have I:=bF a k c;have J:=bF a l c;have L:=bF a m c;have s0:(((s.setCell ⟨w.heap.size+1,0,none⟩ (.int .i64 key)).setCell ⟨w.heap.size+1,1,none⟩ (.slice h 0 c2)).setCell ⟨w.heap.size+1,2,none⟩ (.int .i64 0)).cell? ⟨w.heap.size,0,none⟩=some (.int .i64 key):=Q06 O (Nat.lt_succ_self _);have s1:(((s.setCell ⟨w.heap.size+1,0,none⟩ (.int .i64 key)).setCell ⟨w.heap.size+1,1,none⟩ (.slice h 0 c2)).setCell ⟨w.heap.size+1,2,none⟩ (.int .i64 0)).cell? ⟨w.heap.size,1,none⟩=some (.slice none 0 0):=Q06 P (Nat.lt_succ_self _);have s2:(((s.setCell ⟨w.heap.size+1,0,none⟩ (.int .i64 key)).setCell ⟨w.heap.size+1,1,none⟩ (.slice h 0 c2)).setCell ⟨w.heap.size+1,2,none⟩ (.int .i64 0)).cell? ⟨w.heap.size,2,none⟩=some (.int .i64 0):=Q06 R (Nat.lt_succ_self _);have y:=Q02 g;have A:=Q02 a;clear b g a))
 have n:w.heap.size+1 < i.heap.size:=c;go_wp2;refine bodyPost_ret (v:=jrn key (.slice h 0 c2) 0) (by simp[results,Tryz.results29,go_sem,C,D,E]) rfl ⟨h,c2,rfl,Q04 (Q0j (Q0j (Q0j y.out n 0 _) n 1 _) n 2 _) (by omega),Q0s (p.out.trans (A.out.mono p.out.size)) (Nat.le_succ _) _ _ _⟩
theorem Qdm (key safe keep:Int) (q:Addr) (c:Nat) (l:List Cd) (n:Nat) (w:World) (Z:RdC w.heap.size w (some q) l) (ac:l.length<=c) (hl:l.length<=100) (h0:0<=safe) (h1:safe<=(l.length:Int)) (ab:0<=keep) (M:(n:Int)=QiW l safe keep) (y:∀W:World,Below w.heap.size w W->Calls Tryz.prog 70 #[jrn key (.slice (some q) l.length c) safe] W fun e w'=>e=.returned (.bool true)/\Below W.heap.size W w'):
  Calls Tryz.prog 29 #[jrn key (.slice (some q) l.length c) safe,.int .i64 keep] w fun e w'=> ∃m c2,e=.returned (jrn key (.slice m n c2) (n:Int))/\QaU w' w.heap.size (.slice m n c2) (l.take n)/\Below w.heap.size w w':=by
 obtain⟨W0,g⟩:∃W,((w.alloc (.cells #[.int .i64 key,.slice (some q) l.length c,.int .i64 safe] 25)).alloc (.cells #[.int .i64 0,.slice none 0 0,.int .i64 0] 25))=W:=⟨_,rfl⟩;have i:=alb0v0v2 g;have j:=Q02 i;clear i;have p:=alz0v0v2 g;obtain⟨A,B,C⟩:=alc3v0v2 g;have d:=alz0v1v2 g;obtain⟨R,T,U⟩:=alc3v1v2 g;obtain⟨r,s,t⟩:=alf3v1v2 g;have ak:=d;have G:=Q02 (y W0 j.out);clear y
 have L:¬(keep < 0):=by omega
 have aa:decide (keep < 0)=false:=decide_eq_false L
 have ai:n<=l.length:=by have:=M;unfold QiW at this;split at this <;> omega
 have ae:(0:Int)<=(n:Int):=by omega
 have af:(n:Int)<=(l.length:Int):=by omega
 have ag:(n:Int)<=(c:Int):=by omega
 have ah:n<=c:=by omega
 have I:=Q02 (QgK n Z);have J:=Q02 (show n=(l.take n).length by simp;omega);have E:=Q02 (show(l.take n).length<=1048576 by simp;omega)
 have w1:IntKind.i64.wrap ((l.length:Int) - safe)=(l.length:Int) - safe:=by rw[IntKind.wrap_i64];omega
 have D:=Q02 (show(n:Int)=if keep < (l.length:Int) - safe then safe+keep else l.length from M);clear M Z
 have w2:IntKind.i64.wrap (safe+min keep ((l.length:Int) - safe))=(n:Int):=by have:=D.out;rw[IntKind.wrap_i64];split at this <;> omega
 go_enter Tryz.func29,Tryz.ntmps29;go_wp2_with fail;refine(G.out).mono ?_;rintro e f ⟨rfl,b⟩;have aj:=b.size;replace A:=bC b A p;replace B:=bC b B p;replace C:=bC b C p;replace p:=Kbq p b.size;replace R:=bC b R d;replace T:=bC b T d;replace U:=bC b U d;replace r:=bF b r d;replace s:=bF b s d;replace t:=bF b t d;replace d:=Kbq d b.size;replace j:=Q02 (j.out.trans (b.mono j.out.size));clear b;go_wp2
 go_region_held3 (fun w'=>w'.cell? ⟨w.heap.size,0,none⟩=some (.int .i64 key)/\w'.cell? ⟨w.heap.size,1,none⟩=some (.slice (some q) l.length c)/\w'.cell? ⟨w.heap.size,2,none⟩=some (.int .i64 safe)) (first|with_reducible exact⟨k0,k1,k2⟩|with_reducible exact⟨A,B,C⟩|with_reducible exact⟨s0,s1,s2⟩|go_keep) (first|(go_at_call 71;have x:=Q60 (some q) c (l.take n) n J.out f.drew ((I.out.kept (j.out.trans ((show Below f.heap.size f f.drew from KHq KBq).mono j.out.size)) (Kaq _)).le ((j.out.trans ((show Below f.heap.size f f.drew from KHq KBq).mono j.out.size))).size) (fun h=>by cases h) E.out;with_reducible refine x.mono ?_;clear x;rintro e z ⟨m,c2,rfl,k,b⟩;have a:Below f.heap.size f z:=Below.trans (show Below f.heap.size f f.drew from KHq KBq) (b.mono (by simp));have k:=Q04 k (show f.heap.size<=_ by simp);have k0:=bC a A p;have k1:=bC a B p;have k2:=bC a C p;have N:=bC a R d;have O:=bC a T d;have P:=bC a U d;have V:=bF a r d;have X:=bF a s d;have Y:=bF a t d;have s0:(((z.setCell ⟨w.heap.size+1,0,none⟩ (.int .i64 key)).setCell ⟨w.heap.size+1,1,none⟩ (.slice m n c2)).setCell ⟨w.heap.size+1,2,none⟩ (.int .i64 (n:Int))).cell? ⟨w.heap.size,0,none⟩=some (.int .i64 key):=Q06 k0 (Nat.lt_succ_self _);have s1:(((z.setCell ⟨w.heap.size+1,0,none⟩ (.int .i64 key)).setCell ⟨w.heap.size+1,1,none⟩ (.slice m n c2)).setCell ⟨w.heap.size+1,2,none⟩ (.int .i64 (n:Int))).cell? ⟨w.heap.size,1,none⟩=some (.slice (some q) l.length c):=Q06 k1 (Nat.lt_succ_self _);have s2:(((z.setCell ⟨w.heap.size+1,0,none⟩ (.int .i64 key)).setCell ⟨w.heap.size+1,1,none⟩ (.slice m n c2)).setCell ⟨w.heap.size+1,2,none⟩ (.int .i64 (n:Int))).cell? ⟨w.heap.size,2,none⟩=some (.int .i64 safe):=Q06 k2 (Nat.lt_succ_self _);have F:=Q02 k;have H:=Q02 a;clear b k a))
 have u:w.heap.size+1 < f.heap.size:=d;go_wp2;refine bodyPost_ret (v:=jrn key (.slice m n c2) (n:Int)) (by simp[results,Tryz.results29,go_sem,N,O,P]) rfl ⟨m,c2,rfl,Q04 (Q0j (Q0j (Q0j F.out u 0 _) u 1 _) u 2 _) (by omega),Q0s (j.out.trans (H.out.mono j.out.size)) (Nat.le_succ _) _ _ _⟩
theorem Q8y (v:Value) (m:Jm) (keep:Int) (w:World) (U:RdJm w.heap.size w v m) (I:roomJm v) (Z:Q6L m):
  Calls Tryz.prog 29 #[v,.int .i64 keep] w fun e D=> ∃V,e=.returned V/\InJm w.heap.size D.heap.size D V (Q4W m keep)/\Below w.heap.size w D:=by
 have j:=fun W (a:Below w.heap.size w W)=>Q6C v m W ((U.kept a (Kaq _)).le a.size) Z
 obtain⟨vl,rfl,⟨o,c,rfl,r⟩⟩:=U;obtain⟨L,B⟩:=I.two;obtain⟨key,l,safe⟩:=m;dsimp only at *;have f:=Q02 (show Q4W ⟨key,l,safe⟩ keep=if(Q0f key l safe && decide (0<=keep))=true then⟨key,l.take (QaG ⟨key,l,safe⟩ keep).toNat,QaG ⟨key,l,safe⟩ keep⟩else jm0 from rfl)
 by_cases hall:(Q0f key l safe && decide (0<=keep))=true
 ·rw[if_pos hall]at f
  simp only[Bool.and_eq_true,decide_eq_true_eq]at hall;obtain⟨x,C⟩:=hall;rw[x]at j;obtain⟨hk,hl,Y,T⟩:=Q0K x;obtain⟨n,M⟩:∃n:Nat,QaG ⟨key,l,safe⟩ keep=(n:Int):=⟨(QaG ⟨key,l,safe⟩ keep).toNat,by unfold QaG;dsimp only;split <;> omega⟩;rw[M,Int.toNat_natCast]at f
  have O:n<=l.length:=by have:=M;unfold QaG at this;dsimp only at this;split at this <;> omega
  have e1:(l.take n).length=n:=by simp;omega
  rw[f.out]
  cases o with
  |none=>
   have H:=B rfl;subst H;have J:l=[]:=List.eq_nil_of_length_eq_zero (by omega);subst J
   have R:safe=0:=by simp at T;omega
   subst R
   have N:n=0:=by simpa using O
   subst N;refine(Qb6 key keep w C j).mono ?_;rintro e D ⟨o2,c2,rfl,P,a⟩;exact⟨_,rfl,⟨_,rfl,InRow.of P⟩,a⟩
  |some ad=>
   refine(Qdm key safe keep ad c l n w r L hl Y T C (show(n:Int)=QiW l safe keep from M.symm) j).mono ?_;rintro e D ⟨o2,c2,rfl,P,a⟩;exact⟨_,rfl,⟨_,rfl,InRow.of P⟩,a⟩
 ·rw[if_neg hall]at f
  have h:=Q02 hall;obtain⟨X,g⟩:∃W,((w.alloc (.cells #[.int .i64 key,.slice o l.length c,.int .i64 safe] 25)).alloc (.cells #[.int .i64 0,.slice none 0 0,.int .i64 0] 25))=W:=⟨_,rfl⟩;have i:=alb0v0v2 g;have p:=Q02 i;clear i;have k:=alz0v0v2 g;obtain⟨E,F,G⟩:=alc3v0v2 g;have d:=alz0v1v2 g;obtain⟨y,z,A⟩:=alc3v1v2 g;obtain⟨s,t,u⟩:=alf3v1v2 g;have q:=Q02 (j X p.out);clear j r
  cases x:Q0f key l safe with
  |false=>
   rw[x]at q;clear x hall h;go_enter Tryz.func29,Tryz.ntmps29;go_wp2_with fail;refine(q.out).mono ?_;rintro e v1 ⟨rfl,a⟩;replace E:=bC a E k;replace F:=bC a F k;replace G:=bC a G k;replace k:=Kbq k a.size;replace y:=bC a y d;replace z:=bC a z d;replace A:=bC a A d;replace s:=bF a s d;replace t:=bF a t d;replace u:=bF a u d;replace d:=Kbq d a.size;replace p:=Q02 (p.out.trans (a.mono p.out.size));clear a;go_wp2
   refine bodyPost_ret (v:=jrn 0 (.slice none 0 0) 0) (by simp[results,Tryz.results29,go_sem,y,z,A]) rfl ⟨_,rfl, ?_,Q0s p.out (Nat.le_succ _) _ _ _⟩;rw[f.out];exact⟨_,rfl,KLq _ _ _ _,fun b e=>by cases e⟩
  |true=>
   have aa:keep < 0:=by have:=h.out;rw[x]at this;simp at this;omega
   rw[x]at q;clear x hall h;go_enter Tryz.func29,Tryz.ntmps29;go_wp2_with fail;refine(q.out).mono ?_;rintro e v1 ⟨rfl,a⟩;replace E:=bC a E k;replace F:=bC a F k;replace G:=bC a G k;replace k:=Kbq k a.size;replace y:=bC a y d;replace z:=bC a z d;replace A:=bC a A d;replace s:=bF a s d;replace t:=bF a t d;replace u:=bF a u d;replace d:=Kbq d a.size;replace p:=Q02 (p.out.trans (a.mono p.out.size));clear a;go_wp2
   refine bodyPost_ret (v:=jrn 0 (.slice none 0 0) 0) (by simp[results,Tryz.results29,go_sem,y,z,A]) rfl ⟨_,rfl, ?_,Q0s p.out (Nat.le_succ _) _ _ _⟩;rw[f.out];exact⟨_,rfl,KLq _ _ _ _,fun b e=>by cases e⟩
def Q8h (key:Int) (l:List Cd) (k i g:Int):Bool:=(doL (Q0i l l.length) k i g).isSome && !decide (100<=l.length)
def Qe5 (m:Jm) (k i g:Int):Bool:=Q0f m.key m.l m.safe && Q0F k i g
def Q3r (m:Jm) (k i g:Int):Jm:=if Qe5 m k i g=true then(if Q8h m.key m.l k i g=true then⟨m.key,m.l++[(k,i,g)],(m.l.length:Int)+1⟩else m)else jm0
def Q3n (m:Jm) (k i g:Int):Bool:=Qe5 m k i g && Q8h m.key m.l k i g
theorem QeC {m:Jm} (k i g:Int) (h:Q6L m):(Q3r m k i g).l.length<=1048576:=by
 unfold Q3r
 split
 ·split
  ·next a b=>
   unfold Qe5 at a;simp only[Bool.and_eq_true]at a;have:=(Q0K a.1).2.1;simp;omega
  ·exact h
 ·decide
theorem Q9a {w:World} {x y z:Int} {T:TypeId}:RdC (w.alloc (.cells #[.int .i64 x,.int .i64 y,.int .i64 z] T)).heap.size (w.alloc (.cells #[.int .i64 x,.int .i64 y,.int .i64 z] T)) (some ⟨w.heap.size,0,none⟩) [(x,y,z)]:=
 .inr ⟨w.heap.size,0,rfl,by simp,fun i hi j b=>by
  have a:i=0:=by simpa using hi
  subst a
  match j,b with
  |0,_=>simp[Q3F]
  |1,_=>simp[Q3F]
  |2,_=>simp[Q3F]⟩
theorem Q1y {key:Int} {cs:List Cd} {safe:Int} (h:Q0f key cs safe=true):(Q0S cs cs.length).isSome=true:=by
 unfold Q0f at h;simp only[Bool.and_eq_true]at h;exact h.2
theorem Q4b {key:Int} {cs:List Cd} {safe:Int} (h:Q0f key cs safe=true):Q0b (Q0i cs cs.length)=true/\(Q0i cs cs.length).length<=100:=by
 obtain⟨l,a⟩:=Q6f (Q1y h) (Kaq _);have b:=Q4v cs.length l (Kaq _) a;have h2:=(Q0K h).2.1;unfold Q0i;rw[a];exact⟨b.1,by simp only[Option.getD_some];omega⟩
theorem Q4f (key:Int) (o:Option Addr) (cap:Nat) (cs:List Cd) (w:World) (g:RdC w.heap.size w o cs) (l:Q1D key=true) (m:cs.length<=100) (a:(Q0S cs cs.length).isSome=true):
  Calls Tryz.prog 43 #[.int .i64 key,.slice o cs.length cap] w fun e f=> ∃o c n k hs,e=.returned (plv key (.slice o (Q0i cs cs.length).length c) (.slice n hs.length k))/\Q1e f w.heap.size (.slice o (Q0i cs cs.length).length c) (Q0i cs cs.length)/\ownL Q0E 51 f w.heap.size (.slice n hs.length k) hs/\PTabs f w.heap.size key hs (Q1f cs cs.length)/\hs.length<=3/\Below w.heap.size w f:=by
 rcases g with g|⟨b,off,rfl,j,d⟩
 ·subst g
  exact Q80 key 0 0 cap [] w (fun h=>absurd rfl h) (fun i hi=>absurd hi (KMq _)) l m a o (fun h=>absurd rfl h)
 ·exact Q80 key b off cap cs w (fun _=>j) d l m a _ (fun _=>rfl)
theorem Q44 (key safe:Int) (o:Option Addr) (cap:Nat) (l:List Cd) (w:World) (B:RdC w.heap.size w o l) (I:o=none->cap=0) (H:l.length<=1048576):
  Calls Tryz.prog 87 #[jrn key (.slice o l.length cap) safe] w fun e C=> ∃r c2,e=.returned (jrn key (.slice r l.length c2) safe)/\QaU C w.heap.size (.slice r l.length c2) l/\Below w.heap.size w C:=by
 obtain⟨A,b⟩:∃W,((w.alloc (.cells #[.int .i64 key,.slice o l.length cap,.int .i64 safe] 25)).alloc (.cells #[.int .i64 0,.slice none 0 0,.int .i64 0] 25))=W:=⟨_,rfl⟩;have c:=alb0v0v2 b;have h:=Q02 c;clear c;have f:=alz0v0v2 b;obtain⟨D,E,F⟩:=alc3v0v2 b;obtain⟨m,n,q⟩:=alf3v0v2 b;have d:=alz0v1v2 b;obtain⟨x,y,z⟩:=alc3v1v2 b;obtain⟨i,j,k⟩:=alf3v1v2 b;have g:=d;have t:=Q02 (Q60 o cap l l.length rfl A ((B.kept h.out (Kaq _)).le h.out.size) I H);clear B;go_enter Tryz.func87,Tryz.ntmps87;go_wp2_with fail;refine(t.out).mono ?_
 rintro e L ⟨r,c2,rfl,s,a⟩;have G:=Q02 s;have J:=a.size;clear s;replace D:=bC a D f;replace E:=bC a E f;replace F:=bC a F f;replace m:=bF a m f;replace n:=bF a n f;replace q:=bF a q f;replace f:=Kbq f a.size;replace x:=bC a x d;replace y:=bC a y d;replace z:=bC a z d;replace i:=bF a i d;replace j:=bF a j d;replace k:=bF a k d;replace d:=Kbq d a.size;replace h:=Q02 (h.out.trans (a.mono h.out.size));clear a
 have u:w.heap.size < A.heap.size:=by omega
 go_wp2;refine bodyPost_ret (v:=jrn key (.slice r l.length c2) safe) (by simp[results,Tryz.results87,go_sem,x,y,z]) rfl ⟨r,c2,rfl,Q04 (Q0j (Q0j (Q0j (Q0j G.out u 1 _) g 0 _) g 1 _) g 2 _) (by omega),Q0s (h.out.setCell (p:=⟨w.heap.size,1,none⟩) (Kaq _) _) (Nat.le_succ _) _ _ _⟩
theorem QbF (v:Value) (m:Jm) (k i g:Int) (w:World) (hR:RdJm w.heap.size w v m) (au:capJm v) (hf:Q6L m):
  Calls Tryz.prog 124 #[v,cmd k i g] w fun e w'=> ∃v',e=.returned (.tuple #[v',.bool (Q3n m k i g)])/\InJm w.heap.size w'.heap.size w' v' (Q3r m k i g)/\Below w.heap.size w w':=by
 have aG:=hR;obtain⟨vl,rfl,⟨o,c,rfl,r⟩⟩:=aG;have ar:=au.one;clear au;obtain⟨key,l,safe⟩:=m;dsimp only at *;have O:=Q02 (show Q3r ⟨key,l,safe⟩ k i g=if(Q0f key l safe && Q0F k i g)=true then(if Q8h key l k i g=true then⟨key,l++[(k,i,g)],(l.length:Int)+1⟩else⟨key,l,safe⟩)else jm0 from rfl);have N:=Q02 (show Q3n ⟨key,l,safe⟩ k i g=((Q0f key l safe && Q0F k i g) && Q8h key l k i g)from rfl);have ab:=Q02 (show Q8h key l k i g=((doL (Q0i l l.length) k i g).isSome && !decide (100<=l.length))from rfl)
 have ai:=Q02 (fun h:Q0f key l safe=true=>And.intro (Q0K h) (And.intro (Q1y h) (Q4b h)));unfold Q6L at hf;dsimp only at hf;obtain⟨W0,U⟩:∃W,(((w.alloc (.cells #[.int .i64 key,.slice o l.length c,.int .i64 safe] 25)).alloc (.cells #[.int .i64 k,.int .i64 i,.int .i64 g] 77)).alloc (.cells #[.int .i64 0,.slice none 0 0,.int .i64 0] 25))=W:=⟨_,rfl⟩;have ae:=alb0v0v3 U;have x:=Q02 ae;clear ae;have n:=alz0v0v3 U;obtain⟨H,I,J⟩:=alc3v0v3 U;have j:=alz0v1v3 U;obtain⟨u0,u1,u2⟩:=alc3v1v3 U;have d:=alz0v2v3 U;obtain⟨A,B,C⟩:=alc3v2v3 U
 obtain⟨q,t,u⟩:=alf3v2v3 U;have ba:=d;have ac:=Q02 (Q8a key safe o c l W0 ((r.kept x.out (Kaq _)).le x.out.size) hf);have Z:=Q02 (fun W=>Q4y k i g W);have aE:=Q02 r;clear r hR
 cases hj:Q0f key l safe with
 |false=>
  rw[hj]at ac O N;clear ai hj;generalize Q0F k i g=ck at *;go_enter Tryz.func124,Tryz.ntmps124;go_wp2_with fail;refine(ac.out).mono ?_;rintro e v1 ⟨v9,rfl,_,a⟩;replace H:=bC a H n;replace I:=bC a I n;replace J:=bC a J n;replace n:=Kbq n a.size;replace u0:=bC a u0 j;replace u1:=bC a u1 j;replace u2:=bC a u2 j;replace j:=Kbq j a.size;replace A:=bC a A d;replace B:=bC a B d;replace C:=bC a C d;replace q:=bF a q d;replace t:=bF a t d;replace u:=bF a u d;replace d:=Kbq d a.size;replace x:=Q02 (x.out.trans (a.mono x.out.size))
  clear a;go_wp2_with fail;refine(Z.out v1).mono ?_;rintro e v2 ⟨rfl,a⟩;replace H:=bC a H n;replace I:=bC a I n;replace J:=bC a J n;replace n:=Kbq n a.size;replace u0:=bC a u0 j;replace u1:=bC a u1 j;replace u2:=bC a u2 j;replace j:=Kbq j a.size;replace A:=bC a A d;replace B:=bC a B d;replace C:=bC a C d;replace q:=bF a q d;replace t:=bF a t d;replace u:=bF a u d;replace d:=Kbq d a.size;replace x:=Q02 (x.out.trans (a.mono x.out.size));clear a;generalize (if ck=true then Q9j k i g else .nilIface)=dv;go_wp2
  refine bodyPost_ret (v:=.tuple #[jrn 0 (.slice none 0 0) 0,.bool false]) (by simp[results,Tryz.results124,go_sem,A,B,C]) rfl ⟨jrn 0 (.slice none 0 0) 0,by rw[N.out];simp, ?_,Q0s x.out (by omega) _ _ _⟩;rw[O.out,if_neg (by simp)];exact⟨_,rfl,KLq _ _ _ _,fun b e=>by cases e⟩
 |true=>
  obtain⟨⟨hk,hl,h0,h1⟩,aQ,aH,aK⟩:=ai.out hj;rw[hj]at ac O N;clear ai hj
  cases hc:Q0F k i g with
  |false=>
   rw[hc]at Z O N;simp only[Bool.false_eq_true,if_false]at Z;go_enter Tryz.func124,Tryz.ntmps124;go_wp2_with fail;refine(ac.out).mono ?_;rintro e v1 ⟨v9,rfl,_,a⟩;replace H:=bC a H n;replace I:=bC a I n;replace J:=bC a J n;replace n:=Kbq n a.size;replace u0:=bC a u0 j;replace u1:=bC a u1 j;replace u2:=bC a u2 j;replace j:=Kbq j a.size;replace A:=bC a A d;replace B:=bC a B d;replace C:=bC a C d;replace q:=bF a q d;replace t:=bF a t d;replace u:=bF a u d;replace d:=Kbq d a.size
   replace x:=Q02 (x.out.trans (a.mono x.out.size));clear a;go_wp2_with fail;refine(Z.out v1).mono ?_;rintro e v2 ⟨rfl,a⟩;replace H:=bC a H n;replace I:=bC a I n;replace J:=bC a J n;replace n:=Kbq n a.size;replace u0:=bC a u0 j;replace u1:=bC a u1 j;replace u2:=bC a u2 j;replace j:=Kbq j a.size;replace A:=bC a A d;replace B:=bC a B d;replace C:=bC a C d;replace q:=bF a q d;replace t:=bF a t d;replace u:=bF a u d;replace d:=Kbq d a.size;replace x:=Q02 (x.out.trans (a.mono x.out.size));clear a;go_wp2
   refine bodyPost_ret (v:=.tuple #[jrn 0 (.slice none 0 0) 0,.bool false]) (by simp[results,Tryz.results124,go_sem,A,B,C]) rfl ⟨jrn 0 (.slice none 0 0) 0,by rw[N.out];simp, ?_,Q0s x.out (by omega) _ _ _⟩;rw[O.out,if_neg (by simp)];exact⟨_,rfl,KLq _ _ _ _,fun b e=>by cases e⟩
  |true=>
   have ah:=Q02 (fun o c W h1 h2=>Q3e o c (Q0i l l.length) k i g W h1 h2 (by omega) hc);rw[hc]at Z O N;simp only[if_true]at Z;generalize Q9j k i g=dv at *;obtain⟨sv,ao⟩:∃s,Q0i l l.length=s:=⟨_,rfl⟩;rw[ao]at ah ab aH aK;have aF:=Q02 ao;clear hc ao;go_enter Tryz.func124,Tryz.ntmps124;go_wp2_with fail;refine(ac.out).mono ?_;rintro e v1 ⟨v9,rfl,af,a⟩;obtain⟨hs,av,ax⟩:=af (by simp);have D:=Q02 av;have z:=Q02 ax;have a7:=a.size;clear af av ax;replace H:=bC a H n;replace I:=bC a I n;replace J:=bC a J n;replace n:=Kbq n a.size
   replace u0:=bC a u0 j;replace u1:=bC a u1 j;replace u2:=bC a u2 j;replace j:=Kbq j a.size;replace A:=bC a A d;replace B:=bC a B d;replace C:=bC a C d;replace q:=bF a q d;replace t:=bF a t d;replace u:=bF a u d;replace d:=Kbq d a.size;replace x:=Q02 (x.out.trans (a.mono x.out.size));clear a;have aj:=Q02 z.out.len;obtain⟨g9,c9,e9⟩:=Q2S D.out (by rw[aj.out];omega);subst e9;go_wp2_with fail;refine(Z.out v1).mono ?_;rintro e v2 ⟨rfl,a⟩;have a8:=a.size;replace H:=bC a H n;replace I:=bC a I n;replace J:=bC a J n
   replace n:=Kbq n a.size;replace u0:=bC a u0 j;replace u1:=bC a u1 j;replace u2:=bC a u2 j;replace j:=Kbq j a.size;replace A:=bC a A d;replace B:=bC a B d;replace C:=bC a C d;replace q:=bF a q d;replace t:=bF a t d;replace u:=bF a u d;replace d:=Kbq d a.size;replace z:=Q02 (z.out.kept a);replace D:=Q02 (Q03 D.out a);replace x:=Q02 (x.out.trans (a.mono x.out.size));clear a;have aB:=Q02 (Q44 key safe o c l v2 ((aE.out.kept x.out (Kaq _)).le x.out.size) ar hf);go_wp2_with fail;refine(aB.out).mono ?_
   rintro e M ⟨o2,c2,rfl,ay,a⟩;have E:=Q02 ay;have a9:=a.size;clear ay;replace H:=bC a H n;replace I:=bC a I n;replace J:=bC a J n;replace n:=Kbq n a.size;replace u0:=bC a u0 j;replace u1:=bC a u1 j;replace u2:=bC a u2 j;replace j:=Kbq j a.size;replace A:=bC a A d;replace B:=bC a B d;replace C:=bC a C d;replace q:=bF a q d;replace t:=bF a t d;replace u:=bF a u d;replace d:=Kbq d a.size;replace z:=Q02 (z.out.kept a);replace D:=Q02 (Q03 D.out a);replace x:=Q02 (x.out.trans (a.mono x.out.size));clear a
   have aq:=Q02 (fun b (e:(Value.slice o2 l.length c2).ownBlock=some b)=>(E.out.lt b e).2);obtain⟨W4,ag⟩:∃W,(M.alloc (.cells #[.int .i64 key,.slice o2 l.length c2,.int .i64 safe] 25))=W:=⟨_,rfl⟩;have f:=alb0v0v1 ag;replace H:=bC f H n;replace I:=bC f I n;replace J:=bC f J n;replace n:=Kbq n f.size;replace u0:=bC f u0 j;replace u1:=bC f u1 j;replace u2:=bC f u2 j;replace j:=Kbq j f.size;replace A:=bC f A d;replace B:=bC f B d;replace C:=bC f C d;replace q:=bF f q d;replace t:=bF f t d
   replace u:=bF f u d;replace d:=Kbq d f.size;replace z:=Q02 (z.out.kept f);replace D:=Q02 (Q03 D.out f);replace E:=Q02 (Q03 E.out f);replace x:=Q02 (x.out.trans (f.mono x.out.size));clear f;have X:=alz0v0v1 ag;obtain⟨x0,x1,x2⟩:=alc3v0v1 ag;have aL:=alx0v0v1 ag;have aJ:M.heap.size < W4.heap.size:=X;obtain⟨o',c',e',an⟩:=ownL.open (L:=Q16) (z.out.row l.length (by omega));have aa:=z.out.row l.length (by omega);rw[aF.out]at e' an aa;rw[e']at aa;have aI:=Q2T D.out l.length (by rw[aj.out];omega);rw[e']at aI
   have a6:(l.length:Int) < (hs.length:Int):=by have:=aj.out;omega
   have Y:=Q02 (ah.out o' c' W4 an (Q4B aa));clear an aa e' ah
   cases hdo:doL sv k i g with
   |none=>
    rw[hdo]at Y ab;simp only[Option.isSome_none]at Y;have F:=Q02 (show Q8h key l k i g=false by rw[ab.out];rfl);clear hdo;go_wp2_with fail;refine(Y.out).mono ?_;rintro e v4 ⟨v5,rfl,_,a⟩;have aw:=a.size;replace H:=bC a H n;replace I:=bC a I n;replace J:=bC a J n;replace n:=Kbq n a.size;replace u0:=bC a u0 j;replace u1:=bC a u1 j;replace u2:=bC a u2 j;replace j:=Kbq j a.size;replace A:=bC a A d;replace B:=bC a B d;replace C:=bC a C d;replace q:=bF a q d;replace t:=bF a t d;replace u:=bF a u d;replace d:=Kbq d a.size
    replace x0:=bC a x0 X;replace x1:=bC a x1 X;replace x2:=bC a x2 X;replace X:=Kbq X a.size;replace z:=Q02 (z.out.kept a);replace D:=Q02 (Q03 D.out a);replace E:=Q02 (Q03 E.out a);replace x:=Q02 (x.out.trans (a.mono x.out.size));clear a
    have G:w.heap.size+1+1 < v2.heap.size:=by omega
    go_wp2;refine bodyPost_ret (v:=.tuple #[jrn key (.slice o2 l.length c2) safe,.bool false]) (by simp[results,Tryz.results124,go_sem,A,B,C]) rfl ⟨jrn key (.slice o2 l.length c2) safe,by rw[N.out,F.out];simp, ?_,Q0s x.out (by omega) _ _ _⟩;rw[O.out,if_pos (by simp),if_neg (by rw[F.out];simp)];exact⟨_,rfl,InRow.of (Q04 (Q0j (Q0j (Q0j E.out G 0 _) G 1 _) G 2 _) (by omega))⟩
   |some mm=>
    rw[hdo]at Y ab;simp only[Option.isSome_some]at Y;clear hdo
    by_cases h100:l.length=100
    ·have F:=Q02 (show Q8h key l k i g=false by rw[ab.out,h100];rfl)
     have ad:(l.length:Int)=100:=by omega
     have ak:((l.length:Int)==100)=true:=beq_iff_eq.2 ad;clear h100 ad;go_wp2_with fail;refine(Y.out).mono ?_;rintro e v4 ⟨v5,rfl,_,a⟩;have aw:=a.size;replace H:=bC a H n;replace I:=bC a I n;replace J:=bC a J n;replace n:=Kbq n a.size;replace u0:=bC a u0 j;replace u1:=bC a u1 j;replace u2:=bC a u2 j;replace j:=Kbq j a.size;replace A:=bC a A d;replace B:=bC a B d;replace C:=bC a C d;replace q:=bF a q d;replace t:=bF a t d;replace u:=bF a u d;replace d:=Kbq d a.size;replace x0:=bC a x0 X;replace x1:=bC a x1 X
     replace x2:=bC a x2 X;replace X:=Kbq X a.size;replace z:=Q02 (z.out.kept a);replace D:=Q02 (Q03 D.out a);replace E:=Q02 (Q03 E.out a);replace x:=Q02 (x.out.trans (a.mono x.out.size));clear a
     have G:w.heap.size+1+1 < v2.heap.size:=by omega
     go_wp2;refine bodyPost_ret (v:=.tuple #[jrn key (.slice o2 l.length c2) safe,.bool false]) (by simp[results,Tryz.results124,go_sem,A,B,C]) rfl ⟨jrn key (.slice o2 l.length c2) safe,by rw[N.out,F.out];simp, ?_,Q0s x.out (by omega) _ _ _⟩;rw[O.out,if_pos (by simp),if_neg (by rw[F.out];simp)];exact⟨_,rfl,InRow.of (Q04 (Q0j (Q0j (Q0j E.out G 0 _) G 1 _) G 2 _) (by omega))⟩
    ·have F:=Q02 (show Q8h key l k i g=true by rw[ab.out,decide_eq_false (by omega)];rfl)
     have ak:((l.length:Int)==100)=false:=beq_eq_false_iff_ne.2 (by omega);go_wp2_with fail;refine(Y.out).mono ?_;rintro e v4 ⟨v5,rfl,_,a⟩;have aw:=a.size;have aM:=(a.block _ (show _ < W4.heap.size from aJ)).trans aL;replace H:=bC a H n;replace I:=bC a I n;replace J:=bC a J n;replace n:=Kbq n a.size;replace u0:=bC a u0 j;replace u1:=bC a u1 j;replace u2:=bC a u2 j;replace j:=Kbq j a.size;replace A:=bC a A d;replace B:=bC a B d;replace C:=bC a C d;replace q:=bF a q d;replace t:=bF a t d;replace u:=bF a u d
     replace d:=Kbq d a.size;replace x0:=bC a x0 X;replace x1:=bC a x1 X;replace x2:=bC a x2 X;replace X:=Kbq X a.size;replace z:=Q02 (z.out.kept a);replace D:=Q02 (Q03 D.out a);replace E:=Q02 (Q03 E.out a);replace x:=Q02 (x.out.trans (a.mono x.out.size));clear a
     have G:w.heap.size+1+1 < v2.heap.size:=by omega
     have ap:=aM;go_wp2_with (at_builtin;refine Q07 QdE rfl (.tmp 53) (.tmp 55) rfl v2.heap.size _ l rfl (World.ownsRow.alloc E.out (.cells #[.int .i64 k,.int .i64 i,.int .i64 g] 77)) (some ⟨v4.heap.size,0,none⟩) 1 (v4.alloc (.cells #[.int .i64 k,.int .i64 i,.int .i64 g] 77)).heap.size [(k,i,g)] 1 rfl rfl (fun h=>by cases h) Q9a (by simp;omega) (by simp;omega) ?_);intro v6 w6 am al _;obtain⟨o6,c6,e6,_⟩:=ownL.open (L:=Q3F) am;rw[show(l++[(k,i,g)]).length=l.length+1 by simp]at e6;subst e6
     have V:Below v2.heap.size v4 w6:=((Below.refl v4.heap.size v4).alloc (Kaq _) (.cells #[.int .i64 k,.int .i64 i,.int .i64 g] 77)).mono (by omega)|>.grown al (by simp;omega) (fun k h=>(E.out.lt k h).1)
     have T:w6.heap[M.heap.size]? =some (.cells #[.int .i64 key,.slice o2 l.length c2,.int .i64 safe] 25 (0,0)):=(al.block _ (by have:=(KEq ap);simp;omega) (fun e=>by have:=aq.out _ e.symm;omega)).trans ((Below.heap_alloc _ _ _ (KEq ap)).trans ap);have aC:Hid (QaU w6 v2.heap.size (.slice o6 (l.length+1) c6) (l++[(k,i,g)])):=am;clear am al;replace A:=bC V A (show _ < _ by omega);replace q:=bF V q (show _ < _ by omega);replace B:=bC V B (show _ < _ by omega);replace t:=bF V t (show _ < _ by omega)
     replace C:=bC V C (show _ < _ by omega);replace u:=bF V u (show _ < _ by omega);have az:=Q02 (x.out.trans (V.mono (by omega)));clear V x;obtain⟨W7,P⟩:∃W,w6.setCell ⟨M.heap.size,1,none⟩ (.slice o6 (l.length+1) c6)=W:=⟨_,rfl⟩
     have h7:W7.heap[M.heap.size]? =some (.cells #[.int .i64 key,.slice o6 (l.length+1) c6,.int .i64 safe] 25 (0,0)):=by rw[<-P];exact Q05 T 1 _
     obtain⟨W8,R⟩:∃W,W7.setCell ⟨M.heap.size,2,none⟩ (.int .i64 ((l.length:Int)+1))=W:=⟨_,rfl⟩
     have h8:W8.heap[M.heap.size]? =some (.cells #[.int .i64 key,.slice o6 (l.length+1) c6,.int .i64 ((l.length:Int)+1)] 25 (0,0)):=by rw[<-R];exact Q05 h7 2 _
     have aR:w6.cell? ⟨M.heap.size,0,none⟩=some (.int .i64 key):=Q00 T 0 _ rfl;have a0:=Q01 T 0;have aS:w6.cell? ⟨M.heap.size,1,none⟩=some (.slice o2 l.length c2):=Q00 T 1 _ rfl;have a1:=Q01 T 1;have aT:w6.cell? ⟨M.heap.size,2,none⟩=some (.int .i64 safe):=Q00 T 2 _ rfl;have a2:=Q01 T 2;have aU:W7.cell? ⟨M.heap.size,0,none⟩=some (.int .i64 key):=Q00 h7 0 _ rfl;have a3:=Q01 h7 0;have aV:W7.cell? ⟨M.heap.size,1,none⟩=some (.slice o6 (l.length+1) c6):=Q00 h7 1 _ rfl;have a4:=Q01 h7 1;have aW:W7.cell? ⟨M.heap.size,2,none⟩=some (.int .i64 safe):=Q00 h7 2 _ rfl
     have a5:=Q01 h7 2;have aX:W8.cell? ⟨M.heap.size,0,none⟩=some (.int .i64 key):=Q00 h8 0 _ rfl;have aY:W8.cell? ⟨M.heap.size,1,none⟩=some (.slice o6 (l.length+1) c6):=Q00 h8 1 _ rfl;have aZ:W8.cell? ⟨M.heap.size,2,none⟩=some (.int .i64 ((l.length:Int)+1)):=Q00 h8 2 _ rfl
     have y:w.heap.size+1+1≠M.heap.size:=by omega
     have aN:W8.cell? ⟨w.heap.size+1+1,0,none⟩=some (.int .i64 0):=by rw[<-R,<-P];exact(Q1h y).trans ((Q1h y).trans A)
     have bb:W8.frozen? ⟨w.heap.size+1+1,0,none⟩=false:=by rw[<-R,<-P];exact(Q0Q y).trans ((Q0Q y).trans q)
     have aO:W8.cell? ⟨w.heap.size+1+1,1,none⟩=some (.slice none 0 0):=by rw[<-R,<-P];exact(Q1h y).trans ((Q1h y).trans B)
     have bc:W8.frozen? ⟨w.heap.size+1+1,1,none⟩=false:=by rw[<-R,<-P];exact(Q0Q y).trans ((Q0Q y).trans t)
     have aP:W8.cell? ⟨w.heap.size+1+1,2,none⟩=some (.int .i64 0):=by rw[<-R,<-P];exact(Q1h y).trans ((Q1h y).trans C)
     have bd:W8.frozen? ⟨w.heap.size+1+1,2,none⟩=false:=by rw[<-R,<-P];exact(Q0Q y).trans ((Q0Q y).trans u)
     have aD:Hid (QaU W8 v2.heap.size (.slice o6 (l.length+1) c6) (l++[(k,i,g)])):=by rw[<-R,<-P];exact Q1E (Q1E aC.out T 1 _) (Q05 T 1 _) 2 _
     have aA:Hid (Below w.heap.size w W8):=by rw[<-R,<-P];exact(az.out.setCell (p:=⟨M.heap.size,1,none⟩) (show w.heap.size<=M.heap.size by omega) _).setCell (p:=⟨M.heap.size,2,none⟩) (show w.heap.size<=M.heap.size by omega) _
     clear A q B t C u;go_wp2;refine bodyPost_ret (v:=.tuple #[jrn key (.slice o6 (l.length+1) c6) ((l.length:Int)+1),.bool true]) (by simp[results,Tryz.results124,go_sem,aN,aO,aP]) rfl ⟨jrn key (.slice o6 (l.length+1) c6) ((l.length:Int)+1),by rw[N.out,F.out];simp, ?_,Q0s aA.out (by omega) _ _ _⟩;rw[O.out,if_pos (by simp),if_pos F.out];exact⟨_,rfl,InRow.of (Q04 (Q0j (Q0j (Q0j aD.out G 0 _) G 1 _) G 2 _) (by omega))⟩
theorem InJm.opn {lo hi:Nat} {w:World} {v:Value} {m:Jm} (h:InJm lo hi w v m):∃(o:Option Addr) (c:Nat),v=jrn m.key (.slice o m.l.length c) m.safe:=by
 obtain⟨vl,rfl,⟨o,c,rfl,_⟩⟩:=h.rd;exact⟨o,c,rfl⟩
theorem QgT (W:World) (B:Nat) (x y z:Value):Stp B (B+1) W (setP W B x y z):=
 ((Stp.grown (Q0H W B 0 x) (fun b e=>by injection e with e;omega)).trans (Stp.grown (Q0H _ B 1 y) (fun b e=>by injection e with e;omega))).trans (Stp.grown (Q0H _ B 2 z) (fun b e=>by injection e with e;omega))
theorem QeA (W:World) (B:Nat) (x y z:Value):(setP W B x y z).heap.size=W.heap.size:=by simp[World.setCell]
theorem Qje {b W:World} {B lo hi:Nat} {f:Value} {a:Jm} {o:Option Addr} {c:Nat} {s t u:Value} (q:W.heap[B]? =some (.cells #[s,t,u] 25 (0,0))) (r:Below b.heap.size b W) (i:b.heap.size<=B) (d:InJm lo hi W (jrn a.key (.slice o a.l.length c) a.safe) a) (n:b.heap.size<=lo) (h2:hi<=W.heap.size) (p:B < lo\/hi<=B):
  ∃B' lo hi j h,Value.pointer (some ⟨B,0,none⟩)=.pointer (some ⟨B',0,none⟩)/\f=f/\Hid ((setP W B (.int .i64 a.key) (.slice o a.l.length c) (.int .i64 a.safe)).heap[B']? =some (.cells #[.int .i64 a.key,.slice j a.l.length h,.int .i64 a.safe] 25 (0,0)))/\Hid (Below b.heap.size b (setP W B (.int .i64 a.key) (.slice o a.l.length c) (.int .i64 a.safe)))/\b.heap.size<=B'/\B' < (setP W B (.int .i64 a.key) (.slice o a.l.length c) (.int .i64 a.safe)).heap.size/\Hid (InJm lo hi (setP W B (.int .i64 a.key) (.slice o a.l.length c) (.int .i64 a.safe)) (jrn a.key (.slice j a.l.length h) a.safe) a)/\b.heap.size<=lo/\hi<=(setP W B (.int .i64 a.key) (.slice o a.l.length c) (.int .i64 a.safe)).heap.size/\(B' < lo\/hi<=B'):=by
 have k:=Q05 q 0 (.int .i64 a.key);have m:=Q05 k 1 (.slice o a.l.length c);have g:=Q05 m 2 (.int .i64 a.safe);exact⟨B,lo,hi,o,c,rfl,rfl,g,Q0s r i _ _ _,i,(KEq g),InJm.step d (QgT W B _ _ _) (by omega),n,by rw[QeA];exact h2,p⟩
theorem QiJ {b W:World} {lo hi:Nat} {f:Value} {a:Jm} {o:Option Addr} {c:Nat} (g:Below b.heap.size b W) (d:InJm lo hi W (jrn a.key (.slice o a.l.length c) a.safe) a) (j:b.heap.size<=lo) (h2:hi<=W.heap.size):
  ∃B' lo hi i h,Value.pointer (some ⟨W.heap.size,0,none⟩)=.pointer (some ⟨B',0,none⟩)/\f=f/\Hid ((W.alloc (.cells #[.int .i64 a.key,.slice o a.l.length c,.int .i64 a.safe] 25)).heap[B']? =some (.cells #[.int .i64 a.key,.slice i a.l.length h,.int .i64 a.safe] 25 (0,0)))/\Hid (Below b.heap.size b (W.alloc (.cells #[.int .i64 a.key,.slice o a.l.length c,.int .i64 a.safe] 25)))/\b.heap.size<=B'/\B' < (W.alloc (.cells #[.int .i64 a.key,.slice o a.l.length c,.int .i64 a.safe] 25)).heap.size/\Hid (InJm lo hi (W.alloc (.cells #[.int .i64 a.key,.slice o a.l.length c,.int .i64 a.safe] 25)) (jrn a.key (.slice i a.l.length h) a.safe) a)/\b.heap.size<=lo/\hi<=(W.alloc (.cells #[.int .i64 a.key,.slice o a.l.length c,.int .i64 a.safe] 25)).heap.size/\(B' < lo\/hi<=B'):=
 ⟨W.heap.size,lo,hi,o,c,rfl,rfl,World.alloc_heap_new W _,g.alloc g.size _,g.size,by simp,InJm.step d (Stp.of (lo:=0) (hi:=0) (KBq.alloc (Kaq _) _)) (.inl (Kcq _)),j,by simp;omega,.inr h2⟩
theorem QgI {cs:List Cd} {q:Nat} (a:q<=cs.length) (h:(Q0S cs cs.length).isSome=true):(Q0S (cs.take q) (cs.take q).length).isSome=true:=by
 have e:Q0S (cs.take q) (cs.take q).length=Q0S cs q:=by
  unfold Q0S;rw[List.take_length]
 rw[e]
 cases h1:Q0S cs q with
 |some l=>rfl
 |none=>rw[Q6k h1 a]at h;exact h
theorem Qgn {m:Jm} {keep:Int} (h:Qi1 m keep=true):∃q:Nat,Q4W m keep=⟨m.key,m.l.take q,(q:Int)⟩/\q<=m.l.length/\m.safe<=(q:Int)/\Q0f m.key (m.l.take q) (q:Int)=true:=by
 unfold Qi1 at h;rw[Bool.and_eq_true,decide_eq_true_eq]at h;obtain⟨a,h2⟩:=h;have c:=Q0K a;have d:=Q1y a
 have g:0<=QaG m keep/\QaG m keep<=(m.l.length:Int)/\m.safe<=QaG m keep:=by unfold QaG;split <;> omega
 refine⟨(QaG m keep).toNat, ?_,by omega,by omega, ?_⟩
 ·unfold Q4W
  rw[if_pos (by unfold Qi1;rw[a];simpa using h2)]
  congr 1
  omega
 ·have f:(m.l.take (QaG m keep).toNat).length=(QaG m keep).toNat:=by rw[List.length_take];omega
  have b:=QgI (cs:=m.l) (q:=(QaG m keep).toNat) (by omega) d;unfold Q0f;simp only[Bool.and_eq_true,decide_eq_true_eq];exact⟨⟨⟨⟨c.1,by omega⟩,by omega⟩,by omega⟩,b⟩
theorem Qhp {m:Jm} {keep:Int} (h:Q0f m.key m.l m.safe=true) (c:0<=keep):Q0f (Q4W m keep).key (Q4W m keep).l (Q4W m keep).safe=true:=by
 have b:Qi1 m keep=true:=by unfold Qi1;rw[h,decide_eq_true c];rfl
 obtain⟨q,e,_,_,a⟩:=Qgn b;rw[e];exact a
structure Dr (k:Nat) (w w':World):Prop where
 cur:isCur k w'
 gr:w.grownBy w' (some k)
theorem Dr.step {k:Nat} {w x y:World} (h:Dr k w x) (hc:isCur k y) (hg:x.grownBy y (some k)):Dr k w y:=⟨hc,Q0m h.gr hg⟩
theorem Qaj {w c d:World} {k B:Nat} (h:w.grownBy c (some k)) (a:Below B c d) (g:w.heap.size<=B):w.grownBy d (some k):=
 ⟨a.os.trans h.os,a.tape.trans h.tape,a.output.trans h.output,Kdq h.size a.size,fun j f b=>(a.block j (by omega)).trans (h.block j f b)⟩
theorem Dr.below {k:Nat} {w x y:World} (h:Dr k w x) (hk:k < w.heap.size) (hb:Below w.heap.size x y):Dr k w y:=⟨h.cur.below (hb.mono hk),Qaj h.gr hb (Kaq _)⟩
theorem Dr.lt {k:Nat} {w x:World} (h:Dr k w x) (hk:k < w.heap.size):k < x.heap.size:=Kbq hk h.gr.size
theorem Q0a {k q:Nat} {w w':World} {O:Obj} (hg:w.grownBy w' (some k)) (hq:q < w.heap.size) (hne:q≠k) (h:w.heap[q]? =some O):w'.heap[q]? =some O:=(hg.block q hq (by simp[hne])).trans h
theorem Q20 {q B j:Nat} {w:World} {O:Obj} {u:Value} (h:w.heap[q]? =some O) (a:q≠B):(w.setCell ⟨B,j,none⟩ u).heap[q]? =some O:=((Q0H w B j u).block q (KEq h) (by simp[a])).trans h
theorem Q3C {α:Type} {L:Lay α} {e:TypeId} {w a:World} {base k:Nat} {v:Value} {l:List α} (h:ownL L e w base v l) (b:w.grownBy a (some k)) (c:k < base):ownL L e a base v l:=
World.ownsRow.kept h b (by
  cases hob:v.ownBlock with
  |none=>exact .inl rfl
  |some j=>right;have:=(h.lt j hob).1;intro e;simp at e;omega)
theorem Qel {W:World} {R:Nat} {x y z d f g:Value} {T:TypeId} (h:W.heap[R]? =some (.cells #[d,f,g] T (0,0))) (O:Obj):((((W.setCell ⟨R,0,none⟩ x).setCell ⟨R,1,none⟩ y).setCell ⟨R,2,none⟩ z).alloc O).cell? ⟨R,0,none⟩=some x/\((((W.setCell ⟨R,0,none⟩ x).setCell ⟨R,1,none⟩ y).setCell ⟨R,2,none⟩ z).alloc O).cell? ⟨R,1,none⟩=some y/\((((W.setCell ⟨R,0,none⟩ x).setCell ⟨R,1,none⟩ y).setCell ⟨R,2,none⟩ z).alloc O).cell? ⟨R,2,none⟩=some z:=by
 have b:=Q05 (Q05 (Q05 h 0 x) 1 y) 2 z;have c:=(KBq.alloc (Kaq _) O).block R (KEq b);have a:=c.trans b;exact⟨Q00 a 0 _ rfl,Q00 a 1 _ rfl,Q00 a 2 _ rfl⟩
theorem Q2u (k:Nat) (a:List Int) (w:World) (i:isCur k w) (j:k < w.heap.size) (g:0 < a.length) (h:a.length<=1000):
  Calls Tryz.prog 55 #[.pointer (some ⟨k,0,none⟩),.slice (some ⟨w.heap.size,0,none⟩) a.length a.length] (w.alloc (.cells (a.map (Value.int .i64)).toArray 3)) fun e f=> ∃x,x∈a/\e=.returned (.int .i64 x)/\isCur k f/\w.grownBy f (some k):=by
 refine(Q1H k w.heap.size a _ (i.alloc j _) (by simp) (by omega) g h (fun q b=>?_)).mono ?_
 ·refine Q00 (World.alloc_heap_new w _) q _ ?_
  rw[List.getElem?_toArray,List.getElem?_map,KGq b,KFq,KGq b]
  rfl
 ·rintro e f ⟨q,b,rfl,c,d⟩
  refine⟨_, ?_,rfl,c,Q0m (Q0N w _ k) d⟩;rw[KFq,KGq b];exact List.getElem_mem b
theorem Q7y (k:Nat) (w:World) (hc:isCur k w) (J:k < w.heap.size):
  Calls Tryz.prog 121 #[.pointer (some ⟨k,0,none⟩)] w fun e w'=> ∃a i g:Int,e=.returned (cmd a i g)/\Q0F a i g=true/\Dr k w w':=by
 obtain⟨W0,n⟩:∃W,w.alloc (.cells #[.int .i64 0,.int .i64 0,.int .i64 0] 77)=W:=⟨_,rfl⟩;have O:=alb0v0v1 n;have h:=Q02 (show Dr k w W0 from⟨hc.below (O.mono J),by rw[<-n];exact Q0N w _ k⟩);have L:Hid _:=alx0v0v1 n;have G:=alz0v0v1 n;clear O hc;go_enter Tryz.func121,Tryz.ntmps121;go_wp2_with fail;refine(Q2u k [0,0,0,1,2,3] W0 h.out.cur (h.out.lt J) (by decide) (by decide)).mono ?_;rintro e w1 ⟨a,ha,rfl,P,r⟩;have X:=Q02 ha;have A:=Q02 (h.out.step P r);have M:=Q02 (Q0a r G (by omega) L.out);have H:w.heap.size < w1.heap.size:=Kbq G r.size
 clear ha P r L h G;go_wp2_with fail;refine(Q0t k 5 w1 A.out.cur (by decide) (by decide)).mono ?_;rintro e b ⟨i,rfl,ai,aj,R,s⟩;have B:=Q02 (A.out.step R s);have c:=Q02 (Q0a s H (by omega) M.out);have I:w.heap.size < b.heap.size:=Kbq H s.size;clear R s M A H;have F:Below b.heap.size b (b.alloc (.cells #[.int .i64 a,.int .i64 i,.int .i64 0] 77)):=KBq.alloc (Kaq _) _
 have E:Hid ((b.alloc (.cells #[.int .i64 a,.int .i64 i,.int .i64 0] 77)).heap[b.heap.size]? =some (.cells #[.int .i64 a,.int .i64 i,.int .i64 0] 77 (0,0))):=World.alloc_heap_new b _;have D:=Q02 ((F.block _ I).trans c.out);have l:=Q02 (B.out.below J (F.mono (KIq I)))
 have ag:b.heap.size < ((b.alloc (.cells #[.int .i64 a,.int .i64 i,.int .i64 0] 77))).heap.size:=by simp
 have V:((b.alloc (.cells #[.int .i64 a,.int .i64 i,.int .i64 0] 77))).heap.size=b.heap.size+1:=by simp
 have ac:=Q02 V
 have al:¬w.heap.size=b.heap.size:=by omega
 clear F V
 by_cases h1:a<=1
 ·go_wp2_with fail
  clear c B;generalize (b.alloc (.cells #[.int .i64 a,.int .i64 i,.int .i64 0] 77))=W3 at *;rw[<-ac.out];refine(Q2u k [1,2,10,100] W3 l.out.cur (l.out.lt J) (by decide) (by decide)).mono ?_;rintro e f ⟨g,U,rfl,T,t⟩
  have ak:k < b.heap.size:=by omega
  have m:=Q0a t ag (by omega) E.out;have N:=Q0a t (by omega) (by omega) D.out;have Y:=Q02 (l.out.step T t)
  have C:=Q02 (show Q0F a i g=true by
   have h2:=X.out;simp at h2 U;unfold Q0F;simp
   omega)
  have q:=Q05 m 2 (.int .i64 g);have d:=Q20 (j:=2) (u:=.int .i64 g) N (show w.heap.size≠b.heap.size by omega);have y2:f.cell? ⟨b.heap.size,2,none⟩=some (.int .i64 0):=Q00 m 2 _ rfl;have ah:f.frozen? ⟨b.heap.size,2,none⟩=false:=Q01 m 2;have z0:(f.setCell ⟨b.heap.size,2,none⟩ (.int .i64 g)).cell? ⟨b.heap.size,0,none⟩=some (.int .i64 a):=Q00 q 0 _ rfl;have z1:(f.setCell ⟨b.heap.size,2,none⟩ (.int .i64 g)).cell? ⟨b.heap.size,1,none⟩=some (.int .i64 i):=Q00 q 1 _ rfl
  have z2:(f.setCell ⟨b.heap.size,2,none⟩ (.int .i64 g)).cell? ⟨b.heap.size,2,none⟩=some (.int .i64 g):=Q00 q 2 _ rfl;have r0:(f.setCell ⟨b.heap.size,2,none⟩ (.int .i64 g)).cell? ⟨w.heap.size,0,none⟩=some (.int .i64 0):=Q00 d 0 _ rfl;have ad:(f.setCell ⟨b.heap.size,2,none⟩ (.int .i64 g)).frozen? ⟨w.heap.size,0,none⟩=false:=Q01 d 0;have r1:(f.setCell ⟨b.heap.size,2,none⟩ (.int .i64 g)).cell? ⟨w.heap.size,1,none⟩=some (.int .i64 0):=Q00 d 1 _ rfl;have ae:(f.setCell ⟨b.heap.size,2,none⟩ (.int .i64 g)).frozen? ⟨w.heap.size,1,none⟩=false:=Q01 d 1
  have r2:(f.setCell ⟨b.heap.size,2,none⟩ (.int .i64 g)).cell? ⟨w.heap.size,2,none⟩=some (.int .i64 0):=Q00 d 2 _ rfl;have af:(f.setCell ⟨b.heap.size,2,none⟩ (.int .i64 g)).frozen? ⟨w.heap.size,2,none⟩=false:=Q01 d 2;clear T t m N q d E D l X U;go_wp2;refine bodyPost_ret (v:=cmd a i g) (by simp[results,Tryz.results121,go_sem,r0,r1,r2]) rfl ⟨a,i,g,rfl,C.out,Y.out.below J ?_⟩;exact Q0s (KBq.setCell (p:=⟨b.heap.size,2,none⟩) (KIq I) _) (Kaq _) _ _ _
 ·have C:=Q02 (show Q0F a i 0=true by
   have h2:=X.out;simp at h2;unfold Q0F;simp
   omega)
  have r0:b.cell? ⟨w.heap.size,0,none⟩=some (.int .i64 0):=Q00 c.out 0 _ rfl;have ad:b.frozen? ⟨w.heap.size,0,none⟩=false:=Q01 c.out 0;have r1:b.cell? ⟨w.heap.size,1,none⟩=some (.int .i64 0):=Q00 c.out 1 _ rfl;have ae:b.frozen? ⟨w.heap.size,1,none⟩=false:=Q01 c.out 1;have r2:b.cell? ⟨w.heap.size,2,none⟩=some (.int .i64 0):=Q00 c.out 2 _ rfl;have af:b.frozen? ⟨w.heap.size,2,none⟩=false:=Q01 c.out 2;obtain⟨q0,q1,q2⟩:=Qel (x:=.int .i64 a) (y:=.int .i64 i) (z:=.int .i64 0) c.out (.cells #[.int .i64 a,.int .i64 i,.int .i64 0] 77);have Z:=Q02 q0;have aa:=Q02 q1
  have ab:=Q02 q2;clear E D c X q0 q1 q2;go_wp2;refine bodyPost_ret (v:=cmd a i 0) (by simp[results,Tryz.results121,go_sem,Z.out,aa.out,ab.out]) rfl ⟨a,i,0,rfl,C.out,B.out.below J ?_⟩;exact(Q0s KBq (Kaq _) _ _ _).alloc (by simp;omega) _
theorem Q5q (k:Nat) (w:World) (hc:isCur k w) (H:k < w.heap.size):
  Calls Tryz.prog 72 #[.pointer (some ⟨k,0,none⟩)] w fun e w'=> ∃a i g:Int,e=.returned (cmd a i g)/\Dr k w w':=by
 obtain⟨W0,L⟩:∃W,w.alloc (.cells #[.int .i64 0,.int .i64 0,.int .i64 0] 77)=W:=⟨_,rfl⟩;have ag:=alb0v0v1 L;have I:=Q02 (show Dr k w W0 from⟨hc.below (ag.mono H),by rw[<-L];exact Q0N w _ k⟩);have ab:Hid _:=alx0v0v1 L;have T:=alz0v0v1 L;clear ag hc;go_enter Tryz.func72,Tryz.ntmps72;go_wp2_with fail;refine(Q7y k W0 I.out.cur (I.out.lt H)).mono ?_;rintro e b ⟨a,i,g,rfl,_,B⟩;have aa:=Q02 (I.out.step B.cur B.gr);have ac:=Q02 (Q0a B.gr T (by omega) ab.out);have E:w.heap.size < b.heap.size:=Kbq T B.gr.size;clear B ab I T
 have R:Below b.heap.size b (b.alloc (.cells #[.int .i64 a,.int .i64 i,.int .i64 g] 77)):=KBq.alloc (Kaq _) _;have ae:Hid ((b.alloc (.cells #[.int .i64 a,.int .i64 i,.int .i64 g] 77)).heap[b.heap.size]? =some (.cells #[.int .i64 a,.int .i64 i,.int .i64 g] 77 (0,0))):=World.alloc_heap_new b _;have ad:=Q02 ((R.block _ E).trans ac.out);have M:=Q02 (aa.out.below H (R.mono (KIq E)))
 have U:b.heap.size < ((b.alloc (.cells #[.int .i64 a,.int .i64 i,.int .i64 g] 77))).heap.size:=by simp
 have aj:((b.alloc (.cells #[.int .i64 a,.int .i64 i,.int .i64 g] 77))).heap.size=b.heap.size+1:=by simp
 have al:=Q02 aj;clear R ac aa aj;go_wp2_with fail;generalize (b.alloc (.cells #[.int .i64 a,.int .i64 i,.int .i64 g] 77))=W2 at *;refine(Q1s k 7 W2 M.out.cur (by decide) (by decide)).mono ?_;rintro e G ⟨ak,rfl,ai,D⟩;have z:=Q02 (Q0a D U (by omega) ae.out);have n:=Q02 (Q0a D (by omega) (by omega) ad.out);have J:=Q02 (M.out.step ai D);have X:b.heap.size < G.heap.size:=Kbq U D.size;clear ai D ae ad M U
 cases ak with
 |false=>
  have z0:G.cell? ⟨b.heap.size,0,none⟩=some (.int .i64 a):=Q00 z.out 0 _ rfl;have z1:G.cell? ⟨b.heap.size,1,none⟩=some (.int .i64 i):=Q00 z.out 1 _ rfl;have z2:G.cell? ⟨b.heap.size,2,none⟩=some (.int .i64 g):=Q00 z.out 2 _ rfl;have Y:G.cell? ⟨w.heap.size,0,none⟩=some (.int .i64 0):=Q00 n.out 0 _ rfl;have N:G.frozen? ⟨w.heap.size,0,none⟩=false:=Q01 n.out 0;have Z:G.cell? ⟨w.heap.size,1,none⟩=some (.int .i64 0):=Q00 n.out 1 _ rfl;have O:G.frozen? ⟨w.heap.size,1,none⟩=false:=Q01 n.out 1;have r2:G.cell? ⟨w.heap.size,2,none⟩=some (.int .i64 0):=Q00 n.out 2 _ rfl
  have P:G.frozen? ⟨w.heap.size,2,none⟩=false:=Q01 n.out 2;clear z n;go_wp2;refine bodyPost_ret (v:=cmd a i g) (by simp[results,Tryz.results72,go_sem,Y,Z,r2]) rfl ⟨a,i,g,rfl,J.out.below H ?_⟩;exact Q0s KBq (Kaq _) _ _ _
 |true=>
  go_wp2_with fail;refine(Q0t k 3 G J.out.cur (by decide) (by decide)).mono ?_;rintro e w3 ⟨x,rfl,am,an,ah,C⟩;have t:=Q02 (Q0a C X (by omega) z.out);have s:=Q02 (Q0a C (by omega) (by omega) n.out);have m:=Q02 (J.out.step ah C);have V:b.heap.size < w3.heap.size:=Kbq X C.size;clear ah C z n J X
  by_cases e0:x=0
  ·subst e0
   go_wp2_with fail;refine(Q2u k [-1,4,2] w3 m.out.cur (m.out.lt H) (by decide) (by decide)).mono ?_;rintro e d ⟨y,F,rfl,r,l⟩;have f:=Q0a l V (by omega) t.out;have q:=Q0a l (by omega) (by omega) s.out;have A:=Q02 (m.out.step r l);have h:=Q05 f 0 (.int .i64 y);have c:=Q20 (j:=0) (u:=.int .i64 y) q (show w.heap.size≠b.heap.size by omega);have y2:d.cell? ⟨b.heap.size,0,none⟩=some (.int .i64 a):=Q00 f 0 _ rfl;have af:d.frozen? ⟨b.heap.size,0,none⟩=false:=Q01 f 0
   have z0:(d.setCell ⟨b.heap.size,0,none⟩ (.int .i64 y)).cell? ⟨b.heap.size,0,none⟩=some (.int .i64 y):=Q00 h 0 _ rfl;have z1:(d.setCell ⟨b.heap.size,0,none⟩ (.int .i64 y)).cell? ⟨b.heap.size,1,none⟩=some (.int .i64 i):=Q00 h 1 _ rfl;have z2:(d.setCell ⟨b.heap.size,0,none⟩ (.int .i64 y)).cell? ⟨b.heap.size,2,none⟩=some (.int .i64 g):=Q00 h 2 _ rfl;have Y:(d.setCell ⟨b.heap.size,0,none⟩ (.int .i64 y)).cell? ⟨w.heap.size,0,none⟩=some (.int .i64 0):=Q00 c 0 _ rfl;have N:(d.setCell ⟨b.heap.size,0,none⟩ (.int .i64 y)).frozen? ⟨w.heap.size,0,none⟩=false:=Q01 c 0
   have Z:(d.setCell ⟨b.heap.size,0,none⟩ (.int .i64 y)).cell? ⟨w.heap.size,1,none⟩=some (.int .i64 0):=Q00 c 1 _ rfl;have O:(d.setCell ⟨b.heap.size,0,none⟩ (.int .i64 y)).frozen? ⟨w.heap.size,1,none⟩=false:=Q01 c 1;have r2:(d.setCell ⟨b.heap.size,0,none⟩ (.int .i64 y)).cell? ⟨w.heap.size,2,none⟩=some (.int .i64 0):=Q00 c 2 _ rfl;have P:(d.setCell ⟨b.heap.size,0,none⟩ (.int .i64 y)).frozen? ⟨w.heap.size,2,none⟩=false:=Q01 c 2;clear r l f q h c t s m F;go_wp2
   refine bodyPost_ret (v:=cmd y i g) (by simp[results,Tryz.results72,go_sem,Y,Z,r2]) rfl ⟨y,i,g,rfl,A.out.below H ?_⟩;exact Q0s (KBq.setCell (p:=⟨b.heap.size,0,none⟩) (KIq E) _) (Kaq _) _ _ _
  by_cases e1:x=1
  ·subst e1
   go_wp2_with fail;refine(Q2u k [-1,6] w3 m.out.cur (m.out.lt H) (by decide) (by decide)).mono ?_;rintro e d ⟨y,F,rfl,r,l⟩;have f:=Q0a l V (by omega) t.out;have q:=Q0a l (by omega) (by omega) s.out;have A:=Q02 (m.out.step r l);have h:=Q05 f 1 (.int .i64 y);have c:=Q20 (j:=1) (u:=.int .i64 y) q (show w.heap.size≠b.heap.size by omega);have y2:d.cell? ⟨b.heap.size,1,none⟩=some (.int .i64 i):=Q00 f 1 _ rfl;have af:d.frozen? ⟨b.heap.size,1,none⟩=false:=Q01 f 1
   have z0:(d.setCell ⟨b.heap.size,1,none⟩ (.int .i64 y)).cell? ⟨b.heap.size,0,none⟩=some (.int .i64 a):=Q00 h 0 _ rfl;have z1:(d.setCell ⟨b.heap.size,1,none⟩ (.int .i64 y)).cell? ⟨b.heap.size,1,none⟩=some (.int .i64 y):=Q00 h 1 _ rfl;have z2:(d.setCell ⟨b.heap.size,1,none⟩ (.int .i64 y)).cell? ⟨b.heap.size,2,none⟩=some (.int .i64 g):=Q00 h 2 _ rfl;have Y:(d.setCell ⟨b.heap.size,1,none⟩ (.int .i64 y)).cell? ⟨w.heap.size,0,none⟩=some (.int .i64 0):=Q00 c 0 _ rfl;have N:(d.setCell ⟨b.heap.size,1,none⟩ (.int .i64 y)).frozen? ⟨w.heap.size,0,none⟩=false:=Q01 c 0
   have Z:(d.setCell ⟨b.heap.size,1,none⟩ (.int .i64 y)).cell? ⟨w.heap.size,1,none⟩=some (.int .i64 0):=Q00 c 1 _ rfl;have O:(d.setCell ⟨b.heap.size,1,none⟩ (.int .i64 y)).frozen? ⟨w.heap.size,1,none⟩=false:=Q01 c 1;have r2:(d.setCell ⟨b.heap.size,1,none⟩ (.int .i64 y)).cell? ⟨w.heap.size,2,none⟩=some (.int .i64 0):=Q00 c 2 _ rfl;have P:(d.setCell ⟨b.heap.size,1,none⟩ (.int .i64 y)).frozen? ⟨w.heap.size,2,none⟩=false:=Q01 c 2;clear r l f q h c t s m F;go_wp2
   refine bodyPost_ret (v:=cmd a y g) (by simp[results,Tryz.results72,go_sem,Y,Z,r2]) rfl ⟨a,y,g,rfl,A.out.below H ?_⟩;exact Q0s (KBq.setCell (p:=⟨b.heap.size,1,none⟩) (KIq E) _) (Kaq _) _ _ _
  ·go_wp2_with fail
   refine(Q2u k [-1,0,101,5] w3 m.out.cur (m.out.lt H) (by decide) (by decide)).mono ?_;rintro e d ⟨y,F,rfl,r,l⟩;have f:=Q0a l V (by omega) t.out;have q:=Q0a l (by omega) (by omega) s.out;have A:=Q02 (m.out.step r l);have h:=Q05 f 2 (.int .i64 y);have c:=Q20 (j:=2) (u:=.int .i64 y) q (show w.heap.size≠b.heap.size by omega);have y2:d.cell? ⟨b.heap.size,2,none⟩=some (.int .i64 g):=Q00 f 2 _ rfl;have af:d.frozen? ⟨b.heap.size,2,none⟩=false:=Q01 f 2
   have z0:(d.setCell ⟨b.heap.size,2,none⟩ (.int .i64 y)).cell? ⟨b.heap.size,0,none⟩=some (.int .i64 a):=Q00 h 0 _ rfl;have z1:(d.setCell ⟨b.heap.size,2,none⟩ (.int .i64 y)).cell? ⟨b.heap.size,1,none⟩=some (.int .i64 i):=Q00 h 1 _ rfl;have z2:(d.setCell ⟨b.heap.size,2,none⟩ (.int .i64 y)).cell? ⟨b.heap.size,2,none⟩=some (.int .i64 y):=Q00 h 2 _ rfl;have Y:(d.setCell ⟨b.heap.size,2,none⟩ (.int .i64 y)).cell? ⟨w.heap.size,0,none⟩=some (.int .i64 0):=Q00 c 0 _ rfl;have N:(d.setCell ⟨b.heap.size,2,none⟩ (.int .i64 y)).frozen? ⟨w.heap.size,0,none⟩=false:=Q01 c 0
   have Z:(d.setCell ⟨b.heap.size,2,none⟩ (.int .i64 y)).cell? ⟨w.heap.size,1,none⟩=some (.int .i64 0):=Q00 c 1 _ rfl;have O:(d.setCell ⟨b.heap.size,2,none⟩ (.int .i64 y)).frozen? ⟨w.heap.size,1,none⟩=false:=Q01 c 1;have r2:(d.setCell ⟨b.heap.size,2,none⟩ (.int .i64 y)).cell? ⟨w.heap.size,2,none⟩=some (.int .i64 0):=Q00 c 2 _ rfl;have P:(d.setCell ⟨b.heap.size,2,none⟩ (.int .i64 y)).frozen? ⟨w.heap.size,2,none⟩=false:=Q01 c 2;clear r l f q h c t s m F;go_wp2
   refine bodyPost_ret (v:=cmd a i y) (by simp[results,Tryz.results72,go_sem,Y,Z,r2]) rfl ⟨a,i,y,rfl,A.out.below H ?_⟩;exact Q0s (KBq.setCell (p:=⟨b.heap.size,2,none⟩) (KIq E) _) (Kaq _) _ _ _
end Go.Proofs.YtpneolgdghbinaaGreat
