/- Several texts in one: SL4, ShP, SBSame2, ShBal, SL4b, SJS, SRep, SJCut, SNote, Cut4, SDr4. -/
import Derived.Deep.CutRange
import Derived.Test.YtpneolgdghbinaaGreatQLearnsL25
namespace Go.Proofs.YtpneolgdghbinaaGreat
open Go.ChangeShapes Go.WideShapes Go.ChangeAt Go.RowKit Go.Joins
set_option linter.unusedVariables false
set_option linter.unusedSimpArgs false
set_option maxRecDepth 100000
set_option maxHeartbeats 40000000
theorem Q8Y {w:World} {base:Nat} {v:Value} {l:List Bk} (h:Q1w w base v l) {o:Option Addr} {n c:Nat} (e:v=.slice o n c):o=none→c=0:=fun e'=> (InRow.cap (InRow.of h)) n c (by rw [e,e'])
theorem bC {C b j:Nat} {w w':World} {u:Value} (h:Below C w w') (hc:w.cell? ⟨b,j,none⟩=some u) (hz:b < C):w'.cell? ⟨b,j,none⟩=some u:=(h.cell (p:=⟨b,j,none⟩) hz).trans hc
theorem bF {C b j:Nat} {w w':World} (h:Below C w w') (hc:w.frozen? ⟨b,j,none⟩=false) (hz:b < C):w'.frozen? ⟨b,j,none⟩=false:=(h.frozen (p:=⟨b,j,none⟩) hz).trans hc
abbrev plv (k:Int) (vb vr:Value):Value:=.agg #[.int .i64 k,vb,vr]
theorem Q4p {w:World} {x y:Int} {z:Bool} {T:TypeId}:RdK (w.alloc (.cells #[.int .i64 x,.int .i64 y,.bool z] T)).heap.size (w.alloc (.cells #[.int .i64 x,.int .i64 y,.bool z] T)) (some ⟨w.heap.size,0,none⟩) [(x,y,z)]:=
 .inr ⟨w.heap.size,0,rfl,by simp,fun i hi j a=> by
  have b:i=0:=by simpa using hi
  subst b
  match j,a with
  |0,_=> simp [Q1d]
  |1,_=> simp [Q1d]
  |2,_=> simp [Q1d]⟩
theorem Qei:(Tryz.prog.info? 51).map (fun i=> (i.zero,i.size,i.bytes))=some (some (.slice none 0 0),1,24):=by kernel_rfl
theorem Q66:AppOk Q0H 27 51:=⟨Tryz.underlying27,⟨_,_,Qei,rfl,by decide⟩,by decide,fun a u hu=> by
 simp [Q0H] at hu;subst hu;rfl⟩
theorem Q1Y {w:World} {base s n:Nat} {e T:TypeId} {v:Value} {k:List Value} {B:Nat} {c:Array Value} (h:w.ownsRow base e s v n k) (b:w.heap[B]? =some (.cells c T (0,0))) (i:e≠T):v.ownBlock=none∨v.ownBlock≠some B:=by
 rcases h.2 with ⟨a,h2⟩|⟨g,cap,j,a,l,f,_⟩
 ·left;rw [a];rfl
 ·right
  rw [a];intro d;simp [Value.ownBlock] at d;subst d;rw [f] at b;simp at b;exact i b.2
theorem Q0I (w:World) (B j:Nat) (u:Value):w.grownBy (w.setCell ⟨B,j,none⟩ u) (some B):=
 ⟨rfl,rfl,rfl,by simp [World.setCell],fun k b a=> Below.heap_setCell w ⟨B,j,none⟩ u k (fun e=> a (by rw [e]))⟩
theorem Q06 {W:World} {B:Nat} {c:Array Value} {T:TypeId} (h:W.heap[B]? =some (.cells c T (0,0))) (j:Nat) (u:Value):(W.setCell ⟨B,j,none⟩ u).heap[B]? =some (.cells (c.setIfInBounds j u) T (0,0)):=by
 simp [World.setCell,Array.getElem?_modify,h]
theorem Q00 {W:World} {B:Nat} {c:Array Value} {t:TypeId} (h:W.heap[B]? =some (.cells c t (0,0))) (j:Nat) (u:Value) (hj:c[j]? =some u):W.cell? ⟨B,j,none⟩=some u:=by
 simp [World.cell?,h,hj]
theorem Q02 {W:World} {B:Nat} {c:Array Value} {t:TypeId} (h:W.heap[B]? =some (.cells c t (0,0))) (j:Nat):W.frozen? ⟨B,j,none⟩=false:=by
 simp [World.frozen?,h]
structure St (W0 W:World) (lv:Value) (s:List Bk) (B:Nat) (x y:Int) (u:Bool):Prop where
 own:Q1w W W0.heap.size lv s
 bel:Below W0.heap.size W0 W
 box:W.heap[B]? =some (.cells #[.int .i64 x,.int .i64 y,.bool u] 119 (0,0))
 ge:W0.heap.size≤B
 ne:∀b,lv.ownBlock=some b→b≠B
theorem St.start {a wr:World} {f:Value} {s:List Bk} {x y:Int} {u:Bool} (d:Q1w wr a.heap.size f s) (c:Below a.heap.size a wr):St a (wr.alloc (.cells #[.int .i64 x,.int .i64 y,.bool u] 119)) f s wr.heap.size x y u:=
 ⟨World.ownsRow.alloc d _,c.alloc c.size _,World.alloc_heap_new wr _,c.size,fun b e=> by have:=(d.lt b e).2;omega⟩
theorem St.app {f W g:World} {i d:Value} {s:List Bk} {B:Nat} {x y:Int} {u:Bool} {a:Bk} {A:Obj} (h:St f W i s B x y u) (m:Q1w g f.heap.size d (s++[a])) (j:(W.alloc A).grownBy g i.ownBlock) (c:d.ownBlock=i.ownBlock∨d.ownBlock=some (W.heap.size+1)):St f g d (s++[a]) B x y u:=by
 have l:B < W.heap.size:=(Array.getElem?_eq_some_iff.1 h.box).1;have hs:=h.bel.size;refine ⟨m,(h.bel.alloc hs A).grown j (by simp;omega) (fun k e=> (h.own.lt k e).1), ?_,h.ge, ?_⟩
 ·rw [j.block B (by simp;omega) (fun e=> h.ne B e.symm rfl),Below.heap_alloc _ _ _ l]
  exact h.box
 ·intro b e
  rcases c with c|c
  ·exact h.ne b (by rw [←c,e])
  ·rw [c] at e
   simp at e;omega
theorem St.put1 {d W:World} {c:Value} {s:List Bk} {B:Nat} {x y:Int} {u:Bool} (h:St d W c s B x y u) (g:Int):St d (W.setCell ⟨B,1,none⟩ (.int .i64 g)) c s B x g u:=
 ⟨World.ownsRow.kept h.own (Q0I W B 1 _) (by cases a:c.ownBlock with
  |none=> exact .inl rfl
  |some b=> exact .inr (fun e=> h.ne b a (by injection e))),h.bel.setCell (p:=⟨B,1,none⟩) h.ge _,by rw [Q06 h.box];rfl,h.ge,h.ne⟩
theorem St.put2 {f W:World} {c:Value} {s:List Bk} {B:Nat} {x y:Int} {u:Bool} (h:St f W c s B x y u) (d:Bool):St f (W.setCell ⟨B,2,none⟩ (.bool d)) c s B x y d:=
 ⟨World.ownsRow.kept h.own (Q0I W B 2 _) (by cases a:c.ownBlock with
  |none=> exact .inl rfl
  |some b=> exact .inr (fun e=> h.ne b a (by injection e))),h.bel.setCell (p:=⟨B,2,none⟩) h.ge _,by rw [Q06 h.box];rfl,h.ge,h.ne⟩
def RingO (w:World) (base:Nat) (v:Value) (T:Nat→List Int) (hsR:List Hd):Prop:=∃o3 c3 hs3,ownL Q0H 51 w base v ((o3,8,c3)::hsR)∧ownL Q0H 47 w base (.slice o3 8 c3) hs3∧Tab T 8 w base hs3
theorem Q9V:(51:TypeId)≠29:=by decide
theorem QiX:(47:TypeId)≠29:=by decide
theorem Qjg:(3:TypeId)≠29:=by decide
theorem Q87:(119:TypeId)≠29:=by decide
theorem Qj4:(47:TypeId)≠51:=by decide
theorem Qjk:(3:TypeId)≠51:=by decide
theorem Q0q {w:World} {base s n:Nat} {e:TypeId} {v:Value} {a:List Value} {B:Nat} {c:Array Value} (h:w.ownsRow base e s v n a) (b:w.heap[B]? =some (.cells c 29 (0,0))) (d:e≠29) (j:Nat) (u:Value):(w.setCell ⟨B,j,none⟩ u).ownsRow base e s v n a:=
 World.ownsRow.kept h (Q0I w B j u) (Q1Y h b d)
theorem Q0o {w:World} {base s n:Nat} {e:TypeId} {v:Value} {a:List Value} {B:Nat} (h:w.ownsRow base e s v n a) (c:B < base) (j:Nat) (u:Value):(w.setCell ⟨B,j,none⟩ u).ownsRow base e s v n a:=
 World.ownsRow.kept h (Q0I w B j u) (by
  cases hob:v.ownBlock with
  |none=> exact .inl rfl
  |some b=> exact .inr (fun e=> by have:=(h.lt b hob).1;injection e with e;omega))
theorem RingO.put {w:World} {base:Nat} {v:Value} {T:Nat→List Int} {a:List Hd} {B:Nat} {c:Array Value} (h:RingO w base v T a) (d:w.heap[B]? =some (.cells c 29 (0,0))) (j:Nat) (u:Value):RingO (w.setCell ⟨B,j,none⟩ u) base v T a:=by
 obtain ⟨g,k,b,l,h2,f⟩:=h;exact ⟨g,k,b,Q0q l d Q9V j u,Q0q h2 d QiX j u,f.grown (Q0I w B j u) (fun i hi=> Q1Y (f.row i hi) d Qjg)⟩
theorem RingO.low {w:World} {base:Nat} {v:Value} {T:Nat→List Int} {a:List Hd} {B:Nat} (h:RingO w base v T a) (d:B < base) (j:Nat) (u:Value):RingO (w.setCell ⟨B,j,none⟩ u) base v T a:=by
 obtain ⟨g,k,c,l,h2,f⟩:=h;refine ⟨g,k,c,Q0o l d j u,Q0o h2 d j u,f.grown (Q0I w B j u) (fun i hi=> ?_)⟩
 cases hob:(hv c i).ownBlock with
 |none=> exact .inl rfl
 |some b=> exact .inr (fun e=> by have:=((f.row i hi).lt b hob).1;injection e with e;omega)
theorem RingO.alloc {w:World} {base:Nat} {v:Value} {T:Nat→List Int} {a:List Hd} (h:RingO w base v T a) (o:Obj):RingO (w.alloc o) base v T a:=by
 obtain ⟨g,d,b,f,h2,c⟩:=h;exact ⟨g,d,b,World.ownsRow.alloc f o,World.ownsRow.alloc h2 o,c.kept ((Below.refl _ _).alloc (Kaq _) _)⟩
theorem RingO.isSome {w:World} {base:Nat} {v:Value} {T:Nat→List Int} {a:List Hd} (h:RingO w base v T a):∃g c,v=.slice (some ⟨g,0,none⟩) (a.length+1) c:=by
 obtain ⟨j,i,d,b,h2,f⟩:=h;obtain ⟨g,c,e⟩:=Q2N b (by simp);exact ⟨g,c,by rw [e];simp⟩
theorem Q4o (w:World) (o:Option Addr) (n c:Nat) (T:TypeId):ownL Q0H T (w.alloc (.cells #[.slice o n c] T)) w.heap.size (.slice (some ⟨w.heap.size,0,none⟩) 1 1) [(o,n,c)]:=
 ⟨by simp [Q0H],.inr ⟨w.heap.size,1,#[.slice o n c],rfl,Kaq _,heap_alloc_new w _,by simp,by unfold maxLen;omega,by simp [Q0H],by simp [Q0H]⟩⟩
theorem Q2D {V f:World} {base:Nat} {s g:Value} {c:Option Addr} {d:Nat} {a b:List Hd} {T:Nat→List Int} (hs:ownL Q0H 51 V base s [(c,8,d)]) (h2:ownL Q0H 47 V base (.slice c 8 d) a) (i:Tab T 8 V base a) (j:ownL Q0H 51 f base g ([(c,8,d)]++b)) (h:V.grownBy f s.ownBlock):RingO f base g T b:=
 ⟨c,d,a,j,World.ownsRow.kept h2 h (Q2z h2 hs Qj4),i.other hs Qjk h⟩
theorem Tab.mono {R:Nat→List Int} {k:Nat} {w:World} {base b2:Nat} {hs:List Hd} (h:Tab R k w base hs) (hb:b2≤base):Tab R k w b2 hs:=⟨h.len,fun i hi=> Q04 (h.row i hi) hb,h.apart⟩
abbrev setP (W:World) (B:Nat) (a b c:Value):World:=((W.setCell ⟨B,0,none⟩ a).setCell ⟨B,1,none⟩ b).setCell ⟨B,2,none⟩ c
theorem Qgv {a W:World} {B:Nat} {key:Int} {c b:Value} {T:Nat→List Int} {d:List Hd} {j m n:Value} (g:W.heap[B]? =some (.cells #[j,m,n] 29 (0,0))) (l:Below a.heap.size a W) (f:a.heap.size≤B) (k:RingO W a.heap.size b T d):
  ∃B' v',Value.pointer (some ⟨B,0,none⟩)=.pointer (some ⟨B',0,none⟩)∧Hid ((setP W B (.int .i64 key) c b).heap[B']? =some (.cells #[.int .i64 key,c,v'] 29 (0,0)))∧Hid (Below a.heap.size a (setP W B (.int .i64 key) c b))∧a.heap.size≤B'∧B' < (setP W B (.int .i64 key) c b).heap.size∧Hid (RingO (setP W B (.int .i64 key) c b) a.heap.size v' T d):=by
 have i:=Q06 g 0 (.int .i64 key);have h2:=Q06 i 1 c;have h:=Q06 h2 2 b;refine ⟨B,b,rfl,h,((l.setCell (p:=⟨B,0,none⟩) f _).setCell (p:=⟨B,1,none⟩) f _).setCell (p:=⟨B,2,none⟩) f _,f,(Array.getElem?_eq_some_iff.1 h).1,((k.put g 0 _).put i 1 _).put h2 2 _⟩
theorem QhR {a W:World} {key:Int} {d b:Value} {T:Nat→List Int} {c:List Hd} (f:Below a.heap.size a W) (g:RingO W a.heap.size b T c):
  ∃B' v',Value.pointer (some ⟨W.heap.size,0,none⟩)=.pointer (some ⟨B',0,none⟩)∧Hid ((W.alloc (.cells #[.int .i64 key,d,b] 29)).heap[B']? =some (.cells #[.int .i64 key,d,v'] 29 (0,0)))∧Hid (Below a.heap.size a (W.alloc (.cells #[.int .i64 key,d,b] 29)))∧a.heap.size≤B'∧B' < (W.alloc (.cells #[.int .i64 key,d,b] 29)).heap.size∧Hid (RingO (W.alloc (.cells #[.int .i64 key,d,b] 29)) a.heap.size v' T c):=
 ⟨W.heap.size,b,rfl,World.alloc_heap_new W _,f.alloc f.size _,f.size,by simp,g.alloc _⟩
theorem Q4L {w a:World} {c:Array Value} {T:TypeId} (b:Below ((w.alloc (.cells c T)).drew).heap.size (w.alloc (.cells c T)).drew a):a.heap[w.heap.size]? =some (.cells c T (0,0)):=by
 have d:=b.block w.heap.size (by simp);have h2:(w.alloc (.cells c T)).drew.heap[w.heap.size]? =(w.alloc (.cells c T)).heap[w.heap.size]? :=rfl;exact d.trans (h2.trans (World.alloc_heap_new w (.cells c T)))
theorem Q45 {V d:World} {B n:Nat} {c:Array Value} {T:TypeId} (f:V.grownBy d (Value.slice (some ⟨n,0,none⟩) 1 1).ownBlock) (b:V.heap[B]? =some (.cells c T (0,0))) (a:B≠n):d.heap[B]? =some (.cells c T (0,0)):=
 (f.block B (Array.getElem?_eq_some_iff.1 b).1 (by simp [Value.ownBlock];exact a)).trans b
theorem Q0a {W:World} {B b j:Nat} {u x y z:Value} (h:W.cell? ⟨b,j,none⟩=some u) (a:b < B):(setP W B x y z).cell? ⟨b,j,none⟩=some u:=
 (((((Below.refl B W).setCell (p:=⟨B,0,none⟩) (Kaq _) x).setCell (p:=⟨B,1,none⟩) (Kaq _) y).setCell (p:=⟨B,2,none⟩) (Kaq _) z).cell (p:=⟨b,j,none⟩) a).trans h
theorem Q9N (w:World) (a:Obj) (o:Option Addr) (n c:Nat) (T:TypeId):ownL Q0H T ((w.alloc a).alloc (.cells #[.slice o n c] T)) (w.heap.size+1) (.slice (some ⟨w.heap.size+1,0,none⟩) 1 1) [(o,n,c)]:=by
 have h:=Q4o (w.alloc a) o n c T;rw [World.size_alloc] at h;exact h
theorem Q3U (w:World) (c:Array Value) (T:TypeId) (a:Obj):((w.alloc (.cells c T)).alloc a).heap[w.heap.size]? =some (.cells c T (0,0)):=(Below.heap_alloc _ _ _ (by simp)).trans (World.alloc_heap_new w _)
theorem Q1V (w:World) (c:Array Value) (T:TypeId) (a:Obj):((w.alloc a).alloc (.cells c T)).heap[w.heap.size+1]? =some (.cells c T (0,0)):=by
 have h:=World.alloc_heap_new (w.alloc a) (.cells c T);rw [World.size_alloc] at h;exact h
theorem RingO.cap {w:World} {base n c:Nat} {g:Nat} {T:Nat→List Int} {a:List Hd} (h:RingO w base (.slice (some ⟨g,0,none⟩) n c) T a):n≤c:=by
 obtain ⟨p,s,b,i,h2,l⟩:=h
 rcases i.2 with ⟨e,_⟩|⟨j,cap,d,e,q,k,f,m,t,r⟩
 ·cases e
 ·injection e with e1 e2 e3
  rw [e2,e3];exact f
theorem Q1q {w:World} {B b j q:Nat} {u:Value} (h:b≠B):(w.setCell ⟨B,q,none⟩ u).cell? ⟨b,j,none⟩=w.cell? ⟨b,j,none⟩:=by
 simp only [World.cell?,Below.heap_setCell w ⟨B,q,none⟩ u b h]
theorem Q0W {w:World} {B b j q:Nat} {u:Value} (h:b≠B):(w.setCell ⟨B,q,none⟩ u).frozen? ⟨b,j,none⟩=w.frozen? ⟨b,j,none⟩:=by
 simp only [World.frozen?,Below.heap_setCell w ⟨B,q,none⟩ u b h]
theorem Q7n {w:World} {base g n c:Nat} {e:TypeId} {hs:List Hd} (h:ownL Q0H e w base (.slice (some ⟨g,0,none⟩) n c) hs) (a:3≤hs.length):ownL Q0H e w base (.slice (some ⟨g,0,none⟩) 3 c) (hs.take 3):=by
 have d:n=hs.length:=by
  obtain ⟨f,i,b,_⟩:=ownL.open (L:=Q0H) h;injection b with _ e2 _
 subst d;exact Q8K (L:=Q0H) h 3 a
theorem RingO.mono {w:World} {base d:Nat} {v:Value} {T:Nat→List Int} {a:List Hd} (h:RingO w base v T a) (b:d≤base):RingO w d v T a:=by
 obtain ⟨j,g,c,i,h2,f⟩:=h;exact ⟨j,g,c,Q04 i b,Q04 h2 b,Tab.mono f b⟩
def Q6y (key:Int) (m:List Bk) (hsR:List Hd) (w:World) (e:Ending) (w':World):Prop:=∃o2 c2 oR2 n2 cR2 o3 c3 hs3,e=.returned (.tuple #[plv key (.slice o2 m.length c2) (.slice oR2 n2 cR2),.bool true])∧n2=(((o3,8,c3)::hsR).take 3).length∧Q1w w' w.heap.size (.slice o2 m.length c2) m∧ownL Q0H 51 w' w.heap.size (.slice oR2 n2 cR2) (((o3,8,c3)::hsR).take 3)∧ownL Q0H 47 w' w.heap.size (.slice o3 8 c3) hs3∧Tab (fun b=> Q19 key b m) 8 w' w.heap.size hs3∧Below w.heap.size w w'
theorem QdS {l:List Bk} {i:Int} (h:Q0z l i=false):Q7U l i= -1:=by unfold Q7U;rw [h];rfl
theorem QcK {l:List Bk} {i:Int} (h:Q0z l i=true):Q7U l i=(Q0j l i:Int):=by unfold Q7U;rw [h];rfl
theorem Qgr (key:Int) (o:Option Addr) (cap:Nat) (l:List Bk) (oR:Option Addr) (cR:Nat) (d:List Hd) (i g:Int) (m:List Bk) (w:World) (hk:Q1P key=true) (hl:Q0e l=true) (hc:Q0J 0 i g=true) (hm:doL l 0 i g=some m) (cr:l.length≤100) (hR:RdK w.heap.size w o l) (hG:RdL Q0H w.heap.size w oR d) (aV:oR=none→cR=0) (cu:d.length≤3):
  Calls Tryz.prog 95 #[plv key (.slice o l.length cap) (.slice oR d.length cR),cmd 0 i g] w fun e w'=> Q6y key m d w e w':=by
 obtain ⟨W0,av⟩:∃W,(((w.alloc (.cells #[.int .i64 key,.slice o l.length cap,.slice oR d.length cR] 29)).alloc (.cells #[.int .i64 0,.int .i64 i,.int .i64 g] 77)).alloc (.cells #[.int .i64 0,.slice none 0 0,.slice none 0 0] 29))=W:=⟨_,rfl⟩;have aW:=alb0v0v3 av;have HB:=Q01 aW;clear aW;have zz:=alz0v0v3 av;obtain ⟨z0,z1,z2⟩:=alc3v0v3 av;have zu:=alz0v1v3 av;obtain ⟨u0,u1,u2⟩:=alc3v1v3 av;have zr:=alz0v2v3 av;obtain ⟨r0,r1,r2⟩:=alc3v2v3 av;obtain ⟨b6,b4,b1⟩:=alf3v2v3 av;have cs:=zr;have HR:=Q01 hR;have HG:=Q01 hG;have ah:=HB.out.size
 have HF:=Q01 (Q6l o cap l i W0 ((hR.kept HB.out (Kaq _)).le HB.out.size) (by omega) hl);have au:=Q01 (QfO hl hc hm);have aT:=Q8I hl hc hm;have cg:=Q96 hm
 have bm:Q0z l i=false:=by rcases Q5v hm with ⟨h,_⟩|⟨_,h,_⟩|⟨_,h,_⟩|⟨_,h,_⟩ <;> first|exact h|(exact absurd h (by decide))|(exact absurd rfl h)
 rw [QdS bm] at HF au;clear hR hG hl hc;have aO:=Q01 (fun t=> Q8S (l:=l) (k:=0) (i:=i) (g:=g) (fi:= -1) t);have Z0:=z0;have Z1:=z1;have Z2:=z2;have ZZ:=zz;have U0:=u0;have U1:=u1;have U2:=u2;have ZU:=zu;have Q0:=r0;have Q1:=r1;have Q2:=r2;have ZQ:=zr;have FQ0:=b6;have FQ1:=b4;have FQ2:=b1;go_enter Tryz.func95,Tryz.ntmps95;go_wp2_with fail;refine HF.out.mono ?_;rintro e w9 ⟨rfl,rfl⟩;go_wp2
 go_loopw [7,8,9] (fun lv pv tv wr=> ∃t:Nat,t≤l.length∧tv=.int .i64 (t:Int)∧pv=.bool (Q5k l 0 i g (-1) t).2∧Hid (Q1w wr W0.heap.size lv (Q5k l 0 i g (-1) t).1)∧Hid (Below W0.heap.size W0 wr))
  (fun _ _ tv _=> l.length - (intOf tv).toNat)
 case atStart=> exact ⟨0,Kcq _,rfl,by simp [Q5k],World.ownsRow_nil _ _ _ _,Below.refl _ _⟩
 case round=>
  obtain ⟨t,cx,rfl,rfl,HO,af⟩:=hrel;clear HF z0 z1 z2 u0 u1 u2 r0 r1 r2 b6 b4 b1 zz zu zr av;have bH:Hid (Below w.heap.size w wr):=HB.out.trans (af.out.mono ah)
  by_cases hlt:t < l.length
  ·skip
   have cq:(t:Int) < (l.length:Int):=by omega
   have cw:(0:Int)≤(t:Int):=by omega
   rcases HR.out with hR|⟨b,off,rfl,bS,bi⟩
   ·subst hR;simp at hlt
   obtain ⟨c0,c1,c2⟩:=RdL.back (C:=w.heap.size) bi t hlt;replace c0:=(bH.out.cell (p:=⟨b,off+t * 3,none⟩) bS).trans c0;replace c1:=(bH.out.cell (p:=⟨b,off+t * 3+1,none⟩) bS).trans c1;replace c2:=(bH.out.cell (p:=⟨b,off+t * 3+2,none⟩) bS).trans c2;have a8:=Q5J l 0 i g (-1) t;have aA:=Q01 (show Q5k l 0 i g (-1) (t+1)=Q4Z 0 i g (-1) (Q5k l 0 i g (-1) t) t (l.getD t (0,0,false)) from rfl);have ar:=aO.out t;obtain ⟨x,y,u,bK⟩:∃x y u,l.getD t (0,0,false)=(x,y,u):=⟨_,_,_,rfl⟩;rw [bK] at c0 c1 c2 aA;dsimp only at c0 c1 c2;clear bK bi
   obtain ⟨s1,s2,aB⟩:∃s1 s2,Q5k l 0 i g (-1) t=(s1,s2):=⟨_,_,rfl⟩;rw [aB] at HO aA a8 ar ⊢;dsimp only at HO a8 ar ⊢;clear aB au aO;have a5:=bC af.out Z1 ZZ;have ct:((t:Int)== -1)=false:=beq_eq_false_iff_ne.2 (by omega)
   have aI:¬((t:Int)= -1):=by omega
   cases s2 with
   |true=>
    have F:=aA.out;unfold Q4Z at F;simp only [aI,if_false,Bool.true_eq_false,false_and] at F;have aw:=Q01 F;clear aA F
    (try have H1:=Q01 h1)
    (try have H3:=Q01 h3)
    (try clear h1 h3)
    (try clear h3)
    obtain ⟨W2,a2⟩:∃W,wr.alloc (.cells #[.int .i64 x,.int .i64 y,.bool u] 119)=W:=⟨_,rfl⟩
    have f:Hid (St W0 W2 u7 s1 wr.heap.size x y u):=by rw [←a2];exact St.start HO.out af.out
    have bd:=bC f.out.bel Z1 ZZ;have bg:=bC f.out.bel U0 ZU;have aZ:=bC f.out.bel U1 ZU;have aY:=bC f.out.bel U2 ZU;have a1:=Q00 f.out.box 0 _ rfl;have aX:=Q00 f.out.box 1 _ rfl;have bc:=Q00 f.out.box 2 _ rfl;have aS:=Q02 f.out.box 0;have aR:=Q02 f.out.box 1;have aK:=Q02 f.out.box 2
    go_wp2_with (at_builtin;refine Q08 Q47 rfl (.tmp 69) (.tmp 71) rfl W0.heap.size _ _ rfl (World.ownsRow.alloc f.out.own (.cells #[.int .i64 x,.int .i64 y,.bool u] 119)) (some ⟨W2.heap.size,0,none⟩) 1 (W2.alloc (.cells #[.int .i64 x,.int .i64 y,.bool u] 119)).heap.size [(x,y,u)] 1 rfl rfl (fun h=> by cases h) Q4p (by simp;omega) (by have:=f.out.bel.size;simp;omega) ?_);intro v6 w6 ab ag ai;have ay:=Q01 (f.out.app ab ag ai);clear ab ag ai;go_wp2;go_roundw
    case rel=> exact ⟨t+1,by omega,by go_num,by rw [aw.out],by rw [aw.out];exact ay.out.own,ay.out.bel⟩
    case measure=> simp [intOf];omega
   |false=>
    by_cases hgt:i < x
    ·skip
     have F:=aA.out;unfold Q4Z at F;simp only [aI,if_false,hgt,and_self,if_true] at F;have aw:=Q01 F;clear aA F
     (try have H1:=Q01 h1)
     (try have H3:=Q01 h3)
     (try clear h1 h3)
     (try clear h3)
     obtain ⟨W2,a2⟩:∃W,wr.alloc (.cells #[.int .i64 x,.int .i64 y,.bool u] 119)=W:=⟨_,rfl⟩
     have f:Hid (St W0 W2 u7 s1 wr.heap.size x y u):=by rw [←a2];exact St.start HO.out af.out
     have bd:=bC f.out.bel Z1 ZZ;have bg:=bC f.out.bel U0 ZU;have aZ:=bC f.out.bel U1 ZU;have aY:=bC f.out.bel U2 ZU;have a1:=Q00 f.out.box 0 _ rfl;have aX:=Q00 f.out.box 1 _ rfl;have bc:=Q00 f.out.box 2 _ rfl;have aS:=Q02 f.out.box 0;have aR:=Q02 f.out.box 1;have aK:=Q02 f.out.box 2
     go_wp2_with (at_builtin;refine Q08 Q47 rfl (.tmp 48) (.tmp 54) rfl W0.heap.size _ _ rfl (World.ownsRow.alloc f.out.own (.cells #[.int .i64 i,.int .i64 g,.bool false] 119)) (some ⟨W2.heap.size,0,none⟩) 1 (W2.alloc (.cells #[.int .i64 i,.int .i64 g,.bool false] 119)).heap.size [(i,g,false)] 1 rfl rfl (fun h=> by cases h) Q4p (by simp;omega) (by have:=f.out.bel.size;simp;omega) ?_);intro v5 w5 ab ag ai;have ax:=Q01 (f.out.app ab ag ai);clear ab ag ai;generalize hs5:s1++[(i,g,false)]=s5 at ax aw
     have cy:s5.length=s1.length+1:=by rw [←hs5];simp
     clear hs5;have cd:=bC ax.out.bel Z1 ZZ;have co:=Q00 ax.out.box 0 _ rfl;have cj:=Q00 ax.out.box 1 _ rfl;have ce:=Q00 ax.out.box 2 _ rfl;go_wp2_with (at_builtin;refine Q08 Q47 rfl (.tmp 69) (.tmp 71) rfl W0.heap.size _ _ rfl (World.ownsRow.alloc ax.out.own (.cells #[.int .i64 x,.int .i64 y,.bool u] 119)) (some ⟨w5.heap.size,0,none⟩) 1 (w5.alloc (.cells #[.int .i64 x,.int .i64 y,.bool u] 119)).heap.size [(x,y,u)] 1 rfl rfl (fun h=> by cases h) Q4p (by simp;omega) (by have:=ax.out.bel.size;simp;omega) ?_);intro v6 w6 ab ag ai;have ay:=Q01 (ax.out.app ab ag ai)
     clear ab ag ai;go_wp2;go_roundw
     case rel=> exact ⟨t+1,by omega,by go_num,by rw [aw.out],by rw [aw.out];exact ay.out.own,ay.out.bel⟩
     case measure=> simp [intOf];omega
    ·have cv:decide (i < x)=false:=decide_eq_false hgt
     have F:=aA.out;unfold Q4Z at F;simp only [aI,if_false,hgt,and_false] at F;have aw:=Q01 F;clear aA F
     (try have H1:=Q01 h1)
     (try have H3:=Q01 h3)
     (try clear h1 h3)
     (try clear h3)
     obtain ⟨W2,a2⟩:∃W,wr.alloc (.cells #[.int .i64 x,.int .i64 y,.bool u] 119)=W:=⟨_,rfl⟩
     have f:Hid (St W0 W2 u7 s1 wr.heap.size x y u):=by rw [←a2];exact St.start HO.out af.out
     have bd:=bC f.out.bel Z1 ZZ;have bg:=bC f.out.bel U0 ZU;have aZ:=bC f.out.bel U1 ZU;have aY:=bC f.out.bel U2 ZU;have a1:=Q00 f.out.box 0 _ rfl;have aX:=Q00 f.out.box 1 _ rfl;have bc:=Q00 f.out.box 2 _ rfl;have aS:=Q02 f.out.box 0;have aR:=Q02 f.out.box 1;have aK:=Q02 f.out.box 2
     go_wp2_with (at_builtin;refine Q08 Q47 rfl (.tmp 69) (.tmp 71) rfl W0.heap.size _ _ rfl (World.ownsRow.alloc f.out.own (.cells #[.int .i64 x,.int .i64 y,.bool u] 119)) (some ⟨W2.heap.size,0,none⟩) 1 (W2.alloc (.cells #[.int .i64 x,.int .i64 y,.bool u] 119)).heap.size [(x,y,u)] 1 rfl rfl (fun h=> by cases h) Q4p (by simp;omega) (by have:=f.out.bel.size;simp;omega) ?_);intro v6 w6 ab ag ai;have ay:=Q01 (f.out.app ab ag ai);clear ab ag ai;go_wp2;go_roundw
     case rel=> exact ⟨t+1,by omega,by go_num,by rw [aw.out],by rw [aw.out];exact ay.out.own,ay.out.bel⟩
     case measure=> simp [intOf];omega
  ·have e:t=l.length:=by omega
   subst e;obtain ⟨s1,s2,aB⟩:∃s1 s2,Q5k l 0 i g (-1) l.length=(s1,s2):=⟨_,_,rfl⟩;have a8:=Q5J l 0 i g (-1) l.length;have ar:=aO.out l.length;rw [aB] at HO au a8 ar ⊢;dsimp only at HO a8 ar ⊢;clear aB aO hlt;have a5:=bC af.out Z1 ZZ;have bL:=bC af.out U1 ZU;have bN:=bC af.out U2 ZU
   cases s2 with
   |true=>
    obtain rfl:m=s1:=au.out.symm;have aH:=HO;have J:=af;obtain ⟨o2,c2,e2,bf⟩:=ownL.open (L:=Q1d) aH.out;have bO:=Q01 (Q8Y aH.out e2);subst e2;have bj:=Q01 bf;clear bf ar;have a:Hid (Below w.heap.size w wr):=HB.out.trans (J.out.mono ah);have b5:=J.out.size;have aG:=Q01 (HG.out.kept a.out (Kaq _));clear HG;have P:=bC J.out Z0 ZZ;have O:=bC J.out Z2 ZZ;have aQ:=bC J.out Q0 ZQ;have aL:=bC J.out Q1 ZQ;have aP:=bC J.out Q2 ZQ
    have bl:m.length≤1000:=by omega
    go_upto_region 21 with fail
    go_cut [11] from 83 to 94 (fun s11 wx=> ∃B v',s11=.pointer (some ⟨B,0,none⟩)∧Hid (wx.heap[B]? =some (.cells #[.int .i64 key,.slice o2 m.length c2,v'] 29 (0,0)))∧Hid (Below wr.heap.size wr wx)∧wr.heap.size≤B∧B < wx.heap.size∧Hid (RingO wx wr.heap.size v' (fun b=> Q19 key b m) d))
    case first=>
     have H:w.heap.size < wr.heap.size:=by have:=ZZ;omega
     go_region_held3 (fun w'=> w'.cell? ⟨w.heap.size,0,none⟩=some (.int .i64 key)∧w'.cell? ⟨w.heap.size,2,none⟩=some (.slice oR d.length cR)) (first|with_reducible exact ⟨M,N⟩|with_reducible exact ⟨az,aD⟩|with_reducible exact ⟨P,O⟩|with_reducible exact ⟨Q0a M (show w.heap.size < wr.heap.size by omega),Q0a N (show w.heap.size < wr.heap.size by omega)⟩|with_reducible exact ⟨Q0a M (show w.heap.size < n.heap.size by omega),Q0a N (show w.heap.size < n.heap.size by omega)⟩|with_reducible exact ⟨Q0a M (show w.heap.size < n.heap.size+1 by omega),Q0a N (show w.heap.size < n.heap.size+1 by omega)⟩|go_keep) (first|(go_at_call 102;have aq:=Q1L key o2 c2 m wr.drew ((bj.out.kept (Below.drew (Below.refl _ _)) (Kaq _)).le (by simp)) bl hk aT;with_reducible refine aq.mono ?_;clear aq;rintro e n ⟨z,A,ap,rfl,aa,Z,hb⟩;have r:Below wr.heap.size wr n:=Below.trans (show Below wr.heap.size wr wr.drew from (Below.drew (Below.refl _ _))) (hb.mono (by simp));have G:=r.size;have aa:=Q04 aa (show wr.heap.size≤_ by simp);have Z:=Tab.mono Z (show wr.heap.size≤_ by simp);have az:=bC r P H;have aD:=bC r O H;clear hb)|(go_at_call 102;have aq:=Q1L key o2 c2 m (wr.alloc (.cells #[.int .i64 0,.slice none 0 0,.slice none 0 0] 29)).drew ((bj.out.kept (Below.drew ((Below.refl _ _).alloc (Kaq _) _)) (Kaq _)).le (by simp)) bl hk aT;with_reducible refine aq.mono ?_;clear aq;rintro e n ⟨z,A,ap,rfl,aa,Z,hb⟩;have r:Below wr.heap.size wr n:=Below.trans (show Below wr.heap.size wr (wr.alloc (.cells #[.int .i64 0,.slice none 0 0,.slice none 0 0] 29)).drew from (Below.drew ((Below.refl _ _).alloc (Kaq _) _))) (hb.mono (by simp));have G:=r.size;have aa:=Q04 aa (show wr.heap.size≤_ by simp);have Z:=Tab.mono Z (show wr.heap.size≤_ by simp);have az:=bC r P H;have aD:=bC r O H;have a9:=Q4L hb;have aC:=(Array.getElem?_eq_some_iff.1 a9).1;clear hb)|(have j:Below n.heap.size n (n.alloc (.cells #[.slice z 8 A] 51)):=((Below.refl n.heap.size n).alloc (Kaq _) (.cells #[.slice z 8 A] 51));have c:ownL Q0H 51 (n.alloc (.cells #[.slice z 8 A] 51)) wr.heap.size (.slice (some ⟨n.heap.size,0,none⟩) 1 1) [(z,8,A)]:=Q04 (Q4o n z 8 A _) (by (try simp) <;> omega);have ak:Below w.heap.size w (n.alloc (.cells #[.slice z 8 A] 51)):=a.out.trans ((r.mono a.out.size).trans (j.mono (Kdq a.out.size G)));refine Q0i Q66 rfl (.tmp 90) (.tmp 92) rfl wr.heap.size (.slice (some ⟨n.heap.size,0,none⟩) 1 1) [(z,8,A)] rfl c oR cR w.heap.size d d.length rfl rfl aV (aG.out.kept (r.trans (j.mono G)) a.out.size) (by simp;omega) (by simp;omega) ?_;intro v4 x1 Y D am;have R:=Q2D c (Q03 aa j) (Z.kept j) Y D;obtain ⟨g4,c4,e4⟩:=RingO.isSome R;subst e4;have s:Below wr.heap.size wr x1:=(r.trans (j.mono G)).grown D (by (try simp) <;> omega) (fun k h=> (c.lt k h).1);have bh:=s.size;have M:=bC s P H;have N:=bC s O H;(try have ac:=Q45 D ((Below.heap_alloc _ _ _ aC).trans a9) (Nat.ne_of_lt aC));(try have bq:=Q00 ac 0 _ rfl);(try have bv:=Q02 ac 0);(try have bI:=Q00 ac 1 _ rfl);(try have bJ:=Q02 ac 1);(try have bn:=Q00 ac 2 _ rfl);(try have bt:=Q02 ac 2);clear Y D am c ak j)|(have j:Below n.heap.size n ((n.alloc (.cells #[.int .i64 0,.slice none 0 0,.slice none 0 0] 29)).alloc (.cells #[.slice z 8 A] 51)):=(((Below.refl n.heap.size n).alloc (Kaq _) (.cells #[.int .i64 0,.slice none 0 0,.slice none 0 0] 29)).alloc (by simp) (.cells #[.slice z 8 A] 51));have c:ownL Q0H 51 ((n.alloc (.cells #[.int .i64 0,.slice none 0 0,.slice none 0 0] 29)).alloc (.cells #[.slice z 8 A] 51)) wr.heap.size (.slice (some ⟨n.heap.size+1,0,none⟩) 1 1) [(z,8,A)]:=Q04 (Q9N n (.cells #[.int .i64 0,.slice none 0 0,.slice none 0 0] 29) z 8 A _) (by (try simp) <;> omega);have ak:Below w.heap.size w ((n.alloc (.cells #[.int .i64 0,.slice none 0 0,.slice none 0 0] 29)).alloc (.cells #[.slice z 8 A] 51)):=a.out.trans ((r.mono a.out.size).trans (j.mono (Kdq a.out.size G)));refine Q0i Q66 rfl (.tmp 90) (.tmp 92) rfl wr.heap.size (.slice (some ⟨n.heap.size+1,0,none⟩) 1 1) [(z,8,A)] rfl c oR cR w.heap.size d d.length rfl rfl aV (aG.out.kept (r.trans (j.mono G)) a.out.size) (by simp;omega) (by simp;omega) ?_;intro v4 x1 Y D am;have R:=Q2D c (Q03 aa j) (Z.kept j) Y D;obtain ⟨g4,c4,e4⟩:=RingO.isSome R;subst e4;have s:Below wr.heap.size wr x1:=(r.trans (j.mono G)).grown D (by (try simp) <;> omega) (fun k h=> (c.lt k h).1);have bh:=s.size;have M:=bC s P H;have N:=bC s O H;have ae:=Q45 D (Q3U n #[.int .i64 0,.slice none 0 0,.slice none 0 0] 29 (.cells #[.slice z 8 A] 51)) (Nat.ne_of_lt (Nat.lt_succ_self _));(try have bD:=Q00 ae 0 _ rfl);(try have bo:=Q02 ae 0);(try have bu:=Q00 ae 1 _ rfl);(try have bz:=Q02 ae 1);(try have bw:=Q00 ae 2 _ rfl);(try have bs:=Q02 ae 2);clear Y D am c ak j)|(have j:Below n.heap.size n ((n.alloc (.cells #[.slice z 8 A] 51)).alloc (.cells #[.int .i64 0,.slice none 0 0,.slice none 0 0] 29)):=(((Below.refl n.heap.size n).alloc (Kaq _) (.cells #[.slice z 8 A] 51)).alloc (by simp) (.cells #[.int .i64 0,.slice none 0 0,.slice none 0 0] 29));have c:ownL Q0H 51 ((n.alloc (.cells #[.slice z 8 A] 51)).alloc (.cells #[.int .i64 0,.slice none 0 0,.slice none 0 0] 29)) wr.heap.size (.slice (some ⟨n.heap.size,0,none⟩) 1 1) [(z,8,A)]:=Q04 (World.ownsRow.alloc (Q4o n z 8 A _) (.cells #[.int .i64 0,.slice none 0 0,.slice none 0 0] 29)) (by (try simp) <;> omega);have ak:Below w.heap.size w ((n.alloc (.cells #[.slice z 8 A] 51)).alloc (.cells #[.int .i64 0,.slice none 0 0,.slice none 0 0] 29)):=a.out.trans ((r.mono a.out.size).trans (j.mono (Kdq a.out.size G)));refine Q0i Q66 rfl (.tmp 90) (.tmp 92) rfl wr.heap.size (.slice (some ⟨n.heap.size,0,none⟩) 1 1) [(z,8,A)] rfl c oR cR w.heap.size d d.length rfl rfl aV (aG.out.kept (r.trans (j.mono G)) a.out.size) (by simp;omega) (by simp;omega) ?_;intro v4 x1 Y D am;have R:=Q2D c (Q03 aa j) (Z.kept j) Y D;obtain ⟨g4,c4,e4⟩:=RingO.isSome R;subst e4;have s:Below wr.heap.size wr x1:=(r.trans (j.mono G)).grown D (by (try simp) <;> omega) (fun k h=> (c.lt k h).1);have bh:=s.size;have M:=bC s P H;have N:=bC s O H;have ad:=Q45 D (Q1V n #[.int .i64 0,.slice none 0 0,.slice none 0 0] 29 (.cells #[.slice z 8 A] 51)) (Nat.ne_of_gt (Nat.lt_succ_self _));(try have bA:=Q00 ad 0 _ rfl);(try have bx:=Q02 ad 0);(try have bB:=Q00 ad 1 _ rfl);(try have bp:=Q02 ad 1);(try have bG:=Q00 ad 2 _ rfl);(try have bE:=Q02 ad 2);clear Y D am c ak j))
     all_goals (go_wp2_with fail;go_meet)
     all_goals first
      |with_reducible exact Qgv ac s (by omega) R
      |with_reducible exact Qgv ae s (by omega) R
      |with_reducible exact Qgv ad s (by omega) R
      |with_reducible exact QhR s R
    case rest=>
    obtain ⟨B,v',rfl,U,V,ci,b9,Hr⟩:=hcut;obtain ⟨g4,c4,e4⟩:=RingO.isSome Hr.out;subst e4;have bT:=RingO.cap Hr.out;have cf:=ZQ
    have q:w.heap.size+1+1 < wr.heap.size:=by omega
    have cb:=V.out.size;have a0:=bC V.out aQ q;have a4:=bF V.out (bF J.out FQ0 ZQ) q;have cc:=Q00 U.out 0 _ rfl;have bZ:=Q02 U.out 0;have a3:=bC V.out aL q;have be:=bF V.out (bF J.out FQ1 ZQ) q;have cp:=Q00 U.out 1 _ rfl;have b8:=Q02 U.out 1;have bb:=bC V.out aP q;have bk:=bF V.out (bF J.out FQ2 ZQ) q;have ca:=Q00 U.out 2 _ rfl;have b3:=Q02 U.out 2;clear P O aQ aL aP;have a7:=Q01 (Q03 aH.out V.out);have ba:Hid (Below w.heap.size w wc):=a.out.trans (V.out.mono a.out.size)
    have a6:B≠w.heap.size+1+1:=by omega
    have E:w.heap.size+1+1≠B:=by omega
    by_cases h4:d.length=3
    ·skip
     have bV:(d.length:Int)=3:=by omega
     have ck:3≤c4:=by omega
     obtain ⟨W5,I⟩:∃W,wc.setCell ⟨B,2,none⟩ (.slice (some ⟨g4,0,none⟩) 3 c4)=W:=⟨_,rfl⟩
     have aj:W5.heap[B]? =some (.cells #[.int .i64 key,.slice o2 m.length c2,.slice (some ⟨g4,0,none⟩) 3 c4] 29 (0,0)):=by rw [←I];exact Q06 U.out 2 _
     have cn:=Q00 aj 0 _ rfl
     have bQ:W5.cell? ⟨w.heap.size+1+1,0,none⟩=some (.int .i64 0):=by rw [←I];exact (Q1q E).trans a0
     have b7:W5.frozen? ⟨w.heap.size+1+1,0,none⟩=false:=by rw [←I];exact (Q0W E).trans a4
     have ch:=Q00 aj 1 _ rfl
     have bU:W5.cell? ⟨w.heap.size+1+1,1,none⟩=some (.slice none 0 0):=by rw [←I];exact (Q1q E).trans a3
     have bY:W5.frozen? ⟨w.heap.size+1+1,1,none⟩=false:=by rw [←I];exact (Q0W E).trans be
     have cm:=Q00 aj 2 _ rfl
     have bP:W5.cell? ⟨w.heap.size+1+1,2,none⟩=some (.slice none 0 0):=by rw [←I];exact (Q1q E).trans bb
     have b2:W5.frozen? ⟨w.heap.size+1+1,2,none⟩=false:=by rw [←I];exact (Q0W E).trans bk
     have bR:Hid (Q1w W5 W0.heap.size (.slice o2 m.length c2) m):=by rw [←I];exact Q0q a7.out U.out Q87 2 _
     have bW:Hid (RingO W5 wr.heap.size (.slice (some ⟨g4,0,none⟩) (d.length+1) c4) (fun b=> Q19 key b m) d):=by rw [←I];exact Hr.out.put U.out 2 _
     have bM:Hid (Below w.heap.size w W5):=by rw [←I];exact ba.out.setCell (p:=⟨B,2,none⟩) (show w.heap.size≤B by have:=a.out.size;omega) _
     obtain ⟨z,A,ap,an,al,ao⟩:=((bW.out.low q 0 (.int .i64 key)).low q 1 (.slice o2 m.length c2)).low q 2 (.slice (some ⟨g4,0,none⟩) 3 c4);have aE:=Q01 an;have aJ:=Q01 al;have aF:=Q01 ao;clear an al ao;go_wp2;refine bodyPost_ret (v:=.tuple #[plv key (.slice o2 m.length c2) (.slice (some ⟨g4,0,none⟩) 3 c4),.bool true]) (by simp [results,Tryz.results95,go_sem,bQ,bU,bP]) rfl ?_;unfold Q6y;refine ⟨o2,c2,some ⟨g4,0,none⟩,3,c4,z,A,ap,rfl, ?_, ?_, ?_,Q04 aJ.out (by omega),Tab.mono aF.out (by omega), ?_⟩
     ·simp;omega
     ·exact Q04 (Q0o (Q0o (Q0o bR.out ZQ 0 _) ZQ 1 _) ZQ 2 _) ah
     ·exact Q04 (Q7n aE.out (by simp;omega)) (by omega)
     ·exact ((bM.out.setCell (p:=⟨w.heap.size+1+1,0,none⟩) (by (try simp) <;> omega) _).setCell (p:=⟨w.heap.size+1+1,1,none⟩) (by (try simp) <;> omega) _).setCell (p:=⟨w.heap.size+1+1,2,none⟩) (by (try simp) <;> omega) _
    ·skip
     have bV:¬((d.length:Int)+1 > 3):=by omega
     have cl:decide (3 < (d.length:Int)+1)=false:=decide_eq_false (by omega);obtain ⟨z,A,ap,an,al,ao⟩:=((Hr.out.low q 0 (.int .i64 key)).low q 1 (.slice o2 m.length c2)).low q 2 (.slice (some ⟨g4,0,none⟩) (d.length+1) c4);have aE:=Q01 an;have aJ:=Q01 al;have aF:=Q01 ao;clear an al ao;go_wp2;refine bodyPost_ret (v:=.tuple #[plv key (.slice o2 m.length c2) (.slice (some ⟨g4,0,none⟩) (d.length+1) c4),.bool true]) (by simp [results,Tryz.results95,go_sem,a0,a3,bb,a6,E]) rfl ?_;unfold Q6y
     refine ⟨o2,c2,some ⟨g4,0,none⟩,(d.length+1),c4,z,A,ap,rfl, ?_, ?_, ?_,Q04 aJ.out (by omega),Tab.mono aF.out (by omega), ?_⟩
     ·simp;omega
     ·exact Q04 (Q0o (Q0o (Q0o a7.out ZQ 0 _) ZQ 1 _) ZQ 2 _) ah
     ·have e:((z,8,A)::d).take 3=(z,8,A)::d:=List.take_of_length_le (by simp;omega)
      rw [e];exact Q04 aE.out (by omega)
     ·exact ((ba.out.setCell (p:=⟨w.heap.size+1+1,0,none⟩) (by (try simp) <;> omega) _).setCell (p:=⟨w.heap.size+1+1,1,none⟩) (by (try simp) <;> omega) _).setCell (p:=⟨w.heap.size+1+1,2,none⟩) (by (try simp) <;> omega) _
   |false=>
    have bX:s1++[(i,g,false)]=m:=au.out;go_wp2_with (at_builtin;refine Q08 Q47 rfl (.tmp 75) (.tmp 81) rfl W0.heap.size _ _ rfl (World.ownsRow.alloc HO.out (.cells #[.int .i64 i,.int .i64 g,.bool false] 119)) (some ⟨wr.heap.size,0,none⟩) 1 (wr.alloc (.cells #[.int .i64 i,.int .i64 g,.bool false] 119)).heap.size [(i,g,false)] 1 rfl rfl (fun h=> by cases h) Q4p (by simp;omega) (by have:=af.out.size;simp;omega) ?_);intro vt wt ab ag _
    (try rw [bX] at ab)
    have aH:=Q01 ab;have J:=Q01 ((af.out.alloc af.out.size (.cells #[.int .i64 i,.int .i64 g,.bool false] 119)).grown ag (by have:=af.out.size;simp;omega) (fun k e=> (HO.out.lt k e).1));clear ab ag bX au HO a5 bL bN bH af;obtain ⟨o2,c2,e2,bf⟩:=ownL.open (L:=Q1d) aH.out;have bO:=Q01 (Q8Y aH.out e2);subst e2;have bj:=Q01 bf;clear bf;have a:Hid (Below w.heap.size w wt):=HB.out.trans (J.out.mono ah);have b5:=J.out.size;have aG:=Q01 (HG.out.kept a.out (Kaq _));clear HG;have X:=bC J.out Z0 ZZ;have T:=bC J.out Z2 ZZ
    have aU:=bC J.out Q0 ZQ;have aN:=bC J.out Q1 ZQ;have aM:=bC J.out Q2 ZQ
    have bl:m.length≤1000:=by omega
    go_upto_region 21 with fail
    go_cut [11] from 83 to 94 (fun s11 wx=> ∃B v',s11=.pointer (some ⟨B,0,none⟩)∧Hid (wx.heap[B]? =some (.cells #[.int .i64 key,.slice o2 m.length c2,v'] 29 (0,0)))∧Hid (Below wt.heap.size wt wx)∧wt.heap.size≤B∧B < wx.heap.size∧Hid (RingO wx wt.heap.size v' (fun b=> Q19 key b m) d))
    case first=>
     have H:w.heap.size < wt.heap.size:=by have:=ZZ;omega
     go_region_held3 (fun w'=> w'.cell? ⟨w.heap.size,0,none⟩=some (.int .i64 key)∧w'.cell? ⟨w.heap.size,2,none⟩=some (.slice oR d.length cR)) (first|with_reducible exact ⟨M,N⟩|with_reducible exact ⟨az,aD⟩|with_reducible exact ⟨X,T⟩|with_reducible exact ⟨Q0a M (show w.heap.size < wt.heap.size by omega),Q0a N (show w.heap.size < wt.heap.size by omega)⟩|with_reducible exact ⟨Q0a M (show w.heap.size < n.heap.size by omega),Q0a N (show w.heap.size < n.heap.size by omega)⟩|with_reducible exact ⟨Q0a M (show w.heap.size < n.heap.size+1 by omega),Q0a N (show w.heap.size < n.heap.size+1 by omega)⟩|go_keep) (first|(go_at_call 102;have aq:=Q1L key o2 c2 m wt.drew ((bj.out.kept (Below.drew (Below.refl _ _)) (Kaq _)).le (by simp)) bl hk aT;with_reducible refine aq.mono ?_;clear aq;rintro e n ⟨z,A,ap,rfl,aa,Z,hb⟩;have r:Below wt.heap.size wt n:=Below.trans (show Below wt.heap.size wt wt.drew from (Below.drew (Below.refl _ _))) (hb.mono (by simp));have G:=r.size;have aa:=Q04 aa (show wt.heap.size≤_ by simp);have Z:=Tab.mono Z (show wt.heap.size≤_ by simp);have az:=bC r X H;have aD:=bC r T H;clear hb)|(go_at_call 102;have aq:=Q1L key o2 c2 m (wt.alloc (.cells #[.int .i64 0,.slice none 0 0,.slice none 0 0] 29)).drew ((bj.out.kept (Below.drew ((Below.refl _ _).alloc (Kaq _) _)) (Kaq _)).le (by simp)) bl hk aT;with_reducible refine aq.mono ?_;clear aq;rintro e n ⟨z,A,ap,rfl,aa,Z,hb⟩;have r:Below wt.heap.size wt n:=Below.trans (show Below wt.heap.size wt (wt.alloc (.cells #[.int .i64 0,.slice none 0 0,.slice none 0 0] 29)).drew from (Below.drew ((Below.refl _ _).alloc (Kaq _) _))) (hb.mono (by simp));have G:=r.size;have aa:=Q04 aa (show wt.heap.size≤_ by simp);have Z:=Tab.mono Z (show wt.heap.size≤_ by simp);have az:=bC r X H;have aD:=bC r T H;have a9:=Q4L hb;have aC:=(Array.getElem?_eq_some_iff.1 a9).1;clear hb)|(have j:Below n.heap.size n (n.alloc (.cells #[.slice z 8 A] 51)):=((Below.refl n.heap.size n).alloc (Kaq _) (.cells #[.slice z 8 A] 51));have c:ownL Q0H 51 (n.alloc (.cells #[.slice z 8 A] 51)) wt.heap.size (.slice (some ⟨n.heap.size,0,none⟩) 1 1) [(z,8,A)]:=Q04 (Q4o n z 8 A _) (by (try simp) <;> omega);have ak:Below w.heap.size w (n.alloc (.cells #[.slice z 8 A] 51)):=a.out.trans ((r.mono a.out.size).trans (j.mono (Kdq a.out.size G)));refine Q0i Q66 rfl (.tmp 90) (.tmp 92) rfl wt.heap.size (.slice (some ⟨n.heap.size,0,none⟩) 1 1) [(z,8,A)] rfl c oR cR w.heap.size d d.length rfl rfl aV (aG.out.kept (r.trans (j.mono G)) a.out.size) (by simp;omega) (by simp;omega) ?_;intro v4 x1 Y D am;have R:=Q2D c (Q03 aa j) (Z.kept j) Y D;obtain ⟨g4,c4,e4⟩:=RingO.isSome R;subst e4;have s:Below wt.heap.size wt x1:=(r.trans (j.mono G)).grown D (by (try simp) <;> omega) (fun k h=> (c.lt k h).1);have bh:=s.size;have M:=bC s X H;have N:=bC s T H;(try have ac:=Q45 D ((Below.heap_alloc _ _ _ aC).trans a9) (Nat.ne_of_lt aC));(try have bq:=Q00 ac 0 _ rfl);(try have bv:=Q02 ac 0);(try have bI:=Q00 ac 1 _ rfl);(try have bJ:=Q02 ac 1);(try have bn:=Q00 ac 2 _ rfl);(try have bt:=Q02 ac 2);clear Y D am c ak j)|(have j:Below n.heap.size n ((n.alloc (.cells #[.int .i64 0,.slice none 0 0,.slice none 0 0] 29)).alloc (.cells #[.slice z 8 A] 51)):=(((Below.refl n.heap.size n).alloc (Kaq _) (.cells #[.int .i64 0,.slice none 0 0,.slice none 0 0] 29)).alloc (by simp) (.cells #[.slice z 8 A] 51));have c:ownL Q0H 51 ((n.alloc (.cells #[.int .i64 0,.slice none 0 0,.slice none 0 0] 29)).alloc (.cells #[.slice z 8 A] 51)) wt.heap.size (.slice (some ⟨n.heap.size+1,0,none⟩) 1 1) [(z,8,A)]:=Q04 (Q9N n (.cells #[.int .i64 0,.slice none 0 0,.slice none 0 0] 29) z 8 A _) (by (try simp) <;> omega);have ak:Below w.heap.size w ((n.alloc (.cells #[.int .i64 0,.slice none 0 0,.slice none 0 0] 29)).alloc (.cells #[.slice z 8 A] 51)):=a.out.trans ((r.mono a.out.size).trans (j.mono (Kdq a.out.size G)));refine Q0i Q66 rfl (.tmp 90) (.tmp 92) rfl wt.heap.size (.slice (some ⟨n.heap.size+1,0,none⟩) 1 1) [(z,8,A)] rfl c oR cR w.heap.size d d.length rfl rfl aV (aG.out.kept (r.trans (j.mono G)) a.out.size) (by simp;omega) (by simp;omega) ?_;intro v4 x1 Y D am;have R:=Q2D c (Q03 aa j) (Z.kept j) Y D;obtain ⟨g4,c4,e4⟩:=RingO.isSome R;subst e4;have s:Below wt.heap.size wt x1:=(r.trans (j.mono G)).grown D (by (try simp) <;> omega) (fun k h=> (c.lt k h).1);have bh:=s.size;have M:=bC s X H;have N:=bC s T H;have ae:=Q45 D (Q3U n #[.int .i64 0,.slice none 0 0,.slice none 0 0] 29 (.cells #[.slice z 8 A] 51)) (Nat.ne_of_lt (Nat.lt_succ_self _));(try have bD:=Q00 ae 0 _ rfl);(try have bo:=Q02 ae 0);(try have bu:=Q00 ae 1 _ rfl);(try have bz:=Q02 ae 1);(try have bw:=Q00 ae 2 _ rfl);(try have bs:=Q02 ae 2);clear Y D am c ak j)|(have j:Below n.heap.size n ((n.alloc (.cells #[.slice z 8 A] 51)).alloc (.cells #[.int .i64 0,.slice none 0 0,.slice none 0 0] 29)):=(((Below.refl n.heap.size n).alloc (Kaq _) (.cells #[.slice z 8 A] 51)).alloc (by simp) (.cells #[.int .i64 0,.slice none 0 0,.slice none 0 0] 29));have c:ownL Q0H 51 ((n.alloc (.cells #[.slice z 8 A] 51)).alloc (.cells #[.int .i64 0,.slice none 0 0,.slice none 0 0] 29)) wt.heap.size (.slice (some ⟨n.heap.size,0,none⟩) 1 1) [(z,8,A)]:=Q04 (World.ownsRow.alloc (Q4o n z 8 A _) (.cells #[.int .i64 0,.slice none 0 0,.slice none 0 0] 29)) (by (try simp) <;> omega);have ak:Below w.heap.size w ((n.alloc (.cells #[.slice z 8 A] 51)).alloc (.cells #[.int .i64 0,.slice none 0 0,.slice none 0 0] 29)):=a.out.trans ((r.mono a.out.size).trans (j.mono (Kdq a.out.size G)));refine Q0i Q66 rfl (.tmp 90) (.tmp 92) rfl wt.heap.size (.slice (some ⟨n.heap.size,0,none⟩) 1 1) [(z,8,A)] rfl c oR cR w.heap.size d d.length rfl rfl aV (aG.out.kept (r.trans (j.mono G)) a.out.size) (by simp;omega) (by simp;omega) ?_;intro v4 x1 Y D am;have R:=Q2D c (Q03 aa j) (Z.kept j) Y D;obtain ⟨g4,c4,e4⟩:=RingO.isSome R;subst e4;have s:Below wt.heap.size wt x1:=(r.trans (j.mono G)).grown D (by (try simp) <;> omega) (fun k h=> (c.lt k h).1);have bh:=s.size;have M:=bC s X H;have N:=bC s T H;have ad:=Q45 D (Q1V n #[.int .i64 0,.slice none 0 0,.slice none 0 0] 29 (.cells #[.slice z 8 A] 51)) (Nat.ne_of_gt (Nat.lt_succ_self _));(try have bA:=Q00 ad 0 _ rfl);(try have bx:=Q02 ad 0);(try have bB:=Q00 ad 1 _ rfl);(try have bp:=Q02 ad 1);(try have bG:=Q00 ad 2 _ rfl);(try have bE:=Q02 ad 2);clear Y D am c ak j))
     all_goals (go_wp2_with fail;go_meet)
     all_goals first
      |with_reducible exact Qgv ac s (by omega) R
      |with_reducible exact Qgv ae s (by omega) R
      |with_reducible exact Qgv ad s (by omega) R
      |with_reducible exact QhR s R
    case rest=>
    obtain ⟨B,v',rfl,U,V,ci,b9,Hr⟩:=hcut;obtain ⟨g4,c4,e4⟩:=RingO.isSome Hr.out;subst e4;have bT:=RingO.cap Hr.out;have cf:=ZQ
    have q:w.heap.size+1+1 < wt.heap.size:=by omega
    have cb:=V.out.size;have a0:=bC V.out aU q;have a4:=bF V.out (bF J.out FQ0 ZQ) q;have cc:=Q00 U.out 0 _ rfl;have bZ:=Q02 U.out 0;have a3:=bC V.out aN q;have be:=bF V.out (bF J.out FQ1 ZQ) q;have cp:=Q00 U.out 1 _ rfl;have b8:=Q02 U.out 1;have bb:=bC V.out aM q;have bk:=bF V.out (bF J.out FQ2 ZQ) q;have ca:=Q00 U.out 2 _ rfl;have b3:=Q02 U.out 2;clear X T aU aN aM;have a7:=Q01 (Q03 aH.out V.out);have ba:Hid (Below w.heap.size w wc):=a.out.trans (V.out.mono a.out.size)
    have a6:B≠w.heap.size+1+1:=by omega
    have E:w.heap.size+1+1≠B:=by omega
    by_cases h4:d.length=3
    ·skip
     have bV:(d.length:Int)=3:=by omega
     have ck:3≤c4:=by omega
     obtain ⟨W5,I⟩:∃W,wc.setCell ⟨B,2,none⟩ (.slice (some ⟨g4,0,none⟩) 3 c4)=W:=⟨_,rfl⟩
     have aj:W5.heap[B]? =some (.cells #[.int .i64 key,.slice o2 m.length c2,.slice (some ⟨g4,0,none⟩) 3 c4] 29 (0,0)):=by rw [←I];exact Q06 U.out 2 _
     have cn:=Q00 aj 0 _ rfl
     have bQ:W5.cell? ⟨w.heap.size+1+1,0,none⟩=some (.int .i64 0):=by rw [←I];exact (Q1q E).trans a0
     have b7:W5.frozen? ⟨w.heap.size+1+1,0,none⟩=false:=by rw [←I];exact (Q0W E).trans a4
     have ch:=Q00 aj 1 _ rfl
     have bU:W5.cell? ⟨w.heap.size+1+1,1,none⟩=some (.slice none 0 0):=by rw [←I];exact (Q1q E).trans a3
     have bY:W5.frozen? ⟨w.heap.size+1+1,1,none⟩=false:=by rw [←I];exact (Q0W E).trans be
     have cm:=Q00 aj 2 _ rfl
     have bP:W5.cell? ⟨w.heap.size+1+1,2,none⟩=some (.slice none 0 0):=by rw [←I];exact (Q1q E).trans bb
     have b2:W5.frozen? ⟨w.heap.size+1+1,2,none⟩=false:=by rw [←I];exact (Q0W E).trans bk
     have bR:Hid (Q1w W5 W0.heap.size (.slice o2 m.length c2) m):=by rw [←I];exact Q0q a7.out U.out Q87 2 _
     have bW:Hid (RingO W5 wt.heap.size (.slice (some ⟨g4,0,none⟩) (d.length+1) c4) (fun b=> Q19 key b m) d):=by rw [←I];exact Hr.out.put U.out 2 _
     have bM:Hid (Below w.heap.size w W5):=by rw [←I];exact ba.out.setCell (p:=⟨B,2,none⟩) (show w.heap.size≤B by have:=a.out.size;omega) _
     obtain ⟨z,A,ap,an,al,ao⟩:=((bW.out.low q 0 (.int .i64 key)).low q 1 (.slice o2 m.length c2)).low q 2 (.slice (some ⟨g4,0,none⟩) 3 c4);have aE:=Q01 an;have aJ:=Q01 al;have aF:=Q01 ao;clear an al ao;go_wp2;refine bodyPost_ret (v:=.tuple #[plv key (.slice o2 m.length c2) (.slice (some ⟨g4,0,none⟩) 3 c4),.bool true]) (by simp [results,Tryz.results95,go_sem,bQ,bU,bP]) rfl ?_;unfold Q6y;refine ⟨o2,c2,some ⟨g4,0,none⟩,3,c4,z,A,ap,rfl, ?_, ?_, ?_,Q04 aJ.out (by omega),Tab.mono aF.out (by omega), ?_⟩
     ·simp;omega
     ·exact Q04 (Q0o (Q0o (Q0o bR.out ZQ 0 _) ZQ 1 _) ZQ 2 _) ah
     ·exact Q04 (Q7n aE.out (by simp;omega)) (by omega)
     ·exact ((bM.out.setCell (p:=⟨w.heap.size+1+1,0,none⟩) (by (try simp) <;> omega) _).setCell (p:=⟨w.heap.size+1+1,1,none⟩) (by (try simp) <;> omega) _).setCell (p:=⟨w.heap.size+1+1,2,none⟩) (by (try simp) <;> omega) _
    ·skip
     have bV:¬((d.length:Int)+1 > 3):=by omega
     have cl:decide (3 < (d.length:Int)+1)=false:=decide_eq_false (by omega);obtain ⟨z,A,ap,an,al,ao⟩:=((Hr.out.low q 0 (.int .i64 key)).low q 1 (.slice o2 m.length c2)).low q 2 (.slice (some ⟨g4,0,none⟩) (d.length+1) c4);have aE:=Q01 an;have aJ:=Q01 al;have aF:=Q01 ao;clear an al ao;go_wp2;refine bodyPost_ret (v:=.tuple #[plv key (.slice o2 m.length c2) (.slice (some ⟨g4,0,none⟩) (d.length+1) c4),.bool true]) (by simp [results,Tryz.results95,go_sem,a0,a3,bb,a6,E]) rfl ?_;unfold Q6y
     refine ⟨o2,c2,some ⟨g4,0,none⟩,(d.length+1),c4,z,A,ap,rfl, ?_, ?_, ?_,Q04 aJ.out (by omega),Tab.mono aF.out (by omega), ?_⟩
     ·simp;omega
     ·exact Q04 (Q0o (Q0o (Q0o a7.out ZQ 0 _) ZQ 1 _) ZQ 2 _) ah
     ·have e:((z,8,A)::d).take 3=(z,8,A)::d:=List.take_of_length_le (by simp;omega)
      rw [e];exact Q04 aE.out (by omega)
     ·exact ((ba.out.setCell (p:=⟨w.heap.size+1+1,0,none⟩) (by (try simp) <;> omega) _).setCell (p:=⟨w.heap.size+1+1,1,none⟩) (by (try simp) <;> omega) _).setCell (p:=⟨w.heap.size+1+1,2,none⟩) (by (try simp) <;> omega) _
theorem QeT (key:Int) (o:Option Addr) (cap:Nat) (l:List Bk) (oR:Option Addr) (cR:Nat) (f:List Hd) (k i g:Int) (pl:Nat) (m:List Bk) (w:World) (hk:Q1P key=true) (hl:Q0e l=true) (hc:Q0J k i g=true) (hm:doL l k i g=some m) (cc:l.length≤100) (hR:RdK w.heap.size w o l) (hG:RdL Q0H w.heap.size w oR f) (a8:oR=none→cR=0) (ci:f.length≤3) (bv:k≠0) (a1:(k==0)=false) (a4:pl=Q0j l i):
  Calls Tryz.prog 95 #[plv key (.slice o l.length cap) (.slice oR f.length cR),cmd k i g] w fun e w'=> Q6y key m f w e w':=by
 obtain ⟨W0,ab⟩:∃W,(((w.alloc (.cells #[.int .i64 key,.slice o l.length cap,.slice oR f.length cR] 29)).alloc (.cells #[.int .i64 k,.int .i64 i,.int .i64 g] 77)).alloc (.cells #[.int .i64 0,.slice none 0 0,.slice none 0 0] 29))=W:=⟨_,rfl⟩;have aG:=alb0v0v3 ab;have HB:=Q01 aG;clear aG;have zz:=alz0v0v3 ab;obtain ⟨z0,z1,z2⟩:=alc3v0v3 ab;have zu:=alz0v1v3 ab;obtain ⟨u0,u1,u2⟩:=alc3v1v3 ab;have zr:=alz0v2v3 ab;obtain ⟨r0,r1,r2⟩:=alc3v2v3 ab;obtain ⟨bp,bn,bg⟩:=alf3v2v3 ab;have cd:=zr;have HR:=Q01 hR;have HG:=Q01 hG;have aA:=HB.out.size
 have HF:=Q01 (Q6l o cap l i W0 ((hR.kept HB.out (Kaq _)).le HB.out.size) (by omega) hl);have aF:=Q01 (QfO hl hc hm);have aU:=Q8I hl hc hm;have bW:=Q96 hm
 have bq:Q0z l i=true:=by rcases Q5v hm with ⟨_,h,_⟩|⟨h,_⟩|⟨h,_⟩|⟨h,_⟩ <;> first|exact h|(exact absurd h bv)
 rw [QcK bq,←a4] at HF aF
 have cm:(0:Int)≤(pl:Int):=by omega
 have b8:=Q01 a4;clear a4;clear hR hG hl hc;have aC:=Q01 (fun t=> Q8S (l:=l) (k:=k) (i:=i) (g:=g) (fi:=(pl:Int)) t);have Z0:=z0;have Z1:=z1;have Z2:=z2;have ZZ:=zz;have U0:=u0;have U1:=u1;have U2:=u2;have ZU:=zu;have Q0:=r0;have Q1:=r1;have Q2:=r2;have ZQ:=zr;have FQ0:=bp;have FQ1:=bn;have FQ2:=bg;go_enter Tryz.func95,Tryz.ntmps95;go_wp2_with fail;refine HF.out.mono ?_;rintro e w9 ⟨rfl,rfl⟩;go_wp2
 go_loopw [7,8,9] (fun lv pv tv wr=> ∃t:Nat,t≤l.length∧tv=.int .i64 (t:Int)∧pv=.bool (Q5k l k i g ((pl:Int)) t).2∧Hid (Q1w wr W0.heap.size lv (Q5k l k i g ((pl:Int)) t).1)∧Hid (Below W0.heap.size W0 wr))
  (fun _ _ tv _=> l.length - (intOf tv).toNat)
 case atStart=> exact ⟨0,Kcq _,rfl,by simp [Q5k,a1,bv],World.ownsRow_nil _ _ _ _,Below.refl _ _⟩
 case round=>
  obtain ⟨t,cw,rfl,rfl,HO,T⟩:=hrel;clear HF z0 z1 z2 u0 u1 u2 r0 r1 r2 bp bn bg zz zu zr ab;have ba:Hid (Below w.heap.size w wr):=HB.out.trans (T.out.mono aA)
  by_cases hlt:t < l.length
  ·skip
   have b6:(t:Int) < (l.length:Int):=by omega
   have co:(0:Int)≤(t:Int):=by omega
   rcases HR.out with hR|⟨b,off,rfl,a6,aP⟩
   ·subst hR;simp at hlt
   obtain ⟨c0,c1,c2⟩:=RdL.back (C:=w.heap.size) aP t hlt;replace c0:=(ba.out.cell (p:=⟨b,off+t * 3,none⟩) a6).trans c0;replace c1:=(ba.out.cell (p:=⟨b,off+t * 3+1,none⟩) a6).trans c1;replace c2:=(ba.out.cell (p:=⟨b,off+t * 3+2,none⟩) a6).trans c2;have aM:=Q5J l k i g ((pl:Int)) t;have U:=Q01 (show Q5k l k i g ((pl:Int)) (t+1)=Q4Z k i g ((pl:Int)) (Q5k l k i g ((pl:Int)) t) t (l.getD t (0,0,false)) from rfl);have J:=aC.out t;obtain ⟨x,y,u,aS⟩:∃x y u,l.getD t (0,0,false)=(x,y,u):=⟨_,_,_,rfl⟩;rw [aS] at c0 c1 c2 U;dsimp only at c0 c1 c2;clear aS aP
   obtain ⟨s1,s2,aj⟩:∃s1 s2,Q5k l k i g ((pl:Int)) t=(s1,s2):=⟨_,_,rfl⟩;rw [aj] at HO U aM J ⊢;dsimp only at HO aM J ⊢;clear aj aF aC;have a0:=bC T.out Z1 ZZ
   cases s2 with
   |false=> have:=J rfl;simp [a1] at this
   |true=>
    by_cases htp:t=pl
    ·subst htp
     have cb:((t:Int)==(t:Int))=true:=beq_self_eq_true _
     by_cases h3:k=3
     ·subst h3
      have c:=U.out;unfold Q4Z at c;simp only [if_true,Bool.true_eq_false,false_and,if_false] at c;have N:=Q01 c;clear U c
      (try have H1:=Q01 h1)
      (try have H3:=Q01 h3)
      (try clear h1 h3)
      (try clear h3)
      obtain ⟨W2,ar⟩:∃W,wr.alloc (.cells #[.int .i64 x,.int .i64 y,.bool u] 119)=W:=⟨_,rfl⟩
      have a:Hid (St W0 W2 u7 s1 wr.heap.size x y u):=by rw [←ar];exact St.start HO.out T.out
      have ax:=bC a.out.bel Z1 ZZ;have ay:=bC a.out.bel U0 ZU;have ap:=bC a.out.bel U1 ZU;have ao:=bC a.out.bel U2 ZU;have aq:=Q00 a.out.box 0 _ rfl;have an:=Q00 a.out.box 1 _ rfl;have aw:=Q00 a.out.box 2 _ rfl;have af:=Q02 a.out.box 0;have ae:=Q02 a.out.box 1;have Z:=Q02 a.out.box 2;have M:=a;go_wp2;go_roundw
      case rel=> exact ⟨t+1,by omega,by go_num,by rw [N.out],by rw [N.out];exact M.out.own,M.out.bel⟩
      case measure=> simp [intOf];omega
     ·have ch:(k==3)=false:=beq_eq_false_iff_ne.2 h3
      by_cases h1:k=1
      ·have b2:(k==1)=true:=beq_iff_eq.2 h1
       have c:=U.out;unfold Q4Z at c;simp only [if_true,if_neg h3,if_pos h1,Bool.true_eq_false,false_and,if_false] at c;have N:=Q01 c;clear U c
       (try have H1:=Q01 h1)
       (try have H3:=Q01 h3)
       (try clear h1 h3)
       (try clear h3)
       obtain ⟨W2,ar⟩:∃W,wr.alloc (.cells #[.int .i64 x,.int .i64 y,.bool u] 119)=W:=⟨_,rfl⟩
       have a:Hid (St W0 W2 u7 s1 wr.heap.size x y u):=by rw [←ar];exact St.start HO.out T.out
       have ax:=bC a.out.bel Z1 ZZ;have ay:=bC a.out.bel U0 ZU;have ap:=bC a.out.bel U1 ZU;have ao:=bC a.out.bel U2 ZU;have aq:=Q00 a.out.box 0 _ rfl;have an:=Q00 a.out.box 1 _ rfl;have aw:=Q00 a.out.box 2 _ rfl;have af:=Q02 a.out.box 0;have ae:=Q02 a.out.box 1;have Z:=Q02 a.out.box 2;obtain ⟨W4,a5⟩:∃W,W2.setCell ⟨wr.heap.size,1,none⟩ (.int .i64 g)=W:=⟨_,rfl⟩
       have D:Hid (St W0 W4 u7 s1 wr.heap.size x g u):=by rw [←a5];exact a.out.put1 _
       have a7:=bC D.out.bel Z1 ZZ;have aY:=Q00 D.out.box 0 _ rfl;have bb:=Q00 D.out.box 1 _ rfl;have aW:=Q00 D.out.box 2 _ rfl;go_wp2_with (at_builtin;refine Q08 Q47 rfl (.tmp 69) (.tmp 71) rfl W0.heap.size _ _ rfl (World.ownsRow.alloc D.out.own (.cells #[.int .i64 x,.int .i64 g,.bool u] 119)) (some ⟨W4.heap.size,0,none⟩) 1 (W4.alloc (.cells #[.int .i64 x,.int .i64 g,.bool u] 119)).heap.size [(x,g,u)] 1 rfl rfl (fun h=> by cases h) Q4p (by simp;omega) (by have:=D.out.bel.size;simp;omega) ?_);intro v6 w6 ah ai ag;have M:=Q01 (D.out.app ah ai ag)
       clear ah ai ag;go_wp2;go_roundw
       case rel=> exact ⟨t+1,by omega,by go_num,by rw [N.out],by rw [N.out];exact M.out.own,M.out.bel⟩
       case measure=> simp [intOf];omega
      ·have b2:(k==1)=false:=beq_eq_false_iff_ne.2 h1
       have c:=U.out;unfold Q4Z at c;simp only [if_true,if_neg h3,if_neg h1,Bool.true_eq_false,false_and,if_false] at c;have N:=Q01 c;clear U c
       (try have H1:=Q01 h1)
       (try have H3:=Q01 h3)
       (try clear h1 h3)
       (try clear h3)
       obtain ⟨W2,ar⟩:∃W,wr.alloc (.cells #[.int .i64 x,.int .i64 y,.bool u] 119)=W:=⟨_,rfl⟩
       have a:Hid (St W0 W2 u7 s1 wr.heap.size x y u):=by rw [←ar];exact St.start HO.out T.out
       have ax:=bC a.out.bel Z1 ZZ;have ay:=bC a.out.bel U0 ZU;have ap:=bC a.out.bel U1 ZU;have ao:=bC a.out.bel U2 ZU;have aq:=Q00 a.out.box 0 _ rfl;have an:=Q00 a.out.box 1 _ rfl;have aw:=Q00 a.out.box 2 _ rfl;have af:=Q02 a.out.box 0;have ae:=Q02 a.out.box 1;have Z:=Q02 a.out.box 2;obtain ⟨W4,a5⟩:∃W,W2.setCell ⟨wr.heap.size,2,none⟩ (.bool true)=W:=⟨_,rfl⟩
       have D:Hid (St W0 W4 u7 s1 wr.heap.size x y true):=by rw [←a5];exact a.out.put2 _
       have a7:=bC D.out.bel Z1 ZZ;have aY:=Q00 D.out.box 0 _ rfl;have bb:=Q00 D.out.box 1 _ rfl;have aW:=Q00 D.out.box 2 _ rfl;go_wp2_with (at_builtin;refine Q08 Q47 rfl (.tmp 69) (.tmp 71) rfl W0.heap.size _ _ rfl (World.ownsRow.alloc D.out.own (.cells #[.int .i64 x,.int .i64 y,.bool true] 119)) (some ⟨W4.heap.size,0,none⟩) 1 (W4.alloc (.cells #[.int .i64 x,.int .i64 y,.bool true] 119)).heap.size [(x,y,true)] 1 rfl rfl (fun h=> by cases h) Q4p (by simp;omega) (by have:=D.out.bel.size;simp;omega) ?_);intro v6 w6 ah ai ag;have M:=Q01 (D.out.app ah ai ag)
       clear ah ai ag;go_wp2;go_roundw
       case rel=> exact ⟨t+1,by omega,by go_num,by rw [N.out],by rw [N.out];exact M.out.own,M.out.bel⟩
       case measure=> simp [intOf];omega
    ·have cy:((t:Int)==(pl:Int))=false:=beq_eq_false_iff_ne.2 (by omega)
     have I:¬((t:Int)=(pl:Int)):=by omega
     have c:=U.out;unfold Q4Z at c;simp only [I,Bool.true_eq_false,false_and,if_false] at c;have N:=Q01 c;clear U c
     (try have H1:=Q01 h1)
     (try have H3:=Q01 h3)
     (try clear h1 h3)
     (try clear h3)
     obtain ⟨W2,ar⟩:∃W,wr.alloc (.cells #[.int .i64 x,.int .i64 y,.bool u] 119)=W:=⟨_,rfl⟩
     have a:Hid (St W0 W2 u7 s1 wr.heap.size x y u):=by rw [←ar];exact St.start HO.out T.out
     have ax:=bC a.out.bel Z1 ZZ;have ay:=bC a.out.bel U0 ZU;have ap:=bC a.out.bel U1 ZU;have ao:=bC a.out.bel U2 ZU;have aq:=Q00 a.out.box 0 _ rfl;have an:=Q00 a.out.box 1 _ rfl;have aw:=Q00 a.out.box 2 _ rfl;have af:=Q02 a.out.box 0;have ae:=Q02 a.out.box 1;have Z:=Q02 a.out.box 2
     go_wp2_with (at_builtin;refine Q08 Q47 rfl (.tmp 69) (.tmp 71) rfl W0.heap.size _ _ rfl (World.ownsRow.alloc a.out.own (.cells #[.int .i64 x,.int .i64 y,.bool u] 119)) (some ⟨W2.heap.size,0,none⟩) 1 (W2.alloc (.cells #[.int .i64 x,.int .i64 y,.bool u] 119)).heap.size [(x,y,u)] 1 rfl rfl (fun h=> by cases h) Q4p (by simp;omega) (by have:=a.out.bel.size;simp;omega) ?_);intro v6 w6 ah ai ag;have M:=Q01 (a.out.app ah ai ag);clear ah ai ag;go_wp2;go_roundw
     case rel=> exact ⟨t+1,by omega,by go_num,by rw [N.out],by rw [N.out];exact M.out.own,M.out.bel⟩
     case measure=> simp [intOf];omega
  ·have e:t=l.length:=by omega
   subst e;obtain ⟨s1,s2,aj⟩:∃s1 s2,Q5k l k i g ((pl:Int)) l.length=(s1,s2):=⟨_,_,rfl⟩;have aM:=Q5J l k i g ((pl:Int)) l.length;have J:=aC.out l.length;rw [aj] at HO aF aM J ⊢;dsimp only at HO aM J ⊢;clear aj aC hlt;have a0:=bC T.out Z1 ZZ;have bR:=bC T.out U1 ZU;have bT:=bC T.out U2 ZU
   cases s2 with
   |true=>
    obtain rfl:m=s1:=aF.out.symm;have a3:=HO;have V:=T;obtain ⟨o2,c2,e2,bm⟩:=ownL.open (L:=Q1d) a3.out;have bU:=Q01 (Q8Y a3.out e2);subst e2;have bs:=Q01 bm;clear bm J;have d:Hid (Below w.heap.size w wr):=HB.out.trans (V.out.mono aA);have ce:=V.out.size;have a2:=Q01 (HG.out.kept d.out (Kaq _));clear HG;have r:=bC V.out Z0 ZZ;have q:=bC V.out Z2 ZZ;have aE:=bC V.out Q0 ZQ;have aB:=bC V.out Q1 ZQ;have aD:=bC V.out Q2 ZQ
    have bu:m.length≤1000:=by omega
    go_upto_region 21 with fail
    go_cut [11] from 83 to 94 (fun s11 wx=> ∃B v',s11=.pointer (some ⟨B,0,none⟩)∧Hid (wx.heap[B]? =some (.cells #[.int .i64 key,.slice o2 m.length c2,v'] 29 (0,0)))∧Hid (Below wr.heap.size wr wx)∧wr.heap.size≤B∧B < wx.heap.size∧Hid (RingO wx wr.heap.size v' (fun b=> Q19 key b m) f))
    case first=>
     have P:w.heap.size < wr.heap.size:=by have:=ZZ;omega
     go_region_held3 (fun w'=> w'.cell? ⟨w.heap.size,0,none⟩=some (.int .i64 key)∧w'.cell? ⟨w.heap.size,2,none⟩=some (.slice oR f.length cR)) (first|with_reducible exact ⟨X,Y⟩|with_reducible exact ⟨aR,aV⟩|with_reducible exact ⟨r,q⟩|with_reducible exact ⟨Q0a X (show w.heap.size < wr.heap.size by omega),Q0a Y (show w.heap.size < wr.heap.size by omega)⟩|with_reducible exact ⟨Q0a X (show w.heap.size < s.heap.size by omega),Q0a Y (show w.heap.size < s.heap.size by omega)⟩|with_reducible exact ⟨Q0a X (show w.heap.size < s.heap.size+1 by omega),Q0a Y (show w.heap.size < s.heap.size+1 by omega)⟩|go_keep) (first|(go_at_call 102;have aQ:=Q1L key o2 c2 m wr.drew ((bs.out.kept (Below.drew (Below.refl _ _)) (Kaq _)).le (by simp)) bu hk aU;with_reducible refine aQ.mono ?_;clear aQ;rintro e s ⟨F,G,aO,rfl,am,al,hb⟩;have A:Below wr.heap.size wr s:=Below.trans (show Below wr.heap.size wr wr.drew from (Below.drew (Below.refl _ _))) (hb.mono (by simp));have O:=A.size;have am:=Q04 am (show wr.heap.size≤_ by simp);have al:=Tab.mono al (show wr.heap.size≤_ by simp);have aR:=bC A r P;have aV:=bC A q P;clear hb)|(go_at_call 102;have aQ:=Q1L key o2 c2 m (wr.alloc (.cells #[.int .i64 0,.slice none 0 0,.slice none 0 0] 29)).drew ((bs.out.kept (Below.drew ((Below.refl _ _).alloc (Kaq _) _)) (Kaq _)).le (by simp)) bu hk aU;with_reducible refine aQ.mono ?_;clear aQ;rintro e s ⟨F,G,aO,rfl,am,al,hb⟩;have A:Below wr.heap.size wr s:=Below.trans (show Below wr.heap.size wr (wr.alloc (.cells #[.int .i64 0,.slice none 0 0,.slice none 0 0] 29)).drew from (Below.drew ((Below.refl _ _).alloc (Kaq _) _))) (hb.mono (by simp));have O:=A.size;have am:=Q04 am (show wr.heap.size≤_ by simp);have al:=Tab.mono al (show wr.heap.size≤_ by simp);have aR:=bC A r P;have aV:=bC A q P;have bi:=Q4L hb;have aT:=(Array.getElem?_eq_some_iff.1 bi).1;clear hb)|(have n:Below s.heap.size s (s.alloc (.cells #[.slice F 8 G] 51)):=((Below.refl s.heap.size s).alloc (Kaq _) (.cells #[.slice F 8 G] 51));have j:ownL Q0H 51 (s.alloc (.cells #[.slice F 8 G] 51)) wr.heap.size (.slice (some ⟨s.heap.size,0,none⟩) 1 1) [(F,8,G)]:=Q04 (Q4o s F 8 G _) (by (try simp) <;> omega);have aI:Below w.heap.size w (s.alloc (.cells #[.slice F 8 G] 51)):=d.out.trans ((A.mono d.out.size).trans (n.mono (Kdq d.out.size O)));refine Q0i Q66 rfl (.tmp 90) (.tmp 92) rfl wr.heap.size (.slice (some ⟨s.heap.size,0,none⟩) 1 1) [(F,8,G)] rfl j oR cR w.heap.size f f.length rfl rfl a8 (a2.out.kept (A.trans (n.mono O)) d.out.size) (by simp;omega) (by simp;omega) ?_;intro v4 x1 ak H aK;have aa:=Q2D j (Q03 am n) (al.kept n) ak H;obtain ⟨g4,c4,e4⟩:=RingO.isSome aa;subst e4;have E:Below wr.heap.size wr x1:=(A.trans (n.mono O)).grown H (by (try simp) <;> omega) (fun k h=> (j.lt k h).1);have bo:=E.size;have X:=bC E r P;have Y:=bC E q P;(try have au:=Q45 H ((Below.heap_alloc _ _ _ aT).trans bi) (Nat.ne_of_lt aT));(try have bA:=Q00 au 0 _ rfl);(try have bG:=Q02 au 0);(try have bP:=Q00 au 1 _ rfl);(try have bQ:=Q02 au 1);(try have bw:=Q00 au 2 _ rfl);(try have bD:=Q02 au 2);clear ak H aK j aI n)|(have n:Below s.heap.size s ((s.alloc (.cells #[.int .i64 0,.slice none 0 0,.slice none 0 0] 29)).alloc (.cells #[.slice F 8 G] 51)):=(((Below.refl s.heap.size s).alloc (Kaq _) (.cells #[.int .i64 0,.slice none 0 0,.slice none 0 0] 29)).alloc (by simp) (.cells #[.slice F 8 G] 51));have j:ownL Q0H 51 ((s.alloc (.cells #[.int .i64 0,.slice none 0 0,.slice none 0 0] 29)).alloc (.cells #[.slice F 8 G] 51)) wr.heap.size (.slice (some ⟨s.heap.size+1,0,none⟩) 1 1) [(F,8,G)]:=Q04 (Q9N s (.cells #[.int .i64 0,.slice none 0 0,.slice none 0 0] 29) F 8 G _) (by (try simp) <;> omega);have aI:Below w.heap.size w ((s.alloc (.cells #[.int .i64 0,.slice none 0 0,.slice none 0 0] 29)).alloc (.cells #[.slice F 8 G] 51)):=d.out.trans ((A.mono d.out.size).trans (n.mono (Kdq d.out.size O)));refine Q0i Q66 rfl (.tmp 90) (.tmp 92) rfl wr.heap.size (.slice (some ⟨s.heap.size+1,0,none⟩) 1 1) [(F,8,G)] rfl j oR cR w.heap.size f f.length rfl rfl a8 (a2.out.kept (A.trans (n.mono O)) d.out.size) (by simp;omega) (by simp;omega) ?_;intro v4 x1 ak H aK;have aa:=Q2D j (Q03 am n) (al.kept n) ak H;obtain ⟨g4,c4,e4⟩:=RingO.isSome aa;subst e4;have E:Below wr.heap.size wr x1:=(A.trans (n.mono O)).grown H (by (try simp) <;> omega) (fun k h=> (j.lt k h).1);have bo:=E.size;have X:=bC E r P;have Y:=bC E q P;have az:=Q45 H (Q3U s #[.int .i64 0,.slice none 0 0,.slice none 0 0] 29 (.cells #[.slice F 8 G] 51)) (Nat.ne_of_lt (Nat.lt_succ_self _));(try have bM:=Q00 az 0 _ rfl);(try have bx:=Q02 az 0);(try have bE:=Q00 az 1 _ rfl);(try have bJ:=Q02 az 1);(try have bH:=Q00 az 2 _ rfl);(try have bB:=Q02 az 2);clear ak H aK j aI n)|(have n:Below s.heap.size s ((s.alloc (.cells #[.slice F 8 G] 51)).alloc (.cells #[.int .i64 0,.slice none 0 0,.slice none 0 0] 29)):=(((Below.refl s.heap.size s).alloc (Kaq _) (.cells #[.slice F 8 G] 51)).alloc (by simp) (.cells #[.int .i64 0,.slice none 0 0,.slice none 0 0] 29));have j:ownL Q0H 51 ((s.alloc (.cells #[.slice F 8 G] 51)).alloc (.cells #[.int .i64 0,.slice none 0 0,.slice none 0 0] 29)) wr.heap.size (.slice (some ⟨s.heap.size,0,none⟩) 1 1) [(F,8,G)]:=Q04 (World.ownsRow.alloc (Q4o s F 8 G _) (.cells #[.int .i64 0,.slice none 0 0,.slice none 0 0] 29)) (by (try simp) <;> omega);have aI:Below w.heap.size w ((s.alloc (.cells #[.slice F 8 G] 51)).alloc (.cells #[.int .i64 0,.slice none 0 0,.slice none 0 0] 29)):=d.out.trans ((A.mono d.out.size).trans (n.mono (Kdq d.out.size O)));refine Q0i Q66 rfl (.tmp 90) (.tmp 92) rfl wr.heap.size (.slice (some ⟨s.heap.size,0,none⟩) 1 1) [(F,8,G)] rfl j oR cR w.heap.size f f.length rfl rfl a8 (a2.out.kept (A.trans (n.mono O)) d.out.size) (by simp;omega) (by simp;omega) ?_;intro v4 x1 ak H aK;have aa:=Q2D j (Q03 am n) (al.kept n) ak H;obtain ⟨g4,c4,e4⟩:=RingO.isSome aa;subst e4;have E:Below wr.heap.size wr x1:=(A.trans (n.mono O)).grown H (by (try simp) <;> omega) (fun k h=> (j.lt k h).1);have bo:=E.size;have X:=bC E r P;have Y:=bC E q P;have av:=Q45 H (Q1V s #[.int .i64 0,.slice none 0 0,.slice none 0 0] 29 (.cells #[.slice F 8 G] 51)) (Nat.ne_of_gt (Nat.lt_succ_self _));(try have bK:=Q00 av 0 _ rfl);(try have bI:=Q02 av 0);(try have bL:=Q00 av 1 _ rfl);(try have bz:=Q02 av 1);(try have bO:=Q00 av 2 _ rfl);(try have bN:=Q02 av 2);clear ak H aK j aI n))
     all_goals (go_wp2_with fail;go_meet)
     all_goals first
      |with_reducible exact Qgv au E (by omega) aa
      |with_reducible exact Qgv az E (by omega) aa
      |with_reducible exact Qgv av E (by omega) aa
      |with_reducible exact QhR E aa
    case rest=>
    obtain ⟨B,v',rfl,ac,ad,cr,cj,Hr⟩:=hcut;obtain ⟨g4,c4,e4⟩:=RingO.isSome Hr.out;subst e4;have bZ:=RingO.cap Hr.out;have cp:=ZQ
    have z:w.heap.size+1+1 < wr.heap.size:=by omega
    have cl:=ad.out.size;have bc:=bC ad.out aE z;have be:=bF ad.out (bF V.out FQ0 ZQ) z;have cn:=Q00 ac.out 0 _ rfl;have b7:=Q02 ac.out 0;have bd:=bC ad.out aB z;have bl:=bF ad.out (bF V.out FQ1 ZQ) z;have cx:=Q00 ac.out 1 _ rfl;have cg:=Q02 ac.out 1;have bk:=bC ad.out aD z;have bt:=bF ad.out (bF V.out FQ2 ZQ) z;have ck:=Q00 ac.out 2 _ rfl;have ca:=Q02 ac.out 2;clear r q aE aB aD;have bh:=Q01 (Q03 a3.out ad.out);have bj:Hid (Below w.heap.size w wc):=d.out.trans (ad.out.mono d.out.size)
    have bf:B≠w.heap.size+1+1:=by omega
    have I:w.heap.size+1+1≠B:=by omega
    by_cases h4:f.length=3
    ·skip
     have b3:(f.length:Int)=3:=by omega
     have cs:3≤c4:=by omega
     obtain ⟨W5,R⟩:∃W,wc.setCell ⟨B,2,none⟩ (.slice (some ⟨g4,0,none⟩) 3 c4)=W:=⟨_,rfl⟩
     have aH:W5.heap[B]? =some (.cells #[.int .i64 key,.slice o2 m.length c2,.slice (some ⟨g4,0,none⟩) 3 c4] 29 (0,0)):=by rw [←R];exact Q06 ac.out 2 _
     have cv:=Q00 aH 0 _ rfl
     have bX:W5.cell? ⟨w.heap.size+1+1,0,none⟩=some (.int .i64 0):=by rw [←R];exact (Q1q I).trans bc
     have cf:W5.frozen? ⟨w.heap.size+1+1,0,none⟩=false:=by rw [←R];exact (Q0W I).trans be
     have cq:=Q00 aH 1 _ rfl
     have b1:W5.cell? ⟨w.heap.size+1+1,1,none⟩=some (.slice none 0 0):=by rw [←R];exact (Q1q I).trans bd
     have b5:W5.frozen? ⟨w.heap.size+1+1,1,none⟩=false:=by rw [←R];exact (Q0W I).trans bl
     have cu:=Q00 aH 2 _ rfl
     have bV:W5.cell? ⟨w.heap.size+1+1,2,none⟩=some (.slice none 0 0):=by rw [←R];exact (Q1q I).trans bk
     have b9:W5.frozen? ⟨w.heap.size+1+1,2,none⟩=false:=by rw [←R];exact (Q0W I).trans bt
     have bY:Hid (Q1w W5 W0.heap.size (.slice o2 m.length c2) m):=by rw [←R];exact Q0q bh.out ac.out Q87 2 _
     have b4:Hid (RingO W5 wr.heap.size (.slice (some ⟨g4,0,none⟩) (f.length+1) c4) (fun b=> Q19 key b m) f):=by rw [←R];exact Hr.out.put ac.out 2 _
     have bS:Hid (Below w.heap.size w W5):=by rw [←R];exact bj.out.setCell (p:=⟨B,2,none⟩) (show w.heap.size≤B by have:=d.out.size;omega) _
     obtain ⟨F,G,aO,aL,aJ,aN⟩:=((b4.out.low z 0 (.int .i64 key)).low z 1 (.slice o2 m.length c2)).low z 2 (.slice (some ⟨g4,0,none⟩) 3 c4);have aX:=Q01 aL;have a9:=Q01 aJ;have aZ:=Q01 aN;clear aL aJ aN;go_wp2;refine bodyPost_ret (v:=.tuple #[plv key (.slice o2 m.length c2) (.slice (some ⟨g4,0,none⟩) 3 c4),.bool true]) (by simp [results,Tryz.results95,go_sem,bX,b1,bV]) rfl ?_;unfold Q6y;refine ⟨o2,c2,some ⟨g4,0,none⟩,3,c4,F,G,aO,rfl, ?_, ?_, ?_,Q04 a9.out (by omega),Tab.mono aZ.out (by omega), ?_⟩
     ·simp;omega
     ·exact Q04 (Q0o (Q0o (Q0o bY.out ZQ 0 _) ZQ 1 _) ZQ 2 _) aA
     ·exact Q04 (Q7n aX.out (by simp;omega)) (by omega)
     ·exact ((bS.out.setCell (p:=⟨w.heap.size+1+1,0,none⟩) (by (try simp) <;> omega) _).setCell (p:=⟨w.heap.size+1+1,1,none⟩) (by (try simp) <;> omega) _).setCell (p:=⟨w.heap.size+1+1,2,none⟩) (by (try simp) <;> omega) _
    ·skip
     have b3:¬((f.length:Int)+1 > 3):=by omega
     have ct:decide (3 < (f.length:Int)+1)=false:=decide_eq_false (by omega);obtain ⟨F,G,aO,aL,aJ,aN⟩:=((Hr.out.low z 0 (.int .i64 key)).low z 1 (.slice o2 m.length c2)).low z 2 (.slice (some ⟨g4,0,none⟩) (f.length+1) c4);have aX:=Q01 aL;have a9:=Q01 aJ;have aZ:=Q01 aN;clear aL aJ aN;go_wp2;refine bodyPost_ret (v:=.tuple #[plv key (.slice o2 m.length c2) (.slice (some ⟨g4,0,none⟩) (f.length+1) c4),.bool true]) (by simp [results,Tryz.results95,go_sem,bc,bd,bk,bf,I]) rfl ?_;unfold Q6y
     refine ⟨o2,c2,some ⟨g4,0,none⟩,(f.length+1),c4,F,G,aO,rfl, ?_, ?_, ?_,Q04 a9.out (by omega),Tab.mono aZ.out (by omega), ?_⟩
     ·simp;omega
     ·exact Q04 (Q0o (Q0o (Q0o bh.out ZQ 0 _) ZQ 1 _) ZQ 2 _) aA
     ·have e:((F,8,G)::f).take 3=(F,8,G)::f:=List.take_of_length_le (by simp;omega)
      rw [e];exact Q04 aX.out (by omega)
     ·exact ((bj.out.setCell (p:=⟨w.heap.size+1+1,0,none⟩) (by (try simp) <;> omega) _).setCell (p:=⟨w.heap.size+1+1,1,none⟩) (by (try simp) <;> omega) _).setCell (p:=⟨w.heap.size+1+1,2,none⟩) (by (try simp) <;> omega) _
   |false=>
    have:=J rfl;simp [a1] at this
structure Pm where
 key:Int
 l:List Bk
 ring:List (List (List Int))
def RiPm (lo hi:Nat) (w:World) (v:Value) (m:Pm):Prop:=∃vb vr,v=plv m.key vb vr∧RiV Q1d lo hi w vb m.l∧RiR lo hi w vr m.ring
abbrev Q86 (C:Nat) (w:World) (v:Value) (m:Pm):Prop:=RiPm 0 C w v m
def InPm (lo hi:Nat) (w:World) (v:Value) (m:Pm):Prop:=∃vb vr mid,v=plv m.key vb vr∧lo≤mid∧mid≤hi∧InL Q1d 119 lo mid w vb m.l∧InR mid hi w vr m.ring
theorem RiPm.step {a b lo hi:Nat} {w d:World} {v:Value} {m:Pm} (h:RiPm a b w v m) (s:Stp lo hi w d) (c:hi≤a∨b≤lo):RiPm a b d v m:=by
 obtain ⟨g,f,e,i,h2⟩:=h;exact ⟨g,f,e,i.step s c,RiR.stp.go h2 s c⟩
theorem RiPm.mono {a b a' b':Nat} {w:World} {v:Value} {m:Pm} (h:RiPm a b w v m) (k1:a'≤a) (k2:b≤b'):RiPm a' b' w v m:=by
 obtain ⟨vb,vr,e,h1,h2⟩:=h;exact ⟨vb,vr,e,h1.mono k1 k2,RiR.mon.go h2 k1 k2⟩
theorem RiPm.rd {lo hi:Nat} {w:World} {v:Value} {m:Pm} (h:RiPm lo hi w v m):Q86 hi w v m:=h.mono (Kcq _) (Kaq _)
theorem RiPm.le {lo C D:Nat} {w:World} {v:Value} {m:Pm} (h:RiPm lo C w v m) (hc:C≤D):RiPm lo D w v m:=h.mono (Kaq _) hc
theorem RiPm.kept {lo C D:Nat} {w b:World} {v:Value} {m:Pm} (h:RiPm lo C w v m) (a:Below D w b) (f:C≤D):RiPm lo C b v m:=
 h.step (lo:=C) (hi:=w.heap.size+C) ⟨a.os,a.tape,a.output,a.size,fun k d c=> a.block k (by omega)⟩ (.inr (Kaq _))
theorem InPm.step {a b lo hi:Nat} {w d:World} {v:Value} {m:Pm} (h:InPm a b w v m) (s:Stp lo hi w d) (l:hi≤a∨b≤lo):InPm a b d v m:=by
 obtain ⟨g,f,c,e,i,j,k,h2⟩:=h;exact ⟨g,f,c,e,i,j,InRow.step k s (by omega),InR.stp.go h2 s (by omega)⟩
theorem InPm.ri {lo hi:Nat} {w:World} {v:Value} {m:Pm} (h:InPm lo hi w v m):RiPm lo hi w v m:=by
 obtain ⟨d,a,b,e,c,f,g,h2⟩:=h;exact ⟨d,a,e,(InRow.ri g).mono (Kaq _) f,RiR.mon.go (InR.ri h2) c (Kaq _)⟩
theorem InPm.rd {lo hi:Nat} {w:World} {v:Value} {m:Pm} (h:InPm lo hi w v m):Q86 hi w v m:=h.ri.rd
theorem RiR.len {lo hi:Nat} {w:World} {v:Value} {lll:List (List (List Int))} (h:RiR lo hi w v lll):∃o c,v=.slice o lll.length c:=by
 obtain ⟨hs,h0,⟨o,c,e,_⟩,_⟩:=h;exact ⟨o,c,by rw [e,h0]⟩
theorem RiPm.opn {lo hi:Nat} {w:World} {v:Value} {m:Pm} (h:RiPm lo hi w v m):∃(o:Option Addr) (c:Nat) (a:Option Addr) (b:Nat),v=plv m.key (.slice o m.l.length c) (.slice a m.ring.length b):=by
 obtain ⟨i,g,e,⟨o,c,d,_⟩,h2⟩:=h;obtain ⟨a,b,f⟩:=RiR.len h2;exact ⟨o,c,a,b,by rw [e,d,f]⟩
theorem InPm.opn {lo hi:Nat} {w:World} {v:Value} {m:Pm} (h:InPm lo hi w v m):∃(o:Option Addr) (c:Nat) (a:Option Addr) (b:Nat),v=plv m.key (.slice o m.l.length c) (.slice a m.ring.length b):=h.ri.opn
def Q3q (m:Pm):Prop:=m.l.length≤1048576∧m.ring.length≤1048576∧szR m.ring≤1048576∧(∀i,i < m.ring.length→(m.ring.getD i []).length≤1048576)∧∀i,i < m.ring.length→∀j,j < (m.ring.getD i []).length→((m.ring.getD i []).getD j []).length≤1048576
def Q3y (m1 m2:Pm):Bool:=decide (m1.key=m2.key) && decide (m1.l=m2.l) && Q1z m1.ring m2.ring
theorem Q6G (F L:Value) (d c:Pm) (w:World) (h1:Q86 w.heap.size w F d) (h2:Q86 w.heap.size w L c) (J:Q3q d) (M:Q3q c):
  Calls Tryz.prog 86 #[F,L] w fun e w'=> e=.returned (.bool (Q3y d c))∧Below w.heap.size w w':=by
 obtain ⟨aa,ad,rfl,A,H⟩:=h1;obtain ⟨ac,ab,rfl,v,I⟩:=h2;obtain ⟨P,V,rfl,k1⟩:=A.open;obtain ⟨T,c2,rfl,k2⟩:=v.open;obtain ⟨C,z,rfl⟩:=RiR.len H;obtain ⟨s,u,rfl⟩:=RiR.len I;obtain ⟨f1,f2,f3,X,f5⟩:=J;obtain ⟨g1,g2,g3,U,Y⟩:=M;have b:=Q01 (show Q3y d c=(decide (d.key=c.key) && decide (d.l=c.l) && Q1z d.ring c.ring) from rfl);obtain ⟨p1,r⟩:∃x,d.key=x:=⟨_,rfl⟩;obtain ⟨p2,q⟩:∃x,c.key=x:=⟨_,rfl⟩;obtain ⟨b1,h⟩:∃x,d.l.length=x:=⟨_,rfl⟩;obtain ⟨O,j⟩:∃x,c.l.length=x:=⟨_,rfl⟩;obtain ⟨R,i⟩:∃x,d.ring.length=x:=⟨_,rfl⟩
 obtain ⟨Z,p⟩:∃x,c.ring.length=x:=⟨_,rfl⟩;have y:=Q01 (fun W (a:Below w.heap.size w W)=> Qbc P T b1 O V c2 d.l c.l W h.symm j.symm ((k1.kept a (Kaq _)).le a.size) ((k2.kept a (Kaq _)).le a.size) f1 g1);have N:=Q01 (fun W (a:Below w.heap.size w W)=> QdM C s R Z z u d.ring c.ring W i.symm p.symm (by rw [←i];exact RiR.mon.go (RiR.stp.go H (Stp.of (lo:=0) (hi:=0) a) (.inl (Kcq _))) (Kaq _) a.size) (by rw [←p];exact RiR.mon.go (RiR.stp.go I (Stp.of (lo:=0) (hi:=0) a) (.inl (Kcq _))) (Kaq _) a.size) (by rw [←i];exact f2) X f5 U Y)
 rw [r,q,h,j,i,p];rw [r,q] at b;clear H I k1 k2 A v X f5 U Y r q h j i p;obtain ⟨W0,f⟩:∃W,((w.alloc (.cells #[.int .i64 p1,.slice P b1 V,.slice C R z] 29)).alloc (.cells #[.int .i64 p2,.slice T O c2,.slice s Z u] 29))=W:=⟨_,rfl⟩;have g:=alb0v0v2 f;have k:=Q01 g;clear g;have n:=alz0v0v2 f;obtain ⟨D,G,E⟩:=alc3v0v2 f;have m:=alz0v1v2 f;obtain ⟨u0,u1,u2⟩:=alc3v1v2 f
 by_cases hk:p1=p2
 ·subst hk
  rw [decide_eq_true rfl,Bool.true_and] at b;obtain ⟨t1,B⟩:∃t,decide (d.l=c.l)=t:=⟨_,rfl⟩;rw [B] at b y;clear B;go_enter Tryz.func86,Tryz.ntmps86;go_wp2_with fail;refine (y.out W0 k.out).mono ?_;rintro e F ⟨rfl,a⟩;replace D:=bC a D n;replace G:=bC a G n;replace E:=bC a E n;replace n:=Kbq n a.size;replace u0:=bC a u0 m;replace u1:=bC a u1 m;replace u2:=bC a u2 m;replace m:=Kbq m a.size;replace k:=Q01 (k.out.trans (a.mono k.out.size));clear a
  cases t1 with
  |false=>
   go_wp2;go_ret;exact ⟨Q0d (by rw [b.out];rfl),k.out⟩
  |true=>
   go_wp2_with fail;refine (N.out F k.out).mono ?_;rintro e L ⟨rfl,a⟩;replace D:=bC a D n;replace G:=bC a G n;replace E:=bC a E n;replace n:=Kbq n a.size;replace u0:=bC a u0 m;replace u1:=bC a u1 m;replace u2:=bC a u2 m;replace m:=Kbq m a.size;replace k:=Q01 (k.out.trans (a.mono k.out.size));clear a;go_wp2;go_ret;exact ⟨Q0d (by rw [b.out];rfl),k.out⟩
 ·rw [decide_eq_false hk] at b
  go_enter Tryz.func86,Tryz.ntmps86;go_wp2;go_ret;exact ⟨Q0d (by rw [b.out];rfl),k.out⟩
structure Bm where
 j:Jm
 p:Pm
 t:List Sl
abbrev Q13 (kj:Int) (vl:Value) (sf kp:Int) (vb vr vt:Value):Value:=.agg #[.int .i64 kj,vl,.int .i64 sf,.int .i64 kp,vb,vr,vt]
def RdBm (C:Nat) (w:World) (v:Value) (m:Bm):Prop:=∃vl vb vr vt,v=Q13 m.j.key vl m.j.safe m.p.key vb vr vt∧RdJm C w (jrn m.j.key vl m.j.safe) m.j∧Q86 C w (plv m.p.key vb vr) m.p∧RdT C w (tab vt) m.t
def InBm (lo hi:Nat) (w:World) (v:Value) (m:Bm):Prop:=∃vl vb vr vt j0 j1 p0 p1 t0 t1,v=Q13 m.j.key vl m.j.safe m.p.key vb vr vt∧(lo≤j0∧j1≤hi∧lo≤p0∧p1≤hi∧lo≤t0∧t1≤hi∧(j1≤p0∨p1≤j0)∧(j1≤t0∨t1≤j0)∧(p1≤t0∨t1≤p0))∧InJm j0 j1 w (jrn m.j.key vl m.j.safe) m.j∧InPm p0 p1 w (plv m.p.key vb vr) m.p∧InTb t0 t1 w (tab vt) m.t
theorem InBm.asc {lo hi a b:Nat} {w:World} {m:Bm} {g d c f:Value} (k:lo≤a) (l:a≤b) (n:b≤hi) (i:InJm lo a w (jrn m.j.key g m.j.safe) m.j) (h2:InPm a b w (plv m.p.key d c) m.p) (h:InTb b hi w (tab f) m.t):InBm lo hi w (Q13 m.j.key g m.j.safe m.p.key d c f) m:=
 ⟨g,d,c,f,lo,a,a,b,b,hi,rfl,by omega,i,h2,h⟩
theorem InBm.rd {lo hi:Nat} {w:World} {v:Value} {m:Bm} (h:InBm lo hi w v m):RdBm hi w v m:=by
 obtain ⟨c,b,a,f,l,q,i,n,j,p,e,k,g,h2,d⟩:=h;exact ⟨c,b,a,f,e,g.rd.le (by omega),h2.rd.le (by omega),d.rd.le (by omega)⟩
theorem InBm.step {x y lo hi:Nat} {w a:World} {v:Value} {m:Bm} (h:InBm x y w v m) (s:Stp lo hi w a) (t:hi≤x∨y≤lo):InBm x y a v m:=by
 obtain ⟨g,d,b,q,i,p,c,j,f,n,e,k,r,h2,l⟩:=h;exact ⟨g,d,b,q,i,p,c,j,f,n,e,k,r.step s (by omega),h2.step s (by omega),l.step s (by omega)⟩
theorem RdBm.opn {C:Nat} {w:World} {v:Value} {m:Bm} (h:RdBm C w v m):∃(o:Option Addr) (c:Nat) (q:Option Addr) (d:Nat) (f:Option Addr) (i:Nat) (r:Option Addr) (g:Nat),v=Q13 m.j.key (.slice o m.j.l.length c) m.j.safe m.p.key (.slice q m.p.l.length d) (.slice f m.p.ring.length i) (.slice r m.t.length g):=by
 obtain ⟨D,B,A,E,e,⟨y,s,o,c,n,_⟩,h2,⟨z,x,r,g,k,_⟩⟩:=h;obtain ⟨q,d,f,i,u⟩:=h2.opn;simp only [Value.agg.injEq,Array.mk.injEq,List.cons.injEq,and_true,true_and] at s u x;obtain ⟨b,a⟩:=u;subst s n x k b a;exact ⟨o,c,q,d,f,i,r,g,e⟩
def fitBm (m:Bm):Prop:=m.j.l.length≤100000∧Q3q m.p∧m.t.length≤1048576
def Q6L (m:Bm):Prop:=m.j.l.length≤1048576∧Q3q m.p∧m.t.length≤1048576
theorem fitBm.b0 {m:Bm} (h:fitBm m):Q6L m:=⟨by have:=h.1;omega,h.2.1,h.2.2⟩
theorem QfR (key:Int) (o:Option Addr) (cap:Nat) (l:List Bk) (f:Option Addr) (d h:Nat) (k i g:Int) (w:World) (E:Q0e l=true) (hm:doL l k i g=none) (q:l.length≤100) (s:RdK w.heap.size w o l):
  Calls Tryz.prog 95 #[plv key (.slice o l.length cap) (.slice f d h),cmd k i g] w fun e z=> e=.returned (.tuple #[plv key (.slice o l.length cap) (.slice f d h),.bool false])∧Below w.heap.size w z:=by
 have c:Q0z l i=(k==0):=by
  unfold doL at hm
  split at hm
  ·assumption
  ·cases hm
 obtain ⟨D,a⟩:∃W,(((w.alloc (.cells #[.int .i64 key,.slice o l.length cap,.slice f d h] 29)).alloc (.cells #[.int .i64 k,.int .i64 i,.int .i64 g] 77)).alloc (.cells #[.int .i64 0,.slice none 0 0,.slice none 0 0] 29))=W:=⟨_,rfl⟩;have b:=alb0v0v3 a;have m:=Q01 b;clear b;have J:=alz0v0v3 a;obtain ⟨H,L,I⟩:=alc3v0v3 a;have G:=alz0v1v3 a;obtain ⟨u0,u1,u2⟩:=alc3v1v3 a;have M:=alz0v2v3 a;obtain ⟨u,r,t⟩:=alc3v2v3 a;obtain ⟨B,C,y⟩:=alf3v2v3 a;have j:=Q01 (Q6l o cap l i D ((s.kept m.out (Kaq _)).le m.out.size) (by omega) E);clear s hm
 by_cases h0:k=0
 ·subst h0
  have x:Q0z l i=true:=c;rw [QcK x] at j
  have A:(0:Int)≤(Q0j l i:Int):=by omega
  clear c x;generalize Q0j l i=pl at *;go_enter Tryz.func95,Tryz.ntmps95;go_wp2_with fail;refine j.out.mono ?_;rintro e F ⟨rfl,rfl⟩;go_wp2;refine bodyPost_ret (v:=.tuple #[plv key (.slice o l.length cap) (.slice f d h),.bool false]) (by simp [results,Tryz.results95,go_sem,u,r,t]) rfl ⟨rfl, ?_⟩;exact ((m.out.setCell (p:=⟨w.heap.size+1+1,0,none⟩) (by (try simp) <;> omega) _).setCell (p:=⟨w.heap.size+1+1,1,none⟩) (by (try simp) <;> omega) _).setCell (p:=⟨w.heap.size+1+1,2,none⟩) (by (try simp) <;> omega) _
 ·have n:(k==0)=false:=beq_eq_false_iff_ne.2 h0
  rw [n] at c;rw [QdS c] at j;clear c;go_enter Tryz.func95,Tryz.ntmps95;go_wp2_with fail;refine j.out.mono ?_;rintro e F ⟨rfl,rfl⟩;go_wp2;refine bodyPost_ret (v:=.tuple #[plv key (.slice o l.length cap) (.slice f d h),.bool false]) (by simp [results,Tryz.results95,go_sem,u,r,t]) rfl ⟨rfl, ?_⟩;exact ((m.out.setCell (p:=⟨w.heap.size+1+1,0,none⟩) (by (try simp) <;> omega) _).setCell (p:=⟨w.heap.size+1+1,1,none⟩) (by (try simp) <;> omega) _).setCell (p:=⟨w.heap.size+1+1,2,none⟩) (by (try simp) <;> omega) _
theorem Q98 (key:Int) (o:Option Addr) (cap:Nat) (l:List Bk) (n:Option Addr) (s:Nat) (a:List Hd) (k i g:Int) (m:List Bk) (w:World) (B:Q1P key=true) (z:Q0e l=true) (C:Q0J k i g=true) (hm:doL l k i g=some m) (c:l.length≤100) (A:RdK w.heap.size w o l) (x:RdL Q0H w.heap.size w n a) (q:n=none→s=0) (f:a.length≤3):
  Calls Tryz.prog 95 #[plv key (.slice o l.length cap) (.slice n a.length s),cmd k i g] w fun e r=> ∃y c2 d u j t v p,e=.returned (.tuple #[plv key (.slice y m.length c2) (.slice d u j),.bool true])∧u=(((t,8,v)::a).take 3).length∧Q1w r w.heap.size (.slice y m.length c2) m∧ownL Q0H 51 r w.heap.size (.slice d u j) (((t,8,v)::a).take 3)∧ownL Q0H 47 r w.heap.size (.slice t 8 v) p∧Tab (fun b=> Q19 key b m) 8 r w.heap.size p∧Below w.heap.size w r:=by
 by_cases h0:k=0
 ·subst h0
  exact (Qgr key o cap l n s a i g m w B z C hm c A x q f).mono (fun _ _ h=> h)
 ·exact (QeT key o cap l n s a k i g (Q0j l i) m w B z C hm c A x q f h0 (beq_eq_false_iff_ne.2 h0) rfl).mono (fun _ _ h=> h)
theorem QaZ (key:Int) (w:World) (I:Q1P key=true):
  Calls Tryz.prog 93 #[.int .i64 key] w fun e D=> ∃g,e=.returned (plv key (.slice none 0 0) (.slice (some ⟨g,0,none⟩) 1 1))∧RingO D w.heap.size (.slice (some ⟨g,0,none⟩) 1 1) (fun b=> Q19 key b []) []∧Below w.heap.size w D:=by
 obtain ⟨M,h⟩:∃W,(w.alloc (.cells #[.int .i64 0,.slice none 0 0,.slice none 0 0] 29))=W:=⟨_,rfl⟩;have d:=alb0v0v1 h;have t:=Q01 d;clear d;have c:=alz0v0v1 h;obtain ⟨u,m,n⟩:=alc3v0v1 h;obtain ⟨k,j,i⟩:=alf3v0v1 h;have G:=c;have N:=Q01 (Q1L key none 0 [] M (.inl rfl) (by simp) I rfl);go_enter Tryz.func93,Tryz.ntmps93;go_wp2_with fail;refine (N.out).mono ?_;rintro e l ⟨x,y,z,rfl,s,r,f⟩;have H:=f.size;have F:=Q01 (And.intro s r);clear s r;replace u:=bC f u c;replace m:=bC f m c;replace n:=bC f n c;replace k:=bF f k c
 replace j:=bF f j c;replace i:=bF f i c;replace c:=Kbq c f.size;replace t:=Q01 (t.out.trans (f.mono t.out.size));clear f
 have O:l.heap.size+1=(l.alloc (.cells #[.slice x 8 y] 51)).heap.size:=by simp
 have J:l.heap.size≠w.heap.size:=by omega
 have E:w.heap.size≠l.heap.size:=by omega
 obtain ⟨C,q⟩:∃W,l.alloc (.cells #[.slice x 8 y] 51)=W:=⟨_,rfl⟩;have a:=alb0v0v1 q;have A:Hid (RingO C (w.heap.size+1) (.slice (some ⟨l.heap.size,0,none⟩) 1 1) (fun b=> Q19 key b []) []):=⟨x,y,z,by rw [←q];exact Q04 (Q4o l x 8 y _) (by omega),Q04 (Q03 F.out.1 a) (by omega),Tab.mono (F.out.2.kept a) (by omega)⟩;have L:=a.size;replace u:=bC a u c;replace m:=bC a m c;replace n:=bC a n c;replace k:=bF a k c;replace j:=bF a j c;replace i:=bF a i c;have B:Hid (Below w.heap.size w C):=t.out.trans (a.mono t.out.size);go_wp2
 refine bodyPost_ret (v:=plv key (.slice none 0 0) (.slice (some ⟨l.heap.size,0,none⟩) 1 1)) (by simp [results,Tryz.results93,go_sem,u,m,n]) rfl ⟨l.heap.size,rfl, ?_, ?_⟩
 ·exact RingO.mono (((A.out.low (Nat.lt_succ_self _) 0 _).low (Nat.lt_succ_self _) 1 _).low (Nat.lt_succ_self _) 2 _) (Nat.le_succ _)
 ·exact ((B.out.setCell (p:=⟨w.heap.size,0,none⟩) (by (try simp) <;> omega) _).setCell (p:=⟨w.heap.size,1,none⟩) (by (try simp) <;> omega) _).setCell (p:=⟨w.heap.size,2,none⟩) (by (try simp) <;> omega) _
structure PBox (w:World) (base B:Nat) (key:Int) (l:List Bk) (hs:List Hd) (o:Option Addr) (c:Nat) (oR:Option Addr) (cR:Nat):Prop where
 box:w.heap[B]? =some (.cells #[.int .i64 key,.slice o l.length c,.slice oR hs.length cR] 29 (0,0))
 backs:Q1w w base (.slice o l.length c) l
 ring:ownL Q0H 51 w base (.slice oR hs.length cR) hs
theorem PBox.set {w:World} {base B:Nat} {key:Int} {l:List Bk} {hs:List Hd} {o a:Option Addr} {c n b:Nat} {z:Array Value} (f:w.heap[B]? =some (.cells z 29 (0,0))) (j:z.size=3) (k:Q1w w base (.slice o l.length c) l) (h2:ownL Q0H 51 w base (.slice a n b) hs) (h:n=hs.length):PBox (setP w B (.int .i64 key) (.slice o l.length c) (.slice a n b)) base B key l hs o c a b:=by
 subst h;have g:=Q06 f 0 (.int .i64 key);have d:=Q06 g 1 (.slice o l.length c);have i:=Q06 d 2 (.slice a hs.length b);refine ⟨?_,Q0q (Q0q (Q0q k f Q87 0 _) g Q87 1 _) d Q87 2 _,Q0q (Q0q (Q0q h2 f Q9V 0 _) g Q9V 1 _) d Q9V 2 _⟩;rw [i]
 match z,j with
 |⟨[x,y,u]⟩,_=> rfl
theorem Qjn {w:World} {base:Nat} {o:Option Addr} {n c:Nat} {hs:List Hd} (h:ownL Q0H 51 w base (.slice o n c) hs):o=none→c=0:=fun e=> (InRow.cap (InRow.of h)) n c (by rw [e])
theorem Q0E {C:Nat} {w W:World} {B:Nat} (h:Below C w W) (hB:C≤B) (x y z:Value):Below C w (setP W B x y z):=((h.setCell (p:=⟨B,0,none⟩) hB _).setCell (p:=⟨B,1,none⟩) hB _).setCell (p:=⟨B,2,none⟩) hB _
def PTabs (w:World) (base:Nat) (key:Int) (hs:List Hd) (R:List (List Bk)):Prop:=hs.length=R.length∧∀i,i < R.length→∃o3 c3 hs8,hs.getD i (none,0,0)=(o3,8,c3)∧ownL Q0H 47 w base (.slice o3 8 c3) hs8∧Tab (fun b=> Q19 key b (R.getD i [])) 8 w base hs8
theorem PTabs.kept {w c:World} {base:Nat} {key:Int} {hs:List Hd} {R:List (List Bk)} (h:PTabs w base key hs R) (b:Below w.heap.size w c):PTabs c base key hs R:=
 ⟨h.1,fun i hi=> by obtain ⟨d,f,a,e,g,h2⟩:=h.2 i hi;exact ⟨d,f,a,e,Q03 g b,h2.kept b⟩⟩
theorem PTabs.putB {w:World} {base:Nat} {key:Int} {hs:List Hd} {R:List (List Bk)} {B:Nat} {c:Array Value} (h:PTabs w base key hs R) (b:w.heap[B]? =some (.cells c 29 (0,0))) (j:Nat) (u:Value):PTabs (w.setCell ⟨B,j,none⟩ u) base key hs R:=
 ⟨h.1,fun i hi=> by obtain ⟨d,g,a,e,k,h2⟩:=h.2 i hi;exact ⟨d,g,a,e,Q0q k b QiX j u,h2.grown (Q0I w B j u) (fun q f=> Q1Y (h2.row q f) b Qjg)⟩⟩
theorem PTabs.setP {w:World} {base:Nat} {key:Int} {hs:List Hd} {R:List (List Bk)} {B:Nat} {c:Array Value} (h:PTabs w base key hs R) (a:w.heap[B]? =some (.cells c 29 (0,0))) (x y z:Value):PTabs (Go.Proofs.YtpneolgdghbinaaGreat.setP w B x y z) base key hs R:=
 ((h.putB a 0 x).putB (Q06 a 0 x) 1 y).putB (Q06 (Q06 a 0 x) 1 y) 2 z
theorem PTabs.low {w:World} {base:Nat} {key:Int} {hs:List Hd} {R:List (List Bk)} {B:Nat} (h:PTabs w base key hs R) (c:B < base) (j:Nat) (u:Value):PTabs (w.setCell ⟨B,j,none⟩ u) base key hs R:=
 ⟨h.1,fun i hi=> by
  obtain ⟨d,g,a,e,k,h2⟩:=h.2 i hi;refine ⟨d,g,a,e,Q0o k c j u,h2.grown (Q0I w B j u) (fun q f=> ?_)⟩
  cases hob:(hv a q).ownBlock with
  |none=> exact .inl rfl
  |some b=> exact .inr (fun e=> by have:=((h2.row q f).lt b hob).1;injection e with e;omega)⟩
theorem PTabs.mono {w:World} {base b:Nat} {key:Int} {hs:List Hd} {R:List (List Bk)} (h:PTabs w base key hs R) (c:b≤base):PTabs w b key hs R:=
 ⟨h.1,fun i hi=> by obtain ⟨d,f,a,e,g,h2⟩:=h.2 i hi;exact ⟨d,f,a,e,Q04 g c,Tab.mono h2 c⟩⟩
theorem PTabs.cons {w:World} {base:Nat} {key:Int} {hs a:List Hd} {R:List (List Bk)} {m:List Bk} {c:Option Addr} {d:Nat} (h:PTabs w base key hs R) (f:ownL Q0H 47 w base (.slice c 8 d) a) (h2:Tab (fun b=> Q19 key b m) 8 w base a):PTabs w base key ((c,8,d)::hs) (m::R):=
 ⟨by simp [h.1],fun i hi=> by
  cases i with
  |zero=> exact ⟨c,d,a,rfl,f,h2⟩
  |succ i=> simpa using h.2 i (by simpa using hi)⟩
theorem PTabs.take {w:World} {base:Nat} {key:Int} {hs:List Hd} {R:List (List Bk)} (n:Nat) (h:PTabs w base key hs R):PTabs w base key (hs.take n) (R.take n):=
 ⟨by simp [h.1],fun i hi=> by
  have a:i < n:=by simp at hi;omega
  have h2:i < R.length:=by simp at hi;omega
  have b:(hs.take n).getD i (none,0,0)=hs.getD i (none,0,0):=by simp [List.getD_eq_getElem?_getD,List.getElem?_take,a]
  have c:(R.take n).getD i []=R.getD i []:=by simp [List.getD_eq_getElem?_getD,List.getElem?_take,a]
  rw [b,c];exact h.2 i h2⟩
theorem Qdq {w x:World} {base d:Nat} {key:Int} {hs a:List Hd} {R:List (List Bk)} {m:List Bk} {g:Option Addr} {f:Nat} (h:PTabs w base key hs R) (i:Below w.heap.size w x) (j:ownL Q0H 47 x d (.slice g 8 f) a) (h2:Tab (fun b=> Q19 key b m) 8 x d a) (c:base≤d):PTabs x base key (((g,8,f)::hs).take 3) ((m::R).take 3):=
 ((h.kept i).cons (Q04 j c) (Tab.mono h2 c)).take 3
def Q1u (cs:List Cd):Nat→List (List Bk)
 |0=> [[]]
 |t+1=> (Q0k cs (t+1)::Q1u cs t).take 3
theorem Q5U {cs:List Cd} {t:Nat} (h:(Q1n cs cs.length).isSome=true) (ht:t≤cs.length):∃l,Q1n cs t=some l:=by
 cases hr:Q1n cs t with
 |some l=> exact ⟨l,rfl⟩
 |none=> rw [Q8G hr ht] at h;cases h
theorem Qdt {cs:List Cd} {t:Nat} {l:List Bk} (h:(Q1n cs cs.length).isSome=true) (b:t < cs.length) (a:Q1n cs t=some l):∃m,Q0J (cs.getD t (0,0,0)).1 (cs.getD t (0,0,0)).2.1 (cs.getD t (0,0,0)).2.2=true∧doL l (cs.getD t (0,0,0)).1 (cs.getD t (0,0,0)).2.1 (cs.getD t (0,0,0)).2.2=some m∧Q1n cs (t+1)=some m:=by
 obtain ⟨m,hm⟩:=Q5U h (show t+1≤cs.length by omega);have hs:=Q3P b;rw [hm,a] at hs;simp only [Q6M,Option.bind_some] at hs
 split at hs
 ·next c=> exact ⟨m,c,hs.symm,hm⟩
 ·cases hs
theorem Q7C (key:Int) (b off cap:Nat) (cs:List Cd) (w:World) (B:cs.length≠0→b < w.heap.size) (U:∀i,i < cs.length→∀j,j < Q4j.k→w.cell? ⟨b,off+i * Q4j.k+j,none⟩=(Q4j.cs (cs.getD i Q4j.d))[j]?) (hk:Q1P key=true) (hl:cs.length≤100) (ad:(Q1n cs cs.length).isSome=true) (ob:Option Addr) (Y:cs.length≠0→ob=some ⟨b,off,none⟩):
  Calls Tryz.prog 43 #[.int .i64 key,.slice ob cs.length cap] w fun e w'=> ∃o c O P hs,e=.returned (plv key (.slice o (Q0k cs cs.length).length c) (.slice O hs.length P))∧Q1w w' w.heap.size (.slice o (Q0k cs cs.length).length c) (Q0k cs cs.length)∧ownL Q0H 51 w' w.heap.size (.slice O hs.length P) hs∧PTabs w' w.heap.size key hs (Q1u cs cs.length)∧hs.length≤3∧Below w.heap.size w w':=by
 have HC:=Q01 U;have aS:=Q01 Y;have aG:=Q01 B;have HN:=Q01 hl;have av:=Q01 ad;clear U Y B ad;obtain ⟨X,V⟩:∃W,(w.alloc (.cells #[.int .i64 0,.slice none 0 0,.slice none 0 0] 29))=W:=⟨_,rfl⟩;have M:=alb0v0v1 V;have HB:=Q01 M;clear M;have h:=alz0v0v1 V;obtain ⟨r0,r1,r2⟩:=alc3v0v1 V;obtain ⟨F,E,H⟩:=alf3v0v1 V;have q:=h;have HL:=Q01 (QaZ key X hk);go_enter Tryz.func43,Tryz.ntmps43;go_wp2_with fail;refine (HL.out).mono ?_;rintro e f ⟨gR,rfl,J,s⟩;have aq:=Q01 J;have aZ:=s.size;clear J;replace r0:=bC s r0 h
 replace r1:=bC s r1 h;replace r2:=bC s r2 h;replace F:=bF s F h;replace E:=bF s E h;replace H:=bF s H h;replace h:=Kbq h s.size;replace HB:=Q01 (HB.out.trans (s.mono HB.out.size));clear s;have aH:=r0;have aK:=r1;have aU:=r2;have aL:=F;have aI:=E;have aF:=H;have I:=h;have ai:=HB;obtain ⟨W1,A⟩:∃W,(f.alloc (.cells #[.int .i64 key,.slice none 0 0,.slice (some ⟨gR,0,none⟩) 1 1] 29))=W:=⟨_,rfl⟩;have a:=alb0v0v1 A;replace r0:=bC a r0 h;replace r1:=bC a r1 h;replace r2:=bC a r2 h;replace F:=bF a F h
 replace E:=bF a E h;replace H:=bF a H h;replace h:=Kbq h a.size;replace HB:=Q01 (HB.out.trans (a.mono HB.out.size));clear a;have zp:=alz0v0v1 A;obtain ⟨p0,p1,p2⟩:=alc3v0v1 A;obtain ⟨o3,c3,an,ay,au,aD⟩:=aq.out;have aj:=alb0v0v1 A;have HP:Hid (PBox W1 X.heap.size f.heap.size key [] [(o3,8,c3)] none 0 (some ⟨gR,0,none⟩) 1):=⟨by rw [←A];exact World.alloc_heap_new f _,World.ownsRow_nil _ _ _ _,Q03 ay aj⟩
 have aC:Hid (PTabs W1 X.heap.size key [(o3,8,c3)] (Q1u cs 0)):=(PTabs.cons (R:=[]) (hs:=[]) ⟨rfl,fun i hi=> absurd hi (Nat.not_lt_zero _)⟩ au aD).kept aj;clear ay au aD aq aj;go_wp2
 go_loopw [6] (fun iv wr=> ∃(t:Nat) (l:List Bk) (hs:List Hd) (o:Option Addr) (c:Nat) (O:Option Addr) (P:Nat),t≤cs.length∧iv=.int .i64 (t:Int)∧Hid (PBox wr X.heap.size f.heap.size key l hs o c O P)∧Hid (PTabs wr X.heap.size key hs (Q1u cs t))∧Hid (Q1n cs t=some l)∧Hid (hs.length≤3)∧Hid (Below f.heap.size f wr))
  (fun iv _=> cs.length - (intOf iv).toNat)
 case atStart=> exact ⟨0,[],_,_,_,_,_,Kcq _,rfl,HP.out,aC.out,rfl,(Nat.le_of_ble_eq_true rfl),by rw [←A];exact (Below.refl _ _).alloc (Kaq _) _⟩
 case round=>
  obtain ⟨t,l,hs,o,c,O,P,a8,rfl,g,ac,af,ap,n⟩:=hrel;have aN:=n.out.size;clear r0 r1 r2 F E H h p0 p1 p2 zp V A HP aC HB;have T:Hid (Below w.heap.size w wr):=ai.out.trans (n.out.mono ai.out.size);have aV:f.heap.size < wr.heap.size:=(Array.getElem?_eq_some_iff.1 g.out.box).1
  by_cases hlt:t < cs.length
  ·skip
   have aW:(t:Int) < (cs.length:Int):=by omega
   have a9:(0:Int)≤(t:Int):=by omega
   have Y:=aS.out (by omega);have B:=aG.out (by omega);subst Y;obtain ⟨aO,a4⟩:=Q5t t l (by omega) af.out;obtain ⟨m,hc,aa,ah⟩:=Qdt av.out hlt af.out;obtain ⟨c0,c1,c2⟩:=RdL.cmd (C:=w.heap.size) HC.out t hlt;replace c0:=(T.out.cell (p:=⟨b,off+t * 3,none⟩) B).trans c0;replace c1:=(T.out.cell (p:=⟨b,off+t * 3+1,none⟩) B).trans c1;replace c2:=(T.out.cell (p:=⟨b,off+t * 3+2,none⟩) B).trans c2;obtain ⟨x,y,u,ab⟩:∃x y u,cs.getD t (0,0,0)=(x,y,u):=⟨_,_,_,rfl⟩;rw [ab] at c0 c1 c2 hc aa;dsimp only at c0 c1 c2 hc aa;clear ab;have aM:=Q01 ah
   have aJ:=Q01 (show Q1u cs (t+1)=(m::Q1u cs t).take 3 by rw [Q1u];unfold Q0k;rw [ah];rfl);clear ah;have an:=ap.out
   have ak:b < wr.heap.size:=by have:=T.out.size;omega
   have ae:b < f.heap.size:=by have:=ai.out.size;omega
   have aE:=Q01 (ownL.rds (L:=Q1d) g.out.backs);have ar:=Q01 (ownL.rds (L:=Q0H) g.out.ring);have am:=Qjn g.out.ring;have HY:=Q01 (fun W (s:Below wr.heap.size wr W)=> Q98 key o c l O P hs x y u m W hk aO hc aa (by have:=HN.out;omega) ((aE.out.kept s (Kaq _)).le s.size) ((ar.out.kept s (Kaq _)).le s.size) am an);clear hc aa am aE ar;have p0:wr.cell? ⟨f.heap.size,0,none⟩=some (.int .i64 key):=Q00 g.out.box 0 _ rfl;have p1:wr.cell? ⟨f.heap.size,1,none⟩=some (.slice o l.length c):=Q00 g.out.box 1 _ rfl
   have p2:wr.cell? ⟨f.heap.size,2,none⟩=some (.slice O hs.length P):=Q00 g.out.box 2 _ rfl
   have aX:X.heap.size≤wr.heap.size:=by omega
   go_wp2
   go_region_with (first|(go_at_call 95;have az:=HY.out wr.drew (Below.drew (Below.refl _ _));with_reducible refine az.mono ?_;clear az;rintro e x0 ⟨o2,d2,D,n2,G,o3,d3,aY,rfl,ao,Z,N,aB,aA,s⟩;have z:Below wr.heap.size wr x0:=Below.trans (show Below wr.heap.size wr wr.drew from Below.drew (Below.refl _ _)) (s.mono (by simp));have a0:=z.size;have Z:=Q04 Z (show X.heap.size≤_ by (try simp) <;> omega);have N:=Q04 N (show X.heap.size≤_ by (try simp) <;> omega);have pt:=Qdq ac.out z aB aA (show X.heap.size≤_ by (try simp) <;> omega);rw [←aJ.out] at pt;have ag:=List.length_take_le 3 ((o3,8,d3)::hs);generalize List.take 3 ((o3,8,d3)::hs)=hs2 at ao N ag pt;subst ao;have k0:=bC z c0 ak;have k1:=bC z c1 ak;have k2:=bC z c2 ak;have r:=(z.block f.heap.size aV).trans g.out.box;have bb:x0.cell? ⟨f.heap.size,0,none⟩=some (.int .i64 key):=Q00 r 0 _ rfl;have a5:=Q02 r 0;have bc:x0.cell? ⟨f.heap.size,1,none⟩=some (.slice o l.length c):=Q00 r 1 _ rfl;have ba:=Q02 r 1;have a7:x0.cell? ⟨f.heap.size,2,none⟩=some (.slice O hs.length P):=Q00 r 2 _ rfl;have a6:=Q02 r 2;have s0:(((x0.setCell ⟨f.heap.size,0,none⟩ (.int .i64 key)).setCell ⟨f.heap.size,1,none⟩ (.slice o2 m.length d2)).setCell ⟨f.heap.size,2,none⟩ (.slice D hs2.length G)).cell? ⟨b,off+t * 3,none⟩=some (.int .i64 x):=Q0a k0 ae;have s1:(((x0.setCell ⟨f.heap.size,0,none⟩ (.int .i64 key)).setCell ⟨f.heap.size,1,none⟩ (.slice o2 m.length d2)).setCell ⟨f.heap.size,2,none⟩ (.slice D hs2.length G)).cell? ⟨b,off+t * 3+1,none⟩=some (.int .i64 y):=Q0a k1 ae;have s2:(((x0.setCell ⟨f.heap.size,0,none⟩ (.int .i64 key)).setCell ⟨f.heap.size,1,none⟩ (.slice o2 m.length d2)).setCell ⟨f.heap.size,2,none⟩ (.slice D hs2.length G)).cell? ⟨b,off+t * 3+2,none⟩=some (.int .i64 u):=Q0a k2 ae;have aT:=Q01 (PBox.set (key:=key) r rfl Z N rfl);have ax:=Q01 (PTabs.setP pt r (.int .i64 key) (.slice o2 m.length d2) (.slice D hs2.length G));have aP:=Q01 ag;have aQ:=Q01 z;clear s Z N aB aA pt ag z r))
   all_goals (have aR:=Q01 (Q0E (n.out.trans (aQ.out.mono aN)) (Kaq _) (.int .i64 key) (.slice o2 m.length d2) (.slice D hs2.length G));go_wp2;go_roundw;(case rel=> exact ⟨t+1,m,hs2,o2,d2,D,G,by omega,by go_num,aT.out,ax.out,aM.out,aP.out,aR.out⟩);(case measure=> (simp [intOf];omega)))
  ·have e:t=cs.length:=by omega
   subst e
   have a1:¬((cs.length:Int) < (cs.length:Int)):=by omega
   have al:Q0k cs cs.length=l:=by unfold Q0k;rw [af.out];rfl
   have aw:=Q01 al;clear al;have p0:wr.cell? ⟨f.heap.size,0,none⟩=some (.int .i64 key):=Q00 g.out.box 0 _ rfl;have p1:wr.cell? ⟨f.heap.size,1,none⟩=some (.slice o l.length c):=Q00 g.out.box 1 _ rfl;have p2:wr.cell? ⟨f.heap.size,2,none⟩=some (.slice O hs.length P):=Q00 g.out.box 2 _ rfl;have q0:=bC n.out aH I;have a3:=bF n.out aL I;have q1:=bC n.out aK I;have bd:=bF n.out aI I;have q2:=bC n.out aU I;have a2:=bF n.out aF I;go_wp2
   refine bodyPost_ret (v:=plv key (.slice o l.length c) (.slice O hs.length P)) (by simp [results,Tryz.results43,go_sem,q0,q1,q2]) rfl ⟨o,c,O,P,hs,by rw [aw.out], ?_, ?_, ?_,ap.out,Q0E T.out (Kaq _) _ _ _⟩
   ·rw [aw.out];exact Q04 (Q0o (Q0o (Q0o g.out.backs q 0 _) q 1 _) q 2 _) (by omega)
   ·exact Q04 (Q0o (Q0o (Q0o g.out.ring q 0 _) q 1 _) q 2 _) (by omega)
   ·exact PTabs.mono (((ac.out.low q 0 _).low q 1 _).low q 2 _) (by omega)
theorem QdV {α:Type} {L:Lay α} (w:World) (e:TypeId):ownL L e (w.alloc (.cells #[] e)) w.heap.size (.slice (some ⟨w.heap.size,0,none⟩) 0 0) ([]:List α):=Q3v w e
def jm0:Jm:=⟨0,[],0⟩
theorem Q0X {key:Int} {cs:List Cd} {safe:Int} (h:Q0s key cs safe=true):Q1P key=true∧cs.length≤100∧0≤safe∧safe≤(cs.length:Int):=by
 unfold Q0s at h;simp only [Bool.and_eq_true,decide_eq_true_eq] at h;exact ⟨h.1.1.1.1,h.1.1.1.2,h.1.1.2,h.1.2⟩
theorem Qd1 (key safe:Int) (o:Option Addr) (cap:Nat) (l:List Cd) (n:Nat) (q:n=l.length) (w:World) (R:RdC w.heap.size w o l) (Z:o=none→cap=0) (hl:l.length≤1048576):
  Calls Tryz.prog 169 #[jrn key (.slice o n cap) safe] w fun e w'=> ∃O c2,e=.returned (jrn key (.slice O n c2) safe)∧Qcu w' w.heap.size (.slice O n c2) l∧Below w.heap.size w w':=by
 obtain ⟨c,b⟩:∃W,((w.alloc (.cells #[.int .i64 key,.slice o n cap,.int .i64 safe] 25)).alloc (.cells #[.int .i64 0,.slice none 0 0,.int .i64 0] 25))=W:=⟨_,rfl⟩;have d:=alb0v0v2 b;have H:=Q01 d;clear d;have F:=alz0v0v2 b;obtain ⟨J,X,P⟩:=alc3v0v2 b;have m:=alz0v1v2 b;obtain ⟨r0,r1,r2⟩:=alc3v1v2 b;obtain ⟨D,E,t⟩:=alf3v1v2 b;have HR:=Q01 (R.kept H.out (Kaq _));have r:=Q01 q;have g:=m;clear R q;go_enter Tryz.func169,Tryz.ntmps169;go_wp2
 go_region_held3 (fun w'=> w'.cell? ⟨w.heap.size,0,none⟩=some (.int .i64 key)∧w'.cell? ⟨w.heap.size,1,none⟩=some (.slice o n cap)∧w'.cell? ⟨w.heap.size,2,none⟩=some (.int .i64 safe)) (first|with_reducible exact ⟨M,U,V⟩|with_reducible exact ⟨J,X,P⟩|with_reducible exact ⟨Q0a M (Nat.lt_succ_self _),Q0a U (Nat.lt_succ_self _),Q0a V (Nat.lt_succ_self _)⟩|go_keep) (first|(have f:ownL Q4j 77 (c.alloc (.cells #[] 77)).drew c.heap.size (.slice (some ⟨c.heap.size,0,none⟩) 0 0) ([]:List Cd):=QdV c _;have j:Below c.heap.size c (c.alloc (.cells #[] 77)).drew:=Below.drew ((Below.refl _ _).alloc (Kaq _) _);refine Q0i Qdk rfl _ _ rfl c.heap.size (.slice (some ⟨c.heap.size,0,none⟩) 0 0) ([]:List Cd) rfl f o cap w.heap.size l n r.out rfl Z (HR.out.kept j (by omega)) (by simp;omega) (by (try simp) <;> omega) ?_;intro v8 T i p y;have a:Below c.heap.size c T:=j.grown p (by (try simp) <;> omega) (fun k h=> by simp [Value.ownBlock] at h;omega);have aa:=a.size;obtain ⟨x,G,e8,_⟩:=ownL.open (L:=Q4j) i;subst e8;have u:Hid (Qcu T c.heap.size (.slice x l.length G) l):=i;have M:=bC a J F;have U:=bC a X F;have V:=bC a P F;have z:=bC a r0 m;have B:=bC a r1 m;have A:=bC a r2 m;have N:=bF a D m;have I:=bF a E m;have Y:=bF a t m;have C:=Q01 a;clear i p y f j a))
 go_wp2;have s:=r.out
 skip
 refine bodyPost_ret (v:=jrn key (.slice x l.length G) safe) (by simp [results,Tryz.results169,go_sem,z,B,A]) rfl ⟨x,G,by rw [s], ?_,Q0E (H.out.trans (C.out.mono H.out.size)) (Nat.le_succ _) _ _ _⟩;rw [s];exact Q04 (Q0o (Q0o (Q0o u.out g 0 _) g 1 _) g 2 _) (by omega)
theorem Q1O {w:World} {base s n:Nat} {v:Value} {a:List Value} {B:Nat} {c:Array Value} (h:w.ownsRow base 77 s v n a) (b:w.heap[B]? =some (.cells c 25 (0,0))) (j:Nat) (u:Value):(w.setCell ⟨B,j,none⟩ u).ownsRow base 77 s v n a:=
 World.ownsRow.kept h (Q0I w B j u) (Q1Y h b (by decide))
theorem Qd6 (o:Option Addr) (cap:Nat) (l:List Cd) (n:Nat) (b:n=l.length) (w:World) (f:RdC w.heap.size w o l) (h:o=none→cap=0) (i:l.length≤1048576):
  Calls Tryz.prog 71 #[.slice o n cap] w fun e c=> ∃a c2,e=.returned (.slice a n c2)∧Qcu c w.heap.size (.slice a n c2) l∧Below w.heap.size w c:=by
 subst b;refine (Q9o o cap l w f h i).mono ?_;rintro e c ⟨v,rfl,d,h2⟩;obtain ⟨a,c2,g,_⟩:=ownL.open (L:=Q4j) d;subst g;exact ⟨a,c2,rfl,d,h2⟩
def Q8f (key:Int) (l:List Cd) (k i g:Int):Bool:=(doL (Q0k l l.length) k i g).isSome && !decide (100≤l.length)
def QfF (m:Jm) (k i g:Int):Bool:=Q0s m.key m.l m.safe && Q0J k i g
def Q3G (m:Jm) (k i g:Int):Jm:=if QfF m k i g=true then (if Q8f m.key m.l k i g=true then ⟨m.key,m.l++[(k,i,g)],(m.l.length:Int)+1⟩ else m) else jm0
def Q3z (m:Jm) (k i g:Int):Bool:=QfF m k i g && Q8f m.key m.l k i g
theorem QdT {m:Jm} (k i g:Int) (h:QcZ m):(Q3G m k i g).l.length≤1048576:=by
 unfold Q3G
 split
 ·split
  ·next a b=>
   unfold QfF at a;simp only [Bool.and_eq_true] at a;have:=(Q0X a.1).2.1;simp;omega
  ·exact h
 ·decide
theorem Q9u {w:World} {x y z:Int} {T:TypeId}:RdC (w.alloc (.cells #[.int .i64 x,.int .i64 y,.int .i64 z] T)).heap.size (w.alloc (.cells #[.int .i64 x,.int .i64 y,.int .i64 z] T)) (some ⟨w.heap.size,0,none⟩) [(x,y,z)]:=
 .inr ⟨w.heap.size,0,rfl,by simp,fun i hi j a=> by
  have b:i=0:=by simpa using hi
  subst b
  match j,a with
  |0,_=> simp [Q4j]
  |1,_=> simp [Q4j]
  |2,_=> simp [Q4j]⟩
theorem Q1X {key:Int} {cs:List Cd} {safe:Int} (h:Q0s key cs safe=true):(Q1n cs cs.length).isSome=true:=by
 unfold Q0s at h;simp only [Bool.and_eq_true] at h;exact h.2
theorem Q4r {key:Int} {cs:List Cd} {safe:Int} (h:Q0s key cs safe=true):Q0e (Q0k cs cs.length)=true∧(Q0k cs cs.length).length≤100:=by
 obtain ⟨l,a⟩:=Q5U (Q1X h) (Kaq _);have b:=Q5t cs.length l (Kaq _) a;have h2:=(Q0X h).2.1;unfold Q0k;rw [a];exact ⟨b.1,by simp only [Option.getD_some];omega⟩
theorem Q6B (key:Int) (o:Option Addr) (cap:Nat) (cs:List Cd) (w:World) (g:RdC w.heap.size w o cs) (n:Q1P key=true) (m:cs.length≤100) (a:(Q1n cs cs.length).isSome=true):
  Calls Tryz.prog 43 #[.int .i64 key,.slice o cs.length cap] w fun e f=> ∃o c k l hs,e=.returned (plv key (.slice o (Q0k cs cs.length).length c) (.slice k hs.length l))∧Q1w f w.heap.size (.slice o (Q0k cs cs.length).length c) (Q0k cs cs.length)∧ownL Q0H 51 f w.heap.size (.slice k hs.length l) hs∧PTabs f w.heap.size key hs (Q1u cs cs.length)∧hs.length≤3∧Below w.heap.size w f:=by
 rcases g with g|⟨b,off,rfl,j,d⟩
 ·subst g
  exact Q7C key 0 0 cap [] w (fun h=> absurd rfl h) (fun i hi=> absurd hi (Nat.not_lt_zero _)) n m a o (fun h=> absurd rfl h)
 ·exact Q7C key b off cap cs w (fun _=> j) d n m a _ (fun _=> rfl)
theorem Q4f (key safe:Int) (o:Option Addr) (cap:Nat) (l:List Cd) (w:World) (D:RdC w.heap.size w o l) (I:o=none→cap=0) (J:l.length≤1048576):
  Calls Tryz.prog 87 #[jrn key (.slice o l.length cap) safe] w fun e C=> ∃m c2,e=.returned (jrn key (.slice m l.length c2) safe)∧Qcu C w.heap.size (.slice m l.length c2) l∧Below w.heap.size w C:=by
 obtain ⟨E,b⟩:∃W,((w.alloc (.cells #[.int .i64 key,.slice o l.length cap,.int .i64 safe] 25)).alloc (.cells #[.int .i64 0,.slice none 0 0,.int .i64 0] 25))=W:=⟨_,rfl⟩;have c:=alb0v0v2 b;have h:=Q01 c;clear c;have f:=alz0v0v2 b;obtain ⟨A,F,B⟩:=alc3v0v2 b;obtain ⟨j,k,q⟩:=alf3v0v2 b;have d:=alz0v1v2 b;obtain ⟨z,u,x⟩:=alc3v1v2 b;obtain ⟨r,s,i⟩:=alf3v1v2 b;have g:=d;have y:=Q01 (Qd6 o cap l l.length rfl E ((D.kept h.out (Kaq _)).le h.out.size) I J);clear D;go_enter Tryz.func87,Tryz.ntmps87;go_wp2_with fail;refine (y.out).mono ?_
 rintro e L ⟨m,c2,rfl,n,a⟩;have H:=Q01 n;have G:=a.size;clear n;replace A:=bC a A f;replace F:=bC a F f;replace B:=bC a B f;replace j:=bF a j f;replace k:=bF a k f;replace q:=bF a q f;replace f:=Kbq f a.size;replace z:=bC a z d;replace u:=bC a u d;replace x:=bC a x d;replace r:=bF a r d;replace s:=bF a s d;replace i:=bF a i d;replace d:=Kbq d a.size;replace h:=Q01 (h.out.trans (a.mono h.out.size));clear a
 have t:w.heap.size < E.heap.size:=by omega
 go_wp2;refine bodyPost_ret (v:=jrn key (.slice m l.length c2) safe) (by simp [results,Tryz.results87,go_sem,z,u,x]) rfl ⟨m,c2,rfl,Q04 (Q0o (Q0o (Q0o (Q0o H.out t 1 _) g 0 _) g 1 _) g 2 _) (by omega),Q0E (h.out.setCell (p:=⟨w.heap.size,1,none⟩) (Kaq _) _) (Nat.le_succ _) _ _ _⟩
theorem QbB (v:Value) (m:Jm) (k i g:Int) (w:World) (hR:RdJm w.heap.size w v m) (aw:capJm v) (hf:QcZ m):
  Calls Tryz.prog 124 #[v,cmd k i g] w fun e w'=> ∃v',e=.returned (.tuple #[v',.bool (Q3z m k i g)])∧InJm w.heap.size w'.heap.size w' v' (Q3G m k i g)∧Below w.heap.size w w':=by
 have aM:=hR;obtain ⟨vl,rfl,⟨o,c,rfl,r⟩⟩:=aM;have ar:=aw.one;clear aw;obtain ⟨key,l,safe⟩:=m;dsimp only at *;have T:=Q01 (show Q3G ⟨key,l,safe⟩ k i g=if (Q0s key l safe && Q0J k i g)=true then (if Q8f key l k i g=true then ⟨key,l++[(k,i,g)],(l.length:Int)+1⟩ else ⟨key,l,safe⟩) else jm0 from rfl);have O:=Q01 (show Q3z ⟨key,l,safe⟩ k i g=((Q0s key l safe && Q0J k i g) && Q8f key l k i g) from rfl);have ab:=Q01 (show Q8f key l k i g=((doL (Q0k l l.length) k i g).isSome && !decide (100≤l.length)) from rfl)
 have ap:=Q01 (fun h:Q0s key l safe=true=> And.intro (Q0X h) (And.intro (Q1X h) (Q4r h)));unfold QcZ at hf;dsimp only at hf;obtain ⟨W0,V⟩:∃W,(((w.alloc (.cells #[.int .i64 key,.slice o l.length c,.int .i64 safe] 25)).alloc (.cells #[.int .i64 k,.int .i64 i,.int .i64 g] 77)).alloc (.cells #[.int .i64 0,.slice none 0 0,.int .i64 0] 25))=W:=⟨_,rfl⟩;have ac:=alb0v0v3 V;have x:=Q01 ac;clear ac;have n:=alz0v0v3 V;obtain ⟨H,I,J⟩:=alc3v0v3 V;have j:=alz0v1v3 V;obtain ⟨u0,u1,u2⟩:=alc3v1v3 V;have d:=alz0v2v3 V;obtain ⟨B,C,A⟩:=alc3v2v3 V
 obtain ⟨t,q,u⟩:=alf3v2v3 V;have bc:=d;have ae:=Q01 (Qav key safe o c l W0 ((r.kept x.out (Kaq _)).le x.out.size) hf);have Y:=Q01 (fun W=> Q4S k i g W);have aG:=Q01 r;clear r hR
 cases hj:Q0s key l safe with
 |false=>
  rw [hj] at ae T O;clear ap hj;generalize Q0J k i g=ck at *;go_enter Tryz.func124,Tryz.ntmps124;go_wp2_with fail;refine (ae.out).mono ?_;rintro e v1 ⟨v9,rfl,_,a⟩;replace H:=bC a H n;replace I:=bC a I n;replace J:=bC a J n;replace n:=Kbq n a.size;replace u0:=bC a u0 j;replace u1:=bC a u1 j;replace u2:=bC a u2 j;replace j:=Kbq j a.size;replace B:=bC a B d;replace C:=bC a C d;replace A:=bC a A d;replace t:=bF a t d;replace q:=bF a q d;replace u:=bF a u d;replace d:=Kbq d a.size;replace x:=Q01 (x.out.trans (a.mono x.out.size))
  clear a;go_wp2_with fail;refine (Y.out v1).mono ?_;rintro e v2 ⟨rfl,a⟩;replace H:=bC a H n;replace I:=bC a I n;replace J:=bC a J n;replace n:=Kbq n a.size;replace u0:=bC a u0 j;replace u1:=bC a u1 j;replace u2:=bC a u2 j;replace j:=Kbq j a.size;replace B:=bC a B d;replace C:=bC a C d;replace A:=bC a A d;replace t:=bF a t d;replace q:=bF a q d;replace u:=bF a u d;replace d:=Kbq d a.size;replace x:=Q01 (x.out.trans (a.mono x.out.size));clear a;generalize (if ck=true then Q9s k i g else .nilIface)=dv;go_wp2
  refine bodyPost_ret (v:=.tuple #[jrn 0 (.slice none 0 0) 0,.bool false]) (by simp [results,Tryz.results124,go_sem,B,C,A]) rfl ⟨jrn 0 (.slice none 0 0) 0,by rw [O.out];simp, ?_,Q0E x.out (by omega) _ _ _⟩;rw [T.out,if_neg (by simp)];exact ⟨_,rfl,World.ownsRow_nil _ _ _ _,fun b e=> by cases e⟩
 |true=>
  obtain ⟨⟨hk,hl,h0,h1⟩,aQ,aF,aH⟩:=ap.out hj;rw [hj] at ae T O;clear ap hj
  cases hc:Q0J k i g with
  |false=>
   rw [hc] at Y T O;simp only [Bool.false_eq_true,if_false] at Y;go_enter Tryz.func124,Tryz.ntmps124;go_wp2_with fail;refine (ae.out).mono ?_;rintro e v1 ⟨v9,rfl,_,a⟩;replace H:=bC a H n;replace I:=bC a I n;replace J:=bC a J n;replace n:=Kbq n a.size;replace u0:=bC a u0 j;replace u1:=bC a u1 j;replace u2:=bC a u2 j;replace j:=Kbq j a.size;replace B:=bC a B d;replace C:=bC a C d;replace A:=bC a A d;replace t:=bF a t d;replace q:=bF a q d;replace u:=bF a u d;replace d:=Kbq d a.size
   replace x:=Q01 (x.out.trans (a.mono x.out.size));clear a;go_wp2_with fail;refine (Y.out v1).mono ?_;rintro e v2 ⟨rfl,a⟩;replace H:=bC a H n;replace I:=bC a I n;replace J:=bC a J n;replace n:=Kbq n a.size;replace u0:=bC a u0 j;replace u1:=bC a u1 j;replace u2:=bC a u2 j;replace j:=Kbq j a.size;replace B:=bC a B d;replace C:=bC a C d;replace A:=bC a A d;replace t:=bF a t d;replace q:=bF a q d;replace u:=bF a u d;replace d:=Kbq d a.size;replace x:=Q01 (x.out.trans (a.mono x.out.size));clear a;go_wp2
   refine bodyPost_ret (v:=.tuple #[jrn 0 (.slice none 0 0) 0,.bool false]) (by simp [results,Tryz.results124,go_sem,B,C,A]) rfl ⟨jrn 0 (.slice none 0 0) 0,by rw [O.out];simp, ?_,Q0E x.out (by omega) _ _ _⟩;rw [T.out,if_neg (by simp)];exact ⟨_,rfl,World.ownsRow_nil _ _ _ _,fun b e=> by cases e⟩
  |true=>
   have ah:=Q01 (fun o c W h1 h2=> Q3k o c (Q0k l l.length) k i g W h1 h2 (by omega) hc);rw [hc] at Y T O;simp only [if_true] at Y;generalize Q9s k i g=dv at *;obtain ⟨sv,ai⟩:∃s,Q0k l l.length=s:=⟨_,rfl⟩;rw [ai] at ah ab aF aH;have aK:=Q01 ai;clear hc ai;go_enter Tryz.func124,Tryz.ntmps124;go_wp2_with fail;refine (ae.out).mono ?_;rintro e v1 ⟨v9,rfl,af,a⟩;obtain ⟨hs,au,av⟩:=af (by simp);have D:=Q01 au;have z:=Q01 av;have aS:=a.size;clear af au av;replace H:=bC a H n;replace I:=bC a I n;replace J:=bC a J n;replace n:=Kbq n a.size
   replace u0:=bC a u0 j;replace u1:=bC a u1 j;replace u2:=bC a u2 j;replace j:=Kbq j a.size;replace B:=bC a B d;replace C:=bC a C d;replace A:=bC a A d;replace t:=bF a t d;replace q:=bF a q d;replace u:=bF a u d;replace d:=Kbq d a.size;replace x:=Q01 (x.out.trans (a.mono x.out.size));clear a;have ao:=Q01 z.out.len;obtain ⟨g9,c9,e9⟩:=Q2N D.out (by rw [ao.out];omega);subst e9;go_wp2_with fail;refine (Y.out v1).mono ?_;rintro e v2 ⟨rfl,a⟩;have aW:=a.size;replace H:=bC a H n;replace I:=bC a I n;replace J:=bC a J n
   replace n:=Kbq n a.size;replace u0:=bC a u0 j;replace u1:=bC a u1 j;replace u2:=bC a u2 j;replace j:=Kbq j a.size;replace B:=bC a B d;replace C:=bC a C d;replace A:=bC a A d;replace t:=bF a t d;replace q:=bF a q d;replace u:=bF a u d;replace d:=Kbq d a.size;replace z:=Q01 (z.out.kept a);replace D:=Q01 (Q03 D.out a);replace x:=Q01 (x.out.trans (a.mono x.out.size));clear a;have aP:=Q01 (Q4f key safe o c l v2 ((aG.out.kept x.out (Kaq _)).le x.out.size) ar hf);go_wp2_with fail;refine (aP.out).mono ?_
   rintro e M ⟨o2,c2,rfl,ax,a⟩;have E:=Q01 ax;have aU:=a.size;clear ax;replace H:=bC a H n;replace I:=bC a I n;replace J:=bC a J n;replace n:=Kbq n a.size;replace u0:=bC a u0 j;replace u1:=bC a u1 j;replace u2:=bC a u2 j;replace j:=Kbq j a.size;replace B:=bC a B d;replace C:=bC a C d;replace A:=bC a A d;replace t:=bF a t d;replace q:=bF a q d;replace u:=bF a u d;replace d:=Kbq d a.size;replace z:=Q01 (z.out.kept a);replace D:=Q01 (Q03 D.out a);replace x:=Q01 (x.out.trans (a.mono x.out.size));clear a
   have ay:=Q01 (fun b (e:(Value.slice o2 l.length c2).ownBlock=some b)=> (E.out.lt b e).2);obtain ⟨W4,ag⟩:∃W,(M.alloc (.cells #[.int .i64 key,.slice o2 l.length c2,.int .i64 safe] 25))=W:=⟨_,rfl⟩;have f:=alb0v0v1 ag;replace H:=bC f H n;replace I:=bC f I n;replace J:=bC f J n;replace n:=Kbq n f.size;replace u0:=bC f u0 j;replace u1:=bC f u1 j;replace u2:=bC f u2 j;replace j:=Kbq j f.size;replace B:=bC f B d;replace C:=bC f C d;replace A:=bC f A d;replace t:=bF f t d;replace q:=bF f q d
   replace u:=bF f u d;replace d:=Kbq d f.size;replace z:=Q01 (z.out.kept f);replace D:=Q01 (Q03 D.out f);replace E:=Q01 (Q03 E.out f);replace x:=Q01 (x.out.trans (f.mono x.out.size));clear f;have X:=alz0v0v1 ag;obtain ⟨x0,x1,x2⟩:=alc3v0v1 ag;have aN:=alx0v0v1 ag;have aL:M.heap.size < W4.heap.size:=X;obtain ⟨o',c',e',al⟩:=ownL.open (L:=Q1d) (z.out.row l.length (by omega));have aa:=z.out.row l.length (by omega);rw [aK.out] at e' al aa;rw [e'] at aa;have aA:=Q2U D.out l.length (by rw [ao.out];omega);rw [e'] at aA
   have a2:(l.length:Int) < (hs.length:Int):=by have:=ao.out;omega
   have Z:=Q01 (ah.out o' c' W4 al (Q5s aa));clear al aa e' ah
   cases hdo:doL sv k i g with
   |none=>
    rw [hdo] at Z ab;simp only [Option.isSome_none] at Z;have F:=Q01 (show Q8f key l k i g=false by rw [ab.out];rfl);clear hdo;go_wp2_with fail;refine (Z.out).mono ?_;rintro e v4 ⟨v5,rfl,_,a⟩;have aq:=a.size;replace H:=bC a H n;replace I:=bC a I n;replace J:=bC a J n;replace n:=Kbq n a.size;replace u0:=bC a u0 j;replace u1:=bC a u1 j;replace u2:=bC a u2 j;replace j:=Kbq j a.size;replace B:=bC a B d;replace C:=bC a C d;replace A:=bC a A d;replace t:=bF a t d;replace q:=bF a q d;replace u:=bF a u d;replace d:=Kbq d a.size
    replace x0:=bC a x0 X;replace x1:=bC a x1 X;replace x2:=bC a x2 X;replace X:=Kbq X a.size;replace z:=Q01 (z.out.kept a);replace D:=Q01 (Q03 D.out a);replace E:=Q01 (Q03 E.out a);replace x:=Q01 (x.out.trans (a.mono x.out.size));clear a
    have G:w.heap.size+1+1 < v2.heap.size:=by omega
    go_wp2;refine bodyPost_ret (v:=.tuple #[jrn key (.slice o2 l.length c2) safe,.bool false]) (by simp [results,Tryz.results124,go_sem,B,C,A]) rfl ⟨jrn key (.slice o2 l.length c2) safe,by rw [O.out,F.out];simp, ?_,Q0E x.out (by omega) _ _ _⟩;rw [T.out,if_pos (by simp),if_neg (by rw [F.out];simp)];exact ⟨_,rfl,InRow.of (Q04 (Q0o (Q0o (Q0o E.out G 0 _) G 1 _) G 2 _) (by omega))⟩
   |some mm=>
    rw [hdo] at Z ab;simp only [Option.isSome_some] at Z;clear hdo
    by_cases h100:l.length=100
    ·have F:=Q01 (show Q8f key l k i g=false by rw [ab.out,h100];rfl)
     have ad:(l.length:Int)=100:=by omega
     have am:((l.length:Int)==100)=true:=beq_iff_eq.2 ad;clear h100 ad;go_wp2_with fail;refine (Z.out).mono ?_;rintro e v4 ⟨v5,rfl,_,a⟩;have aq:=a.size;replace H:=bC a H n;replace I:=bC a I n;replace J:=bC a J n;replace n:=Kbq n a.size;replace u0:=bC a u0 j;replace u1:=bC a u1 j;replace u2:=bC a u2 j;replace j:=Kbq j a.size;replace B:=bC a B d;replace C:=bC a C d;replace A:=bC a A d;replace t:=bF a t d;replace q:=bF a q d;replace u:=bF a u d;replace d:=Kbq d a.size;replace x0:=bC a x0 X;replace x1:=bC a x1 X
     replace x2:=bC a x2 X;replace X:=Kbq X a.size;replace z:=Q01 (z.out.kept a);replace D:=Q01 (Q03 D.out a);replace E:=Q01 (Q03 E.out a);replace x:=Q01 (x.out.trans (a.mono x.out.size));clear a
     have G:w.heap.size+1+1 < v2.heap.size:=by omega
     go_wp2;refine bodyPost_ret (v:=.tuple #[jrn key (.slice o2 l.length c2) safe,.bool false]) (by simp [results,Tryz.results124,go_sem,B,C,A]) rfl ⟨jrn key (.slice o2 l.length c2) safe,by rw [O.out,F.out];simp, ?_,Q0E x.out (by omega) _ _ _⟩;rw [T.out,if_pos (by simp),if_neg (by rw [F.out];simp)];exact ⟨_,rfl,InRow.of (Q04 (Q0o (Q0o (Q0o E.out G 0 _) G 1 _) G 2 _) (by omega))⟩
    ·have F:=Q01 (show Q8f key l k i g=true by rw [ab.out,decide_eq_false (by omega)];rfl)
     have am:((l.length:Int)==100)=false:=beq_eq_false_iff_ne.2 (by omega);go_wp2_with fail;refine (Z.out).mono ?_;rintro e v4 ⟨v5,rfl,_,a⟩;have aq:=a.size;have aO:=(a.block _ (show _ < W4.heap.size from aL)).trans aN;replace H:=bC a H n;replace I:=bC a I n;replace J:=bC a J n;replace n:=Kbq n a.size;replace u0:=bC a u0 j;replace u1:=bC a u1 j;replace u2:=bC a u2 j;replace j:=Kbq j a.size;replace B:=bC a B d;replace C:=bC a C d;replace A:=bC a A d;replace t:=bF a t d;replace q:=bF a q d;replace u:=bF a u d
     replace d:=Kbq d a.size;replace x0:=bC a x0 X;replace x1:=bC a x1 X;replace x2:=bC a x2 X;replace X:=Kbq X a.size;replace z:=Q01 (z.out.kept a);replace D:=Q01 (Q03 D.out a);replace E:=Q01 (Q03 E.out a);replace x:=Q01 (x.out.trans (a.mono x.out.size));clear a
     have G:w.heap.size+1+1 < v2.heap.size:=by omega
     have aj:=aO;go_wp2_with (at_builtin;refine Q08 Qdk rfl (.tmp 53) (.tmp 55) rfl v2.heap.size _ l rfl (World.ownsRow.alloc E.out (.cells #[.int .i64 k,.int .i64 i,.int .i64 g] 77)) (some ⟨v4.heap.size,0,none⟩) 1 (v4.alloc (.cells #[.int .i64 k,.int .i64 i,.int .i64 g] 77)).heap.size [(k,i,g)] 1 rfl rfl (fun h=> by cases h) Q9u (by simp;omega) (by simp;omega) ?_);intro v6 w6 ak an _;obtain ⟨o6,c6,e6,_⟩:=ownL.open (L:=Q4j) ak;rw [show (l++[(k,i,g)]).length=l.length+1 by simp] at e6;subst e6
     have U:Below v2.heap.size v4 w6:=((Below.refl v4.heap.size v4).alloc (Kaq _) (.cells #[.int .i64 k,.int .i64 i,.int .i64 g] 77)).mono (by omega)|>.grown an (by simp;omega) (fun k h=> (E.out.lt k h).1)
     have P:w6.heap[M.heap.size]? =some (.cells #[.int .i64 key,.slice o2 l.length c2,.int .i64 safe] 25 (0,0)):=(an.block _ (by have:=(Array.getElem?_eq_some_iff.1 aj).1;simp;omega) (fun e=> by have:=ay.out _ e.symm;omega)).trans ((Below.heap_alloc _ _ _ (Array.getElem?_eq_some_iff.1 aj).1).trans aj);have aC:Hid (Qcu w6 v2.heap.size (.slice o6 (l.length+1) c6) (l++[(k,i,g)])):=ak;clear ak an;replace B:=bC U B (show _ < _ by omega);replace t:=bF U t (show _ < _ by omega);replace C:=bC U C (show _ < _ by omega);replace q:=bF U q (show _ < _ by omega)
     replace A:=bC U A (show _ < _ by omega);replace u:=bF U u (show _ < _ by omega);have aI:=Q01 (x.out.trans (U.mono (by omega)));clear U x;obtain ⟨W7,R⟩:∃W,w6.setCell ⟨M.heap.size,1,none⟩ (.slice o6 (l.length+1) c6)=W:=⟨_,rfl⟩
     have h7:W7.heap[M.heap.size]? =some (.cells #[.int .i64 key,.slice o6 (l.length+1) c6,.int .i64 safe] 25 (0,0)):=by rw [←R];exact Q06 P 1 _
     obtain ⟨W8,N⟩:∃W,W7.setCell ⟨M.heap.size,2,none⟩ (.int .i64 ((l.length:Int)+1))=W:=⟨_,rfl⟩
     have h8:W8.heap[M.heap.size]? =some (.cells #[.int .i64 key,.slice o6 (l.length+1) c6,.int .i64 ((l.length:Int)+1)] 25 (0,0)):=by rw [←N];exact Q06 h7 2 _
     have aX:w6.cell? ⟨M.heap.size,0,none⟩=some (.int .i64 key):=Q00 P 0 _ rfl;have bd:=Q02 P 0;have aV:w6.cell? ⟨M.heap.size,1,none⟩=some (.slice o2 l.length c2):=Q00 P 1 _ rfl;have a4:=Q02 P 1;have a3:w6.cell? ⟨M.heap.size,2,none⟩=some (.int .i64 safe):=Q00 P 2 _ rfl;have ba:=Q02 P 2;have a6:W7.cell? ⟨M.heap.size,0,none⟩=some (.int .i64 key):=Q00 h7 0 _ rfl;have a7:=Q02 h7 0;have aT:W7.cell? ⟨M.heap.size,1,none⟩=some (.slice o6 (l.length+1) c6):=Q00 h7 1 _ rfl;have a9:=Q02 h7 1;have aZ:W7.cell? ⟨M.heap.size,2,none⟩=some (.int .i64 safe):=Q00 h7 2 _ rfl
     have a0:=Q02 h7 2;have a1:W8.cell? ⟨M.heap.size,0,none⟩=some (.int .i64 key):=Q00 h8 0 _ rfl;have bb:W8.cell? ⟨M.heap.size,1,none⟩=some (.slice o6 (l.length+1) c6):=Q00 h8 1 _ rfl;have a5:W8.cell? ⟨M.heap.size,2,none⟩=some (.int .i64 ((l.length:Int)+1)):=Q00 h8 2 _ rfl
     have y:w.heap.size+1+1≠M.heap.size:=by omega
     have az:W8.cell? ⟨w.heap.size+1+1,0,none⟩=some (.int .i64 0):=by rw [←N,←R];exact (Q1q y).trans ((Q1q y).trans B)
     have aR:W8.frozen? ⟨w.heap.size+1+1,0,none⟩=false:=by rw [←N,←R];exact (Q0W y).trans ((Q0W y).trans t)
     have aD:W8.cell? ⟨w.heap.size+1+1,1,none⟩=some (.slice none 0 0):=by rw [←N,←R];exact (Q1q y).trans ((Q1q y).trans C)
     have a8:W8.frozen? ⟨w.heap.size+1+1,1,none⟩=false:=by rw [←N,←R];exact (Q0W y).trans ((Q0W y).trans q)
     have aJ:W8.cell? ⟨w.heap.size+1+1,2,none⟩=some (.int .i64 0):=by rw [←N,←R];exact (Q1q y).trans ((Q1q y).trans A)
     have aY:W8.frozen? ⟨w.heap.size+1+1,2,none⟩=false:=by rw [←N,←R];exact (Q0W y).trans ((Q0W y).trans u)
     have aB:Hid (Qcu W8 v2.heap.size (.slice o6 (l.length+1) c6) (l++[(k,i,g)])):=by rw [←N,←R];exact Q1O (Q1O aC.out P 1 _) (Q06 P 1 _) 2 _
     have aE:Hid (Below w.heap.size w W8):=by rw [←N,←R];exact (aI.out.setCell (p:=⟨M.heap.size,1,none⟩) (show w.heap.size≤M.heap.size by omega) _).setCell (p:=⟨M.heap.size,2,none⟩) (show w.heap.size≤M.heap.size by omega) _
     clear B t C q A u;go_wp2;refine bodyPost_ret (v:=.tuple #[jrn key (.slice o6 (l.length+1) c6) ((l.length:Int)+1),.bool true]) (by simp [results,Tryz.results124,go_sem,az,aD,aJ]) rfl ⟨jrn key (.slice o6 (l.length+1) c6) ((l.length:Int)+1),by rw [O.out,F.out];simp, ?_,Q0E aE.out (by omega) _ _ _⟩;rw [T.out,if_pos (by simp),if_pos F.out];exact ⟨_,rfl,InRow.of (Q04 (Q0o (Q0o (Q0o aB.out G 0 _) G 1 _) G 2 _) (by omega))⟩
theorem InJm.opn {lo hi:Nat} {w:World} {v:Value} {m:Jm} (h:InJm lo hi w v m):∃(o:Option Addr) (c:Nat),v=jrn m.key (.slice o m.l.length c) m.safe:=by
 obtain ⟨vl,rfl,⟨o,c,rfl,_⟩⟩:=h.rd;exact ⟨o,c,rfl⟩
theorem QgV (W:World) (B:Nat) (x y z:Value):Stp B (B+1) W (setP W B x y z):=
 ((Stp.grown (Q0I W B 0 x) (fun b e=> by injection e with e;omega)).trans (Stp.grown (Q0I _ B 1 y) (fun b e=> by injection e with e;omega))).trans (Stp.grown (Q0I _ B 2 z) (fun b e=> by injection e with e;omega))
theorem Qec (W:World) (B:Nat) (x y z:Value):(setP W B x y z).heap.size=W.heap.size:=by simp [World.setCell]
theorem Qjv {b W:World} {B lo hi:Nat} {f:Value} {a:Jm} {o:Option Addr} {c:Nat} {n s t:Value} (m:W.heap[B]? =some (.cells #[n,s,t] 25 (0,0))) (q:Below b.heap.size b W) (i:b.heap.size≤B) (d:InJm lo hi W (jrn a.key (.slice o a.l.length c) a.safe) a) (u:b.heap.size≤lo) (h2:hi≤W.heap.size) (p:B < lo∨hi≤B):
  ∃B' lo hi g h,Value.pointer (some ⟨B,0,none⟩)=.pointer (some ⟨B',0,none⟩)∧f=f∧Hid ((setP W B (.int .i64 a.key) (.slice o a.l.length c) (.int .i64 a.safe)).heap[B']? =some (.cells #[.int .i64 a.key,.slice g a.l.length h,.int .i64 a.safe] 25 (0,0)))∧Hid (Below b.heap.size b (setP W B (.int .i64 a.key) (.slice o a.l.length c) (.int .i64 a.safe)))∧b.heap.size≤B'∧B' < (setP W B (.int .i64 a.key) (.slice o a.l.length c) (.int .i64 a.safe)).heap.size∧Hid (InJm lo hi (setP W B (.int .i64 a.key) (.slice o a.l.length c) (.int .i64 a.safe)) (jrn a.key (.slice g a.l.length h) a.safe) a)∧b.heap.size≤lo∧hi≤(setP W B (.int .i64 a.key) (.slice o a.l.length c) (.int .i64 a.safe)).heap.size∧(B' < lo∨hi≤B'):=by
 have r:=Q06 m 0 (.int .i64 a.key);have k:=Q06 r 1 (.slice o a.l.length c);have j:=Q06 k 2 (.int .i64 a.safe);exact ⟨B,lo,hi,o,c,rfl,rfl,j,Q0E q i _ _ _,i,(Array.getElem?_eq_some_iff.1 j).1,InJm.step d (QgV W B _ _ _) (by omega),u,by rw [Qec];exact h2,p⟩
theorem Qj6 {b W:World} {lo hi:Nat} {f:Value} {a:Jm} {o:Option Addr} {c:Nat} (d:Below b.heap.size b W) (g:InJm lo hi W (jrn a.key (.slice o a.l.length c) a.safe) a) (j:b.heap.size≤lo) (h2:hi≤W.heap.size):
  ∃B' lo hi i h,Value.pointer (some ⟨W.heap.size,0,none⟩)=.pointer (some ⟨B',0,none⟩)∧f=f∧Hid ((W.alloc (.cells #[.int .i64 a.key,.slice o a.l.length c,.int .i64 a.safe] 25)).heap[B']? =some (.cells #[.int .i64 a.key,.slice i a.l.length h,.int .i64 a.safe] 25 (0,0)))∧Hid (Below b.heap.size b (W.alloc (.cells #[.int .i64 a.key,.slice o a.l.length c,.int .i64 a.safe] 25)))∧b.heap.size≤B'∧B' < (W.alloc (.cells #[.int .i64 a.key,.slice o a.l.length c,.int .i64 a.safe] 25)).heap.size∧Hid (InJm lo hi (W.alloc (.cells #[.int .i64 a.key,.slice o a.l.length c,.int .i64 a.safe] 25)) (jrn a.key (.slice i a.l.length h) a.safe) a)∧b.heap.size≤lo∧hi≤(W.alloc (.cells #[.int .i64 a.key,.slice o a.l.length c,.int .i64 a.safe] 25)).heap.size∧(B' < lo∨hi≤B'):=
 ⟨W.heap.size,lo,hi,o,c,rfl,rfl,World.alloc_heap_new W _,d.alloc d.size _,d.size,by simp,InJm.step g (Stp.of (lo:=0) (hi:=0) ((Below.refl _ _).alloc (Kaq _) _)) (.inl (Kcq _)),j,by simp;omega,.inr h2⟩
structure Dr (k:Nat) (w w':World):Prop where
 cur:isCur k w'
 gr:w.grownBy w' (some k)
theorem Dr.step {k:Nat} {w x y:World} (h:Dr k w x) (hc:isCur k y) (hg:x.grownBy y (some k)):Dr k w y:=⟨hc,Q05 h.gr hg⟩
theorem Qao {w d c:World} {k B:Nat} (h:w.grownBy d (some k)) (a:Below B d c) (g:w.heap.size≤B):w.grownBy c (some k):=
 ⟨a.os.trans h.os,a.tape.trans h.tape,a.output.trans h.output,Kdq h.size a.size,fun j f b=> (a.block j (by omega)).trans (h.block j f b)⟩
theorem Dr.below {k:Nat} {w x y:World} (h:Dr k w x) (hk:k < w.heap.size) (hb:Below w.heap.size x y):Dr k w y:=⟨h.cur.below (hb.mono hk),Qao h.gr hb (Kaq _)⟩
theorem Dr.lt {k:Nat} {w x:World} (h:Dr k w x) (hk:k < w.heap.size):k < x.heap.size:=Kbq hk h.gr.size
theorem Q09 {k q:Nat} {w w':World} {O:Obj} (hg:w.grownBy w' (some k)) (hq:q < w.heap.size) (hne:q≠k) (h:w.heap[q]? =some O):w'.heap[q]? =some O:=(hg.block q hq (by simp [hne])).trans h
theorem Q29 {q B j:Nat} {w:World} {O:Obj} {u:Value} (h:w.heap[q]? =some O) (a:q≠B):(w.setCell ⟨B,j,none⟩ u).heap[q]? =some O:=((Q0I w B j u).block q (Array.getElem?_eq_some_iff.1 h).1 (by simp [a])).trans h
theorem Q3E {α:Type} {L:Lay α} {e:TypeId} {w a:World} {base k:Nat} {v:Value} {l:List α} (h:ownL L e w base v l) (b:w.grownBy a (some k)) (c:k < base):ownL L e a base v l:=
World.ownsRow.kept h b (by
  cases hob:v.ownBlock with
  |none=> exact .inl rfl
  |some j=> right;have:=(h.lt j hob).1;intro e;simp at e;omega)
theorem Qf9 {W:World} {R:Nat} {x y z c f g:Value} {T:TypeId} (h:W.heap[R]? =some (.cells #[c,f,g] T (0,0))) (O:Obj):((((W.setCell ⟨R,0,none⟩ x).setCell ⟨R,1,none⟩ y).setCell ⟨R,2,none⟩ z).alloc O).cell? ⟨R,0,none⟩=some x∧((((W.setCell ⟨R,0,none⟩ x).setCell ⟨R,1,none⟩ y).setCell ⟨R,2,none⟩ z).alloc O).cell? ⟨R,1,none⟩=some y∧((((W.setCell ⟨R,0,none⟩ x).setCell ⟨R,1,none⟩ y).setCell ⟨R,2,none⟩ z).alloc O).cell? ⟨R,2,none⟩=some z:=by
 have b:=Q06 (Q06 (Q06 h 0 x) 1 y) 2 z;have d:=((Below.refl _ _).alloc (Kaq _) O).block R (Array.getElem?_eq_some_iff.1 b).1;have a:=d.trans b;exact ⟨Q00 a 0 _ rfl,Q00 a 1 _ rfl,Q00 a 2 _ rfl⟩
theorem Q2s (k:Nat) (a:List Int) (w:World) (h:isCur k w) (i:k < w.heap.size) (g:0 < a.length) (j:a.length≤1000):
  Calls Tryz.prog 55 #[.pointer (some ⟨k,0,none⟩),.slice (some ⟨w.heap.size,0,none⟩) a.length a.length] (w.alloc (.cells (a.map (Value.int .i64)).toArray 3)) fun e d=> ∃x,x∈a∧e=.returned (.int .i64 x)∧isCur k d∧w.grownBy d (some k):=by
 refine (Q0P k w.heap.size a _ (h.alloc i _) (by simp) (by omega) g j (fun q b=> ?_)).mono ?_
 ·refine Q00 (World.alloc_heap_new w _) q _ ?_
  rw [List.getElem?_toArray,List.getElem?_map,List.getElem?_eq_getElem b,List.getD_eq_getElem?_getD,List.getElem?_eq_getElem b]
  rfl
 ·rintro e d ⟨q,b,rfl,c,f⟩
  refine ⟨_, ?_,rfl,c,Q05 (Q0t w _ k) f⟩;rw [List.getD_eq_getElem?_getD,List.getElem?_eq_getElem b];exact List.getElem_mem b
theorem Q81 (k:Nat) (w:World) (hc:isCur k w) (J:k < w.heap.size):
  Calls Tryz.prog 121 #[.pointer (some ⟨k,0,none⟩)] w fun e w'=> ∃a i g:Int,e=.returned (cmd a i g)∧Q0J a i g=true∧Dr k w w':=by
 obtain ⟨W0,h⟩:∃W,w.alloc (.cells #[.int .i64 0,.int .i64 0,.int .i64 0] 77)=W:=⟨_,rfl⟩;have P:=alb0v0v1 h;have r:=Q01 (show Dr k w W0 from ⟨hc.below (P.mono J),by rw [←h];exact Q0t w _ k⟩);have R:Hid _:=alx0v0v1 h;have D:=alz0v0v1 h;clear P hc;go_enter Tryz.func121,Tryz.ntmps121;go_wp2_with fail;refine (Q2s k [0,0,0,1,2,3] W0 r.out.cur (r.out.lt J) (by decide) (by decide)).mono ?_;rintro e w1 ⟨a,ha,rfl,O,q⟩;have X:=Q01 ha;have I:=Q01 (r.out.step O q);have U:=Q01 (Q09 q D (by omega) R.out);have A:w.heap.size < w1.heap.size:=Kbq D q.size
 clear ha O q R r D;go_wp2_with fail;refine (Q0p k 5 w1 I.out.cur (by decide) (by decide)).mono ?_;rintro e b ⟨i,rfl,aj,ai,V,s⟩;have G:=Q01 (I.out.step V s);have c:=Q01 (Q09 s A (by omega) U.out);have F:w.heap.size < b.heap.size:=Kbq A s.size;clear V s U I A;have H:Below b.heap.size b (b.alloc (.cells #[.int .i64 a,.int .i64 i,.int .i64 0] 77)):=(Below.refl _ _).alloc (Kaq _) _
 have E:Hid ((b.alloc (.cells #[.int .i64 a,.int .i64 i,.int .i64 0] 77)).heap[b.heap.size]? =some (.cells #[.int .i64 a,.int .i64 i,.int .i64 0] 77 (0,0))):=World.alloc_heap_new b _;have B:=Q01 ((H.block _ F).trans c.out);have t:=Q01 (G.out.below J (H.mono (Nat.le_of_lt F)))
 have aa:b.heap.size < ((b.alloc (.cells #[.int .i64 a,.int .i64 i,.int .i64 0] 77))).heap.size:=by simp
 have N:((b.alloc (.cells #[.int .i64 a,.int .i64 i,.int .i64 0] 77))).heap.size=b.heap.size+1:=by simp
 have ac:=Q01 N
 have ah:¬w.heap.size=b.heap.size:=by omega
 clear H N
 by_cases h1:a≤1
 ·go_wp2_with fail
  clear c G;generalize (b.alloc (.cells #[.int .i64 a,.int .i64 i,.int .i64 0] 77))=W3 at *;rw [←ac.out];refine (Q2s k [1,2,10,100] W3 t.out.cur (t.out.lt J) (by decide) (by decide)).mono ?_;rintro e f ⟨g,L,rfl,M,m⟩
  have al:k < b.heap.size:=by omega
  have l:=Q09 m aa (by omega) E.out;have T:=Q09 m (by omega) (by omega) B.out;have ag:=Q01 (t.out.step M m)
  have C:=Q01 (show Q0J a i g=true by
   have h2:=X.out;simp at h2 L;unfold Q0J;simp
   omega)
  have n:=Q06 l 2 (.int .i64 g);have d:=Q29 (j:=2) (u:=.int .i64 g) T (show w.heap.size≠b.heap.size by omega);have y2:f.cell? ⟨b.heap.size,2,none⟩=some (.int .i64 0):=Q00 l 2 _ rfl;have ak:f.frozen? ⟨b.heap.size,2,none⟩=false:=Q02 l 2;have z0:(f.setCell ⟨b.heap.size,2,none⟩ (.int .i64 g)).cell? ⟨b.heap.size,0,none⟩=some (.int .i64 a):=Q00 n 0 _ rfl;have z1:(f.setCell ⟨b.heap.size,2,none⟩ (.int .i64 g)).cell? ⟨b.heap.size,1,none⟩=some (.int .i64 i):=Q00 n 1 _ rfl
  have z2:(f.setCell ⟨b.heap.size,2,none⟩ (.int .i64 g)).cell? ⟨b.heap.size,2,none⟩=some (.int .i64 g):=Q00 n 2 _ rfl;have r0:(f.setCell ⟨b.heap.size,2,none⟩ (.int .i64 g)).cell? ⟨w.heap.size,0,none⟩=some (.int .i64 0):=Q00 d 0 _ rfl;have ad:(f.setCell ⟨b.heap.size,2,none⟩ (.int .i64 g)).frozen? ⟨w.heap.size,0,none⟩=false:=Q02 d 0;have r1:(f.setCell ⟨b.heap.size,2,none⟩ (.int .i64 g)).cell? ⟨w.heap.size,1,none⟩=some (.int .i64 0):=Q00 d 1 _ rfl;have ae:(f.setCell ⟨b.heap.size,2,none⟩ (.int .i64 g)).frozen? ⟨w.heap.size,1,none⟩=false:=Q02 d 1
  have r2:(f.setCell ⟨b.heap.size,2,none⟩ (.int .i64 g)).cell? ⟨w.heap.size,2,none⟩=some (.int .i64 0):=Q00 d 2 _ rfl;have Y:(f.setCell ⟨b.heap.size,2,none⟩ (.int .i64 g)).frozen? ⟨w.heap.size,2,none⟩=false:=Q02 d 2;clear M m l T n d E B t X L;go_wp2;refine bodyPost_ret (v:=cmd a i g) (by simp [results,Tryz.results121,go_sem,r0,r1,r2]) rfl ⟨a,i,g,rfl,C.out,ag.out.below J ?_⟩;exact Q0E ((Below.refl _ _).setCell (p:=⟨b.heap.size,2,none⟩) (Nat.le_of_lt F) _) (Kaq _) _ _ _
 ·have C:=Q01 (show Q0J a i 0=true by
   have h2:=X.out;simp at h2;unfold Q0J;simp
   omega)
  have r0:b.cell? ⟨w.heap.size,0,none⟩=some (.int .i64 0):=Q00 c.out 0 _ rfl;have ad:b.frozen? ⟨w.heap.size,0,none⟩=false:=Q02 c.out 0;have r1:b.cell? ⟨w.heap.size,1,none⟩=some (.int .i64 0):=Q00 c.out 1 _ rfl;have ae:b.frozen? ⟨w.heap.size,1,none⟩=false:=Q02 c.out 1;have r2:b.cell? ⟨w.heap.size,2,none⟩=some (.int .i64 0):=Q00 c.out 2 _ rfl;have Y:b.frozen? ⟨w.heap.size,2,none⟩=false:=Q02 c.out 2;obtain ⟨q0,q1,q2⟩:=Qf9 (x:=.int .i64 a) (y:=.int .i64 i) (z:=.int .i64 0) c.out (.cells #[.int .i64 a,.int .i64 i,.int .i64 0] 77);have ab:=Q01 q0;have af:=Q01 q1
  have Z:=Q01 q2;clear E B c X q0 q1 q2;go_wp2;refine bodyPost_ret (v:=cmd a i 0) (by simp [results,Tryz.results121,go_sem,ab.out,af.out,Z.out]) rfl ⟨a,i,0,rfl,C.out,G.out.below J ?_⟩;exact (Q0E (Below.refl _ _) (Kaq _) _ _ _).alloc (by simp;omega) _
theorem Q9j (k:Nat) (w:World) (hc:isCur k w) (H:k < w.heap.size):
  Calls Tryz.prog 72 #[.pointer (some ⟨k,0,none⟩)] w fun e w'=> ∃a i g:Int,e=.returned (cmd a i g)∧Dr k w w':=by
 obtain ⟨W0,I⟩:∃W,w.alloc (.cells #[.int .i64 0,.int .i64 0,.int .i64 0] 77)=W:=⟨_,rfl⟩;have ac:=alb0v0v1 I;have L:=Q01 (show Dr k w W0 from ⟨hc.below (ac.mono H),by rw [←I];exact Q0t w _ k⟩);have af:Hid _:=alx0v0v1 I;have U:=alz0v0v1 I;clear ac hc;go_enter Tryz.func72,Tryz.ntmps72;go_wp2_with fail;refine (Q81 k W0 L.out.cur (L.out.lt H)).mono ?_;rintro e b ⟨a,i,g,rfl,_,D⟩;have aj:=Q01 (L.out.step D.cur D.gr);have ai:=Q01 (Q09 D.gr U (by omega) af.out);have A:w.heap.size < b.heap.size:=Kbq U D.gr.size;clear D af L U
 have O:Below b.heap.size b (b.alloc (.cells #[.int .i64 a,.int .i64 i,.int .i64 g] 77)):=(Below.refl _ _).alloc (Kaq _) _;have ad:Hid ((b.alloc (.cells #[.int .i64 a,.int .i64 i,.int .i64 g] 77)).heap[b.heap.size]? =some (.cells #[.int .i64 a,.int .i64 i,.int .i64 g] 77 (0,0))):=World.alloc_heap_new b _;have ae:=Q01 ((O.block _ A).trans ai.out);have Z:=Q01 (aj.out.below H (O.mono (Nat.le_of_lt A)))
 have V:b.heap.size < ((b.alloc (.cells #[.int .i64 a,.int .i64 i,.int .i64 g] 77))).heap.size:=by simp
 have aa:((b.alloc (.cells #[.int .i64 a,.int .i64 i,.int .i64 g] 77))).heap.size=b.heap.size+1:=by simp
 have al:=Q01 aa;clear O ai aj aa;go_wp2_with fail;generalize (b.alloc (.cells #[.int .i64 a,.int .i64 i,.int .i64 g] 77))=W2 at *;refine (Q1v k 7 W2 Z.out.cur (by decide) (by decide)).mono ?_;rintro e E ⟨ak,rfl,ab,B⟩;have t:=Q01 (Q09 B V (by omega) ad.out);have n:=Q01 (Q09 B (by omega) (by omega) ae.out);have J:=Q01 (Z.out.step ab B);have P:b.heap.size < E.heap.size:=Kbq V B.size;clear ab B ad ae Z V
 cases ak with
 |false=>
  have z0:E.cell? ⟨b.heap.size,0,none⟩=some (.int .i64 a):=Q00 t.out 0 _ rfl;have z1:E.cell? ⟨b.heap.size,1,none⟩=some (.int .i64 i):=Q00 t.out 1 _ rfl;have z2:E.cell? ⟨b.heap.size,2,none⟩=some (.int .i64 g):=Q00 t.out 2 _ rfl;have r0:E.cell? ⟨w.heap.size,0,none⟩=some (.int .i64 0):=Q00 n.out 0 _ rfl;have X:E.frozen? ⟨w.heap.size,0,none⟩=false:=Q02 n.out 0;have R:E.cell? ⟨w.heap.size,1,none⟩=some (.int .i64 0):=Q00 n.out 1 _ rfl;have Y:E.frozen? ⟨w.heap.size,1,none⟩=false:=Q02 n.out 1;have T:E.cell? ⟨w.heap.size,2,none⟩=some (.int .i64 0):=Q00 n.out 2 _ rfl
  have M:E.frozen? ⟨w.heap.size,2,none⟩=false:=Q02 n.out 2;clear t n;go_wp2;refine bodyPost_ret (v:=cmd a i g) (by simp [results,Tryz.results72,go_sem,r0,R,T]) rfl ⟨a,i,g,rfl,J.out.below H ?_⟩;exact Q0E (Below.refl _ _) (Kaq _) _ _ _
 |true=>
  go_wp2_with fail;refine (Q0p k 3 E J.out.cur (by decide) (by decide)).mono ?_;rintro e w3 ⟨x,rfl,an,am,ag,C⟩;have z:=Q01 (Q09 C P (by omega) t.out);have s:=Q01 (Q09 C (by omega) (by omega) n.out);have m:=Q01 (J.out.step ag C);have N:b.heap.size < w3.heap.size:=Kbq P C.size;clear ag C t n J P
  by_cases e0:x=0
  ·subst e0
   go_wp2_with fail;refine (Q2s k [-1,4,2] w3 m.out.cur (m.out.lt H) (by decide) (by decide)).mono ?_;rintro e d ⟨y,F,rfl,q,h⟩;have f:=Q09 h N (by omega) z.out;have r:=Q09 h (by omega) (by omega) s.out;have G:=Q01 (m.out.step q h);have l:=Q06 f 0 (.int .i64 y);have c:=Q29 (j:=0) (u:=.int .i64 y) r (show w.heap.size≠b.heap.size by omega);have y2:d.cell? ⟨b.heap.size,0,none⟩=some (.int .i64 a):=Q00 f 0 _ rfl;have ah:d.frozen? ⟨b.heap.size,0,none⟩=false:=Q02 f 0
   have z0:(d.setCell ⟨b.heap.size,0,none⟩ (.int .i64 y)).cell? ⟨b.heap.size,0,none⟩=some (.int .i64 y):=Q00 l 0 _ rfl;have z1:(d.setCell ⟨b.heap.size,0,none⟩ (.int .i64 y)).cell? ⟨b.heap.size,1,none⟩=some (.int .i64 i):=Q00 l 1 _ rfl;have z2:(d.setCell ⟨b.heap.size,0,none⟩ (.int .i64 y)).cell? ⟨b.heap.size,2,none⟩=some (.int .i64 g):=Q00 l 2 _ rfl;have r0:(d.setCell ⟨b.heap.size,0,none⟩ (.int .i64 y)).cell? ⟨w.heap.size,0,none⟩=some (.int .i64 0):=Q00 c 0 _ rfl;have X:(d.setCell ⟨b.heap.size,0,none⟩ (.int .i64 y)).frozen? ⟨w.heap.size,0,none⟩=false:=Q02 c 0
   have R:(d.setCell ⟨b.heap.size,0,none⟩ (.int .i64 y)).cell? ⟨w.heap.size,1,none⟩=some (.int .i64 0):=Q00 c 1 _ rfl;have Y:(d.setCell ⟨b.heap.size,0,none⟩ (.int .i64 y)).frozen? ⟨w.heap.size,1,none⟩=false:=Q02 c 1;have T:(d.setCell ⟨b.heap.size,0,none⟩ (.int .i64 y)).cell? ⟨w.heap.size,2,none⟩=some (.int .i64 0):=Q00 c 2 _ rfl;have M:(d.setCell ⟨b.heap.size,0,none⟩ (.int .i64 y)).frozen? ⟨w.heap.size,2,none⟩=false:=Q02 c 2;clear q h f r l c z s m F;go_wp2
   refine bodyPost_ret (v:=cmd y i g) (by simp [results,Tryz.results72,go_sem,r0,R,T]) rfl ⟨y,i,g,rfl,G.out.below H ?_⟩;exact Q0E ((Below.refl _ _).setCell (p:=⟨b.heap.size,0,none⟩) (Nat.le_of_lt A) _) (Kaq _) _ _ _
  by_cases e1:x=1
  ·subst e1
   go_wp2_with fail;refine (Q2s k [-1,6] w3 m.out.cur (m.out.lt H) (by decide) (by decide)).mono ?_;rintro e d ⟨y,F,rfl,q,h⟩;have f:=Q09 h N (by omega) z.out;have r:=Q09 h (by omega) (by omega) s.out;have G:=Q01 (m.out.step q h);have l:=Q06 f 1 (.int .i64 y);have c:=Q29 (j:=1) (u:=.int .i64 y) r (show w.heap.size≠b.heap.size by omega);have y2:d.cell? ⟨b.heap.size,1,none⟩=some (.int .i64 i):=Q00 f 1 _ rfl;have ah:d.frozen? ⟨b.heap.size,1,none⟩=false:=Q02 f 1
   have z0:(d.setCell ⟨b.heap.size,1,none⟩ (.int .i64 y)).cell? ⟨b.heap.size,0,none⟩=some (.int .i64 a):=Q00 l 0 _ rfl;have z1:(d.setCell ⟨b.heap.size,1,none⟩ (.int .i64 y)).cell? ⟨b.heap.size,1,none⟩=some (.int .i64 y):=Q00 l 1 _ rfl;have z2:(d.setCell ⟨b.heap.size,1,none⟩ (.int .i64 y)).cell? ⟨b.heap.size,2,none⟩=some (.int .i64 g):=Q00 l 2 _ rfl;have r0:(d.setCell ⟨b.heap.size,1,none⟩ (.int .i64 y)).cell? ⟨w.heap.size,0,none⟩=some (.int .i64 0):=Q00 c 0 _ rfl;have X:(d.setCell ⟨b.heap.size,1,none⟩ (.int .i64 y)).frozen? ⟨w.heap.size,0,none⟩=false:=Q02 c 0
   have R:(d.setCell ⟨b.heap.size,1,none⟩ (.int .i64 y)).cell? ⟨w.heap.size,1,none⟩=some (.int .i64 0):=Q00 c 1 _ rfl;have Y:(d.setCell ⟨b.heap.size,1,none⟩ (.int .i64 y)).frozen? ⟨w.heap.size,1,none⟩=false:=Q02 c 1;have T:(d.setCell ⟨b.heap.size,1,none⟩ (.int .i64 y)).cell? ⟨w.heap.size,2,none⟩=some (.int .i64 0):=Q00 c 2 _ rfl;have M:(d.setCell ⟨b.heap.size,1,none⟩ (.int .i64 y)).frozen? ⟨w.heap.size,2,none⟩=false:=Q02 c 2;clear q h f r l c z s m F;go_wp2
   refine bodyPost_ret (v:=cmd a y g) (by simp [results,Tryz.results72,go_sem,r0,R,T]) rfl ⟨a,y,g,rfl,G.out.below H ?_⟩;exact Q0E ((Below.refl _ _).setCell (p:=⟨b.heap.size,1,none⟩) (Nat.le_of_lt A) _) (Kaq _) _ _ _
  ·go_wp2_with fail
   refine (Q2s k [-1,0,101,5] w3 m.out.cur (m.out.lt H) (by decide) (by decide)).mono ?_;rintro e d ⟨y,F,rfl,q,h⟩;have f:=Q09 h N (by omega) z.out;have r:=Q09 h (by omega) (by omega) s.out;have G:=Q01 (m.out.step q h);have l:=Q06 f 2 (.int .i64 y);have c:=Q29 (j:=2) (u:=.int .i64 y) r (show w.heap.size≠b.heap.size by omega);have y2:d.cell? ⟨b.heap.size,2,none⟩=some (.int .i64 g):=Q00 f 2 _ rfl;have ah:d.frozen? ⟨b.heap.size,2,none⟩=false:=Q02 f 2
   have z0:(d.setCell ⟨b.heap.size,2,none⟩ (.int .i64 y)).cell? ⟨b.heap.size,0,none⟩=some (.int .i64 a):=Q00 l 0 _ rfl;have z1:(d.setCell ⟨b.heap.size,2,none⟩ (.int .i64 y)).cell? ⟨b.heap.size,1,none⟩=some (.int .i64 i):=Q00 l 1 _ rfl;have z2:(d.setCell ⟨b.heap.size,2,none⟩ (.int .i64 y)).cell? ⟨b.heap.size,2,none⟩=some (.int .i64 y):=Q00 l 2 _ rfl;have r0:(d.setCell ⟨b.heap.size,2,none⟩ (.int .i64 y)).cell? ⟨w.heap.size,0,none⟩=some (.int .i64 0):=Q00 c 0 _ rfl;have X:(d.setCell ⟨b.heap.size,2,none⟩ (.int .i64 y)).frozen? ⟨w.heap.size,0,none⟩=false:=Q02 c 0
   have R:(d.setCell ⟨b.heap.size,2,none⟩ (.int .i64 y)).cell? ⟨w.heap.size,1,none⟩=some (.int .i64 0):=Q00 c 1 _ rfl;have Y:(d.setCell ⟨b.heap.size,2,none⟩ (.int .i64 y)).frozen? ⟨w.heap.size,1,none⟩=false:=Q02 c 1;have T:(d.setCell ⟨b.heap.size,2,none⟩ (.int .i64 y)).cell? ⟨w.heap.size,2,none⟩=some (.int .i64 0):=Q00 c 2 _ rfl;have M:(d.setCell ⟨b.heap.size,2,none⟩ (.int .i64 y)).frozen? ⟨w.heap.size,2,none⟩=false:=Q02 c 2;clear q h f r l c z s m F;go_wp2
   refine bodyPost_ret (v:=cmd a i y) (by simp [results,Tryz.results72,go_sem,r0,R,T]) rfl ⟨a,i,y,rfl,G.out.below H ?_⟩;exact Q0E ((Below.refl _ _).setCell (p:=⟨b.heap.size,2,none⟩) (Nat.le_of_lt A) _) (Kaq _) _ _ _
end Go.Proofs.YtpneolgdghbinaaGreat
