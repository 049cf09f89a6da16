/- Several texts in one: SNext, SNext2, SNext3, ShC, SWay, SWay2. -/
import Derived.Test.YteffhdcankkfkaaGreatQListed23
import Derived.Test.YteffhdcankkfkaaGreatQListed25
import Derived.Test.YteffhdcankkfkaaGreatQListed06
namespace Go.Proofs.YteffhdcankkfkaaGreat
open Go.ChangeShapes Go.WideShapes Go.ChangeAt Go.RowKit Go.Joins
set_option linter.unusedVariables false
set_option linter.unusedSimpArgs false
set_option maxRecDepth 100000
set_option maxHeartbeats 40000000
theorem Q6Q (a b f s:Int) (o:Option Addr) (cap:Nat) (l:List Int) (w:World) (m:Rd w o l) (g:o=none->cap=0) (L:l.length<=1048576):
  Calls Tryz.prog 166 #[pkt a b f s (.slice o l.length cap)] w fun e n=> ∃v,e=.returned (pkt a b f s v)/\ownB n w.heap.size v l/\Below w.heap.size w n:=by
 have d:Below w.heap.size w ((w.alloc (.cells #[.int .i64 a,.int .i64 b,.int .i64 f,.int .i64 s,.slice o l.length cap] 108)).alloc (.cells #[.int .i64 0,.int .i64 0,.int .i64 0,.int .i64 0,.slice none 0 0] 108)):=(KBq.alloc (Kaq _) _).alloc (by simp) _
 have x:((w.alloc (.cells #[.int .i64 a,.int .i64 b,.int .i64 f,.int .i64 s,.slice o l.length cap] 108)).alloc (.cells #[.int .i64 0,.int .i64 0,.int .i64 0,.int .i64 0,.slice none 0 0] 108)).heap.size=w.heap.size+2:=by simp
 have i:boxed w.heap.size a b f s (.slice o l.length cap) ((w.alloc (.cells #[.int .i64 a,.int .i64 b,.int .i64 f,.int .i64 s,.slice o l.length cap] 108)).alloc (.cells #[.int .i64 0,.int .i64 0,.int .i64 0,.int .i64 0,.slice none 0 0] 108)):=by unfold boxed;simp
 have j:empty5 (w.heap.size+1) ((w.alloc (.cells #[.int .i64 a,.int .i64 b,.int .i64 f,.int .i64 s,.slice o l.length cap] 108)).alloc (.cells #[.int .i64 0,.int .i64 0,.int .i64 0,.int .i64 0,.slice none 0 0] 108)):=by
  have:=Qdh (w.alloc (.cells #[.int .i64 a,.int .i64 b,.int .i64 f,.int .i64 s,.slice o l.length cap] 108)) 108
  simpa only[World.size_alloc]using this
 have k:((w.alloc (.cells #[.int .i64 a,.int .i64 b,.int .i64 f,.int .i64 s,.slice o l.length cap] 108)).alloc (.cells #[.int .i64 0,.int .i64 0,.int .i64 0,.int .i64 0,.slice none 0 0] 108)).frozen? ⟨w.heap.size,4,none⟩=false:=by simp
 go_enter Tryz.func166,Tryz.ntmps166;go_wp2_with (at_builtin;refine Q45 rfl _ _ rfl (w.heap.size+2) (.slice none 0 0) [] rfl (KLq _ _ _ _) o cap l rfl g (m.kept d) ?c1 ?c2 ?_)
 case c1=>simp;omega
 case c2=>omega
 generalize ((w.alloc (.cells #[.int .i64 a,.int .i64 b,.int .i64 f,.int .i64 s,.slice o l.length cap] 108)).alloc (.cells #[.int .i64 0,.int .i64 0,.int .i64 0,.int .i64 0,.slice none 0 0] 108))=w0 at *;intro v z hv u c;replace hv:ownB z (w.heap.size+2) v l:=hv;obtain⟨y,t,h,_⟩:=hv.open;subst h;replace i:=i.kept c (by omega);replace j:=j.kept c (by omega);replace k:=(c.frozen (p:=⟨w.heap.size,4,none⟩) (by show w.heap.size < w.heap.size+2;omega)).trans k;have q:=Q00 (d.trans (c.mono (by omega)));have r:=Q00 hv;clear d c hv u m;obtain⟨M,N,O,P,R⟩:=i
 obtain⟨⟨A,B,C,D,E⟩,F,G,H,I,J⟩:=j;go_wp2;refine bodyPost_ret (v:=pkt a b f s (.slice y l.length t)) (by simp[results,Tryz.results166,go_sem,A,B,C,D,E]) rfl ⟨_,rfl, ?_, ?_⟩
 ·refine Q06 (base:=w.heap.size+2) ?_ (by omega)
  repeat (refine ownsRow_setCell_below ?_ (by simp <;> omega) _)
  exact r.out
 ·repeat (refine KNq ?_ (by simp <;> omega) _)
  exact q.out
theorem Q0t (w:World) (k j:Nat) (cs:Array Value) (t:TypeId) (v:Value) (h:w.heap[k]? =some (.cells cs t (0,0))):(w.setCell ⟨k,j,none⟩ v).heap[k]? =some (.cells (cs.setIfInBounds j v) t (0,0)):=by
 simp[World.setCell,Array.getElem?_modify,h]
theorem Q3G (w:World) (k q j:Nat) (v:Value) (h:k≠q):(w.setCell ⟨q,j,none⟩ v).heap[k]? =w.heap[k]? :=Below.heap_setCell w ⟨q,j,none⟩ v k h
theorem Q5M (a b f s:Int) (o t:Option Addr) (cap u:Nat) (l:List Int) (g:List (Int × Int)) (pl st:Int) (w:World) (hR:Rd w o l) (Y:o=none->cap=0) (hl:l.length<=1048576) (hG:RdG w t g) (G:t=none->u=0) (ar:g.length<=1048576):
  Calls Tryz.prog 117 #[crr a b f s (.slice o l.length cap) (.slice t g.length u) pl st] w fun e w'=> ∃v vg,e=.returned (crr a b f s v vg pl st)/\ownB w' w.heap.size v l/\ownG w' w.heap.size vg g/\Below w.heap.size w w':=by
 have E:Below w.heap.size w ((w.alloc (.cells #[.int .i64 a,.int .i64 b,.int .i64 f,.int .i64 s,.slice o l.length cap,.slice t g.length u,.int .i64 pl,.int .i64 st] 111)).alloc (.cells #[.int .i64 0,.int .i64 0,.int .i64 0,.int .i64 0,.slice none 0 0,.slice none 0 0,.int .i64 0,.int .i64 0] 111)):=(KBq.alloc (Kaq _) _).alloc (by simp) _
 have af:((w.alloc (.cells #[.int .i64 a,.int .i64 b,.int .i64 f,.int .i64 s,.slice o l.length cap,.slice t g.length u,.int .i64 pl,.int .i64 st] 111)).alloc (.cells #[.int .i64 0,.int .i64 0,.int .i64 0,.int .i64 0,.slice none 0 0,.slice none 0 0,.int .i64 0,.int .i64 0] 111)).heap.size=w.heap.size+2:=by simp
 have p:((w.alloc (.cells #[.int .i64 a,.int .i64 b,.int .i64 f,.int .i64 s,.slice o l.length cap,.slice t g.length u,.int .i64 pl,.int .i64 st] 111)).alloc (.cells #[.int .i64 0,.int .i64 0,.int .i64 0,.int .i64 0,.slice none 0 0,.slice none 0 0,.int .i64 0,.int .i64 0] 111)).heap[w.heap.size]? =some (.cells #[.int .i64 a,.int .i64 b,.int .i64 f,.int .i64 s,.slice o l.length cap,.slice t g.length u,.int .i64 pl,.int .i64 st] 111 (0,0)):=(Below.heap_alloc (w.alloc (.cells #[.int .i64 a,.int .i64 b,.int .i64 f,.int .i64 s,.slice o l.length cap,.slice t g.length u,.int .i64 pl,.int .i64 st] 111)) (.cells #[.int .i64 0,.int .i64 0,.int .i64 0,.int .i64 0,.slice none 0 0,.slice none 0 0,.int .i64 0,.int .i64 0] 111) w.heap.size (by simp)).trans (World.alloc_heap_new w (.cells #[.int .i64 a,.int .i64 b,.int .i64 f,.int .i64 s,.slice o l.length cap,.slice t g.length u,.int .i64 pl,.int .i64 st] 111))
 have rx:((w.alloc (.cells #[.int .i64 a,.int .i64 b,.int .i64 f,.int .i64 s,.slice o l.length cap,.slice t g.length u,.int .i64 pl,.int .i64 st] 111)).alloc (.cells #[.int .i64 0,.int .i64 0,.int .i64 0,.int .i64 0,.slice none 0 0,.slice none 0 0,.int .i64 0,.int .i64 0] 111)).heap[w.heap.size+1]? =some (.cells #[.int .i64 0,.int .i64 0,.int .i64 0,.int .i64 0,.slice none 0 0,.slice none 0 0,.int .i64 0,.int .i64 0] 111 (0,0)):=by
  have:=World.alloc_heap_new (w.alloc (.cells #[.int .i64 a,.int .i64 b,.int .i64 f,.int .i64 s,.slice o l.length cap,.slice t g.length u,.int .i64 pl,.int .i64 st] 111)) (.cells #[.int .i64 0,.int .i64 0,.int .i64 0,.int .i64 0,.slice none 0 0,.slice none 0 0,.int .i64 0,.int .i64 0] 111)
  simpa only[World.size_alloc]using this
 go_enter Tryz.func117,Tryz.ntmps117;go_wp2_with fail;generalize ((w.alloc (.cells #[.int .i64 a,.int .i64 b,.int .i64 f,.int .i64 s,.slice o l.length cap,.slice t g.length u,.int .i64 pl,.int .i64 st] 111)).alloc (.cells #[.int .i64 0,.int .i64 0,.int .i64 0,.int .i64 0,.slice none 0 0,.slice none 0 0,.int .i64 0,.int .i64 0] 111))=w0 at *;refine(Q6Q a b f s o cap l w0 (hR.kept E) Y hl).mono ?_;rintro e n ⟨v1,rfl,A,x⟩;obtain⟨m,c1,Z,_⟩:=A.open;subst Z;replace p:=(x.block _ (by omega)).trans p;replace rx:=(x.block _ (by omega)).trans rx
 have ag:w.heap.size+2<=n.heap.size:=by have:=x.size;omega
 have X:Below w.heap.size w n:=E.trans (x.mono (by omega));rw[af]at A
 have i:(((((n.setCell ⟨w.heap.size,0,none⟩ (.int .i64 a)).setCell ⟨w.heap.size,1,none⟩ (.int .i64 b)).setCell ⟨w.heap.size,2,none⟩ (.int .i64 f)).setCell ⟨w.heap.size,3,none⟩ (.int .i64 s)).setCell ⟨w.heap.size,4,none⟩ (.slice m l.length c1)).heap[w.heap.size]? =some (.cells #[.int .i64 a,.int .i64 b,.int .i64 f,.int .i64 s,.slice m l.length c1,.slice t g.length u,.int .i64 pl,.int .i64 st] 111 (0,0)):=(Q0t _ w.heap.size 4 _ _ (.slice m l.length c1) (Q0t _ w.heap.size 3 _ _ (.int .i64 s) (Q0t _ w.heap.size 2 _ _ (.int .i64 f) (Q0t _ w.heap.size 1 _ _ (.int .i64 b) (Q0t _ w.heap.size 0 _ _ (.int .i64 a) p)))))
 have d:(((((n.setCell ⟨w.heap.size,0,none⟩ (.int .i64 a)).setCell ⟨w.heap.size,1,none⟩ (.int .i64 b)).setCell ⟨w.heap.size,2,none⟩ (.int .i64 f)).setCell ⟨w.heap.size,3,none⟩ (.int .i64 s)).setCell ⟨w.heap.size,4,none⟩ (.slice m l.length c1)).heap[w.heap.size+1]? =some (.cells #[.int .i64 0,.int .i64 0,.int .i64 0,.int .i64 0,.slice none 0 0,.slice none 0 0,.int .i64 0,.int .i64 0] 111 (0,0)):=by
  rw[Q3G _ _ _ _ _ (by omega),Q3G _ _ _ _ _ (by omega),Q3G _ _ _ _ _ (by omega),Q3G _ _ _ _ _ (by omega),Q3G _ _ _ _ _ (by omega)];exact rx
 have H:Below w.heap.size w (((((n.setCell ⟨w.heap.size,0,none⟩ (.int .i64 a)).setCell ⟨w.heap.size,1,none⟩ (.int .i64 b)).setCell ⟨w.heap.size,2,none⟩ (.int .i64 f)).setCell ⟨w.heap.size,3,none⟩ (.int .i64 s)).setCell ⟨w.heap.size,4,none⟩ (.slice m l.length c1)):=by
  repeat (refine KNq ?_ (by simp) _)
  exact X
 have r:ownB (((((n.setCell ⟨w.heap.size,0,none⟩ (.int .i64 a)).setCell ⟨w.heap.size,1,none⟩ (.int .i64 b)).setCell ⟨w.heap.size,2,none⟩ (.int .i64 f)).setCell ⟨w.heap.size,3,none⟩ (.int .i64 s)).setCell ⟨w.heap.size,4,none⟩ (.slice m l.length c1)) (w.heap.size+2) (.slice m l.length c1) l:=by
  repeat (refine ownsRow_setCell_below ?_ (by simp) _)
  exact A
 have y:w.heap.size+2<=(((((n.setCell ⟨w.heap.size,0,none⟩ (.int .i64 a)).setCell ⟨w.heap.size,1,none⟩ (.int .i64 b)).setCell ⟨w.heap.size,2,none⟩ (.int .i64 f)).setCell ⟨w.heap.size,3,none⟩ (.int .i64 s)).setCell ⟨w.heap.size,4,none⟩ (.slice m l.length c1)).heap.size:=by simpa[World.setCell]using ag
 have x0:n.cell? ⟨w.heap.size,0,none⟩=some (.int .i64 a):=Q01 p 0 _ rfl;have M:n.frozen? ⟨w.heap.size,0,none⟩=false:=Q09 p 0;have x1:n.cell? ⟨w.heap.size,1,none⟩=some (.int .i64 b):=Q01 p 1 _ rfl;have N:n.frozen? ⟨w.heap.size,1,none⟩=false:=Q09 p 1;have x2:n.cell? ⟨w.heap.size,2,none⟩=some (.int .i64 f):=Q01 p 2 _ rfl;have O:n.frozen? ⟨w.heap.size,2,none⟩=false:=Q09 p 2;have x3:n.cell? ⟨w.heap.size,3,none⟩=some (.int .i64 s):=Q01 p 3 _ rfl;have P:n.frozen? ⟨w.heap.size,3,none⟩=false:=Q09 p 3
 have x4:n.cell? ⟨w.heap.size,4,none⟩=some (.slice o l.length cap):=Q01 p 4 _ rfl;have R:n.frozen? ⟨w.heap.size,4,none⟩=false:=Q09 p 4;have x5:n.cell? ⟨w.heap.size,5,none⟩=some (.slice t g.length u):=Q01 p 5 _ rfl;have T:n.frozen? ⟨w.heap.size,5,none⟩=false:=Q09 p 5;have x6:n.cell? ⟨w.heap.size,6,none⟩=some (.int .i64 pl):=Q01 p 6 _ rfl;have U:n.frozen? ⟨w.heap.size,6,none⟩=false:=Q09 p 6;have x7:n.cell? ⟨w.heap.size,7,none⟩=some (.int .i64 st):=Q01 p 7 _ rfl;have V:n.frozen? ⟨w.heap.size,7,none⟩=false:=Q09 p 7;clear E x A X p rx;have C:=Q00 H
 have I:=Q00 r;have D:=Q00 y;have J:=Q00 i;have L:=Q00 d
 have ai:w.heap.size < n.heap.size:=by omega
 clear H r y i d;go_wp2_with (at_builtin;refine Q08 QhL rfl _ _ rfl (w.heap.size+2) _ [] rfl (KLq _ _ _ _) t u w.heap.size g g.length rfl rfl G ?c0 ?c1 ?c2 ?_)
 case c1=>simp;omega
 case c0=>exact(hG.lay).kept C.out (Kaq _)
 case c2=>exact D.out
 have H:=C.out;have r:=I.out;have y:=D.out;have i:=J.out;have d:=L.out;clear C I D J L;clear x0 M x1 N x2 O x3 P x4 R x5 T x6 U x7 V;generalize (((((n.setCell ⟨w.heap.size,0,none⟩ (.int .i64 a)).setCell ⟨w.heap.size,1,none⟩ (.int .i64 b)).setCell ⟨w.heap.size,2,none⟩ (.int .i64 f)).setCell ⟨w.heap.size,3,none⟩ (.int .i64 s)).setCell ⟨w.heap.size,4,none⟩ (.slice m l.length c1))=w5 at *;intro v2 c aa F _;have b6:Below (w.heap.size+2) w5 c:=KBq.grown F y (fun k h=>by cases h);have z:ownG c (w.heap.size+2) v2 g:=Q69.2 aa
 have B:ownB c (w.heap.size+2) (.slice m l.length c1) l:=by
  refine r.kept F ?_
  cases hob:(Value.slice m l.length c1).ownBlock with
  |none=>exact .inl rfl
  |some q=>right;intro h;cases h
 obtain⟨j,c2,ab,_⟩:=z.open;subst ab;have ac:=Q00 (H.trans (b6.mono (by omega)));replace i:=(b6.block _ (by omega)).trans i;replace d:=(b6.block _ (by omega)).trans d;have ae:=Q00 z;have ad:=Q00 B;have x0:c.cell? ⟨w.heap.size,0,none⟩=some (.int .i64 a):=Q01 i 0 _ rfl;have M:c.frozen? ⟨w.heap.size,0,none⟩=false:=Q09 i 0;have x1:c.cell? ⟨w.heap.size,1,none⟩=some (.int .i64 b):=Q01 i 1 _ rfl;have N:c.frozen? ⟨w.heap.size,1,none⟩=false:=Q09 i 1;have x2:c.cell? ⟨w.heap.size,2,none⟩=some (.int .i64 f):=Q01 i 2 _ rfl
 have O:c.frozen? ⟨w.heap.size,2,none⟩=false:=Q09 i 2;have x3:c.cell? ⟨w.heap.size,3,none⟩=some (.int .i64 s):=Q01 i 3 _ rfl;have P:c.frozen? ⟨w.heap.size,3,none⟩=false:=Q09 i 3;have x4:c.cell? ⟨w.heap.size,4,none⟩=some (.slice m l.length c1):=Q01 i 4 _ rfl;have R:c.frozen? ⟨w.heap.size,4,none⟩=false:=Q09 i 4;have x5:c.cell? ⟨w.heap.size,5,none⟩=some (.slice t g.length u):=Q01 i 5 _ rfl;have T:c.frozen? ⟨w.heap.size,5,none⟩=false:=Q09 i 5;have x6:c.cell? ⟨w.heap.size,6,none⟩=some (.int .i64 pl):=Q01 i 6 _ rfl
 have U:c.frozen? ⟨w.heap.size,6,none⟩=false:=Q09 i 6;have x7:c.cell? ⟨w.heap.size,7,none⟩=some (.int .i64 st):=Q01 i 7 _ rfl;have V:c.frozen? ⟨w.heap.size,7,none⟩=false:=Q09 i 7;have y0:c.cell? ⟨w.heap.size+1,0,none⟩=some (.int .i64 0):=Q01 d 0 _ rfl;have aj:c.frozen? ⟨w.heap.size+1,0,none⟩=false:=Q09 d 0;have y1:c.cell? ⟨w.heap.size+1,1,none⟩=some (.int .i64 0):=Q01 d 1 _ rfl;have ak:c.frozen? ⟨w.heap.size+1,1,none⟩=false:=Q09 d 1;have y2:c.cell? ⟨w.heap.size+1,2,none⟩=some (.int .i64 0):=Q01 d 2 _ rfl;have al:c.frozen? ⟨w.heap.size+1,2,none⟩=false:=Q09 d 2
 have y3:c.cell? ⟨w.heap.size+1,3,none⟩=some (.int .i64 0):=Q01 d 3 _ rfl;have am:c.frozen? ⟨w.heap.size+1,3,none⟩=false:=Q09 d 3;have y4:c.cell? ⟨w.heap.size+1,4,none⟩=some (.slice none 0 0):=Q01 d 4 _ rfl;have an:c.frozen? ⟨w.heap.size+1,4,none⟩=false:=Q09 d 4;have y5:c.cell? ⟨w.heap.size+1,5,none⟩=some (.slice none 0 0):=Q01 d 5 _ rfl;have ao:c.frozen? ⟨w.heap.size+1,5,none⟩=false:=Q09 d 5;have y6:c.cell? ⟨w.heap.size+1,6,none⟩=some (.int .i64 0):=Q01 d 6 _ rfl;have ap:c.frozen? ⟨w.heap.size+1,6,none⟩=false:=Q09 d 6
 have y7:c.cell? ⟨w.heap.size+1,7,none⟩=some (.int .i64 0):=Q01 d 7 _ rfl;have aq:c.frozen? ⟨w.heap.size+1,7,none⟩=false:=Q09 d 7;clear aa z B r H b6 F i y hR hG;have r0:(c.setCell ⟨w.heap.size,5,none⟩ (.slice j g.length c2)).heap[w.heap.size+1]? =some (.cells #[.int .i64 0,.int .i64 0,.int .i64 0,.int .i64 0,.slice none 0 0,.slice none 0 0,.int .i64 0,.int .i64 0] 111 (0,0)):=((Q3G c (w.heap.size+1) w.heap.size 5 (.slice j g.length c2) (by omega)).trans d)
 have r1:((c.setCell ⟨w.heap.size,5,none⟩ (.slice j g.length c2)).setCell ⟨w.heap.size+1,0,none⟩ (.int .i64 a)).heap[w.heap.size+1]? =some (.cells #[.int .i64 a,.int .i64 0,.int .i64 0,.int .i64 0,.slice none 0 0,.slice none 0 0,.int .i64 0,.int .i64 0] 111 (0,0)):=Q0t (c.setCell ⟨w.heap.size,5,none⟩ (.slice j g.length c2)) (w.heap.size+1) 0 _ _ (.int .i64 a) r0
 have r2:(((c.setCell ⟨w.heap.size,5,none⟩ (.slice j g.length c2)).setCell ⟨w.heap.size+1,0,none⟩ (.int .i64 a)).setCell ⟨w.heap.size+1,1,none⟩ (.int .i64 b)).heap[w.heap.size+1]? =some (.cells #[.int .i64 a,.int .i64 b,.int .i64 0,.int .i64 0,.slice none 0 0,.slice none 0 0,.int .i64 0,.int .i64 0] 111 (0,0)):=Q0t ((c.setCell ⟨w.heap.size,5,none⟩ (.slice j g.length c2)).setCell ⟨w.heap.size+1,0,none⟩ (.int .i64 a)) (w.heap.size+1) 1 _ _ (.int .i64 b) r1
 have r3:((((c.setCell ⟨w.heap.size,5,none⟩ (.slice j g.length c2)).setCell ⟨w.heap.size+1,0,none⟩ (.int .i64 a)).setCell ⟨w.heap.size+1,1,none⟩ (.int .i64 b)).setCell ⟨w.heap.size+1,2,none⟩ (.int .i64 f)).heap[w.heap.size+1]? =some (.cells #[.int .i64 a,.int .i64 b,.int .i64 f,.int .i64 0,.slice none 0 0,.slice none 0 0,.int .i64 0,.int .i64 0] 111 (0,0)):=Q0t (((c.setCell ⟨w.heap.size,5,none⟩ (.slice j g.length c2)).setCell ⟨w.heap.size+1,0,none⟩ (.int .i64 a)).setCell ⟨w.heap.size+1,1,none⟩ (.int .i64 b)) (w.heap.size+1) 2 _ _ (.int .i64 f) r2
 have r4:(((((c.setCell ⟨w.heap.size,5,none⟩ (.slice j g.length c2)).setCell ⟨w.heap.size+1,0,none⟩ (.int .i64 a)).setCell ⟨w.heap.size+1,1,none⟩ (.int .i64 b)).setCell ⟨w.heap.size+1,2,none⟩ (.int .i64 f)).setCell ⟨w.heap.size+1,3,none⟩ (.int .i64 s)).heap[w.heap.size+1]? =some (.cells #[.int .i64 a,.int .i64 b,.int .i64 f,.int .i64 s,.slice none 0 0,.slice none 0 0,.int .i64 0,.int .i64 0] 111 (0,0)):=Q0t ((((c.setCell ⟨w.heap.size,5,none⟩ (.slice j g.length c2)).setCell ⟨w.heap.size+1,0,none⟩ (.int .i64 a)).setCell ⟨w.heap.size+1,1,none⟩ (.int .i64 b)).setCell ⟨w.heap.size+1,2,none⟩ (.int .i64 f)) (w.heap.size+1) 3 _ _ (.int .i64 s) r3
 have r5:((((((c.setCell ⟨w.heap.size,5,none⟩ (.slice j g.length c2)).setCell ⟨w.heap.size+1,0,none⟩ (.int .i64 a)).setCell ⟨w.heap.size+1,1,none⟩ (.int .i64 b)).setCell ⟨w.heap.size+1,2,none⟩ (.int .i64 f)).setCell ⟨w.heap.size+1,3,none⟩ (.int .i64 s)).setCell ⟨w.heap.size+1,4,none⟩ (.slice m l.length c1)).heap[w.heap.size+1]? =some (.cells #[.int .i64 a,.int .i64 b,.int .i64 f,.int .i64 s,.slice m l.length c1,.slice none 0 0,.int .i64 0,.int .i64 0] 111 (0,0)):=Q0t (((((c.setCell ⟨w.heap.size,5,none⟩ (.slice j g.length c2)).setCell ⟨w.heap.size+1,0,none⟩ (.int .i64 a)).setCell ⟨w.heap.size+1,1,none⟩ (.int .i64 b)).setCell ⟨w.heap.size+1,2,none⟩ (.int .i64 f)).setCell ⟨w.heap.size+1,3,none⟩ (.int .i64 s)) (w.heap.size+1) 4 _ _ (.slice m l.length c1) r4
 have r6:(((((((c.setCell ⟨w.heap.size,5,none⟩ (.slice j g.length c2)).setCell ⟨w.heap.size+1,0,none⟩ (.int .i64 a)).setCell ⟨w.heap.size+1,1,none⟩ (.int .i64 b)).setCell ⟨w.heap.size+1,2,none⟩ (.int .i64 f)).setCell ⟨w.heap.size+1,3,none⟩ (.int .i64 s)).setCell ⟨w.heap.size+1,4,none⟩ (.slice m l.length c1)).setCell ⟨w.heap.size+1,5,none⟩ (.slice j g.length c2)).heap[w.heap.size+1]? =some (.cells #[.int .i64 a,.int .i64 b,.int .i64 f,.int .i64 s,.slice m l.length c1,.slice j g.length c2,.int .i64 0,.int .i64 0] 111 (0,0)):=Q0t ((((((c.setCell ⟨w.heap.size,5,none⟩ (.slice j g.length c2)).setCell ⟨w.heap.size+1,0,none⟩ (.int .i64 a)).setCell ⟨w.heap.size+1,1,none⟩ (.int .i64 b)).setCell ⟨w.heap.size+1,2,none⟩ (.int .i64 f)).setCell ⟨w.heap.size+1,3,none⟩ (.int .i64 s)).setCell ⟨w.heap.size+1,4,none⟩ (.slice m l.length c1)) (w.heap.size+1) 5 _ _ (.slice j g.length c2) r5
 have r7:((((((((c.setCell ⟨w.heap.size,5,none⟩ (.slice j g.length c2)).setCell ⟨w.heap.size+1,0,none⟩ (.int .i64 a)).setCell ⟨w.heap.size+1,1,none⟩ (.int .i64 b)).setCell ⟨w.heap.size+1,2,none⟩ (.int .i64 f)).setCell ⟨w.heap.size+1,3,none⟩ (.int .i64 s)).setCell ⟨w.heap.size+1,4,none⟩ (.slice m l.length c1)).setCell ⟨w.heap.size+1,5,none⟩ (.slice j g.length c2)).setCell ⟨w.heap.size+1,6,none⟩ (.int .i64 pl)).heap[w.heap.size+1]? =some (.cells #[.int .i64 a,.int .i64 b,.int .i64 f,.int .i64 s,.slice m l.length c1,.slice j g.length c2,.int .i64 pl,.int .i64 0] 111 (0,0)):=Q0t (((((((c.setCell ⟨w.heap.size,5,none⟩ (.slice j g.length c2)).setCell ⟨w.heap.size+1,0,none⟩ (.int .i64 a)).setCell ⟨w.heap.size+1,1,none⟩ (.int .i64 b)).setCell ⟨w.heap.size+1,2,none⟩ (.int .i64 f)).setCell ⟨w.heap.size+1,3,none⟩ (.int .i64 s)).setCell ⟨w.heap.size+1,4,none⟩ (.slice m l.length c1)).setCell ⟨w.heap.size+1,5,none⟩ (.slice j g.length c2)) (w.heap.size+1) 6 _ _ (.int .i64 pl) r6
 have r8:(((((((((c.setCell ⟨w.heap.size,5,none⟩ (.slice j g.length c2)).setCell ⟨w.heap.size+1,0,none⟩ (.int .i64 a)).setCell ⟨w.heap.size+1,1,none⟩ (.int .i64 b)).setCell ⟨w.heap.size+1,2,none⟩ (.int .i64 f)).setCell ⟨w.heap.size+1,3,none⟩ (.int .i64 s)).setCell ⟨w.heap.size+1,4,none⟩ (.slice m l.length c1)).setCell ⟨w.heap.size+1,5,none⟩ (.slice j g.length c2)).setCell ⟨w.heap.size+1,6,none⟩ (.int .i64 pl)).setCell ⟨w.heap.size+1,7,none⟩ (.int .i64 st)).heap[w.heap.size+1]? =some (.cells #[.int .i64 a,.int .i64 b,.int .i64 f,.int .i64 s,.slice m l.length c1,.slice j g.length c2,.int .i64 pl,.int .i64 st] 111 (0,0)):=Q0t ((((((((c.setCell ⟨w.heap.size,5,none⟩ (.slice j g.length c2)).setCell ⟨w.heap.size+1,0,none⟩ (.int .i64 a)).setCell ⟨w.heap.size+1,1,none⟩ (.int .i64 b)).setCell ⟨w.heap.size+1,2,none⟩ (.int .i64 f)).setCell ⟨w.heap.size+1,3,none⟩ (.int .i64 s)).setCell ⟨w.heap.size+1,4,none⟩ (.slice m l.length c1)).setCell ⟨w.heap.size+1,5,none⟩ (.slice j g.length c2)).setCell ⟨w.heap.size+1,6,none⟩ (.int .i64 pl)) (w.heap.size+1) 7 _ _ (.int .i64 st) r7
 have ah:Hid ((((((((((c.setCell ⟨w.heap.size,5,none⟩ (.slice j g.length c2)).setCell ⟨w.heap.size+1,0,none⟩ (.int .i64 a)).setCell ⟨w.heap.size+1,1,none⟩ (.int .i64 b)).setCell ⟨w.heap.size+1,2,none⟩ (.int .i64 f)).setCell ⟨w.heap.size+1,3,none⟩ (.int .i64 s)).setCell ⟨w.heap.size+1,4,none⟩ (.slice m l.length c1)).setCell ⟨w.heap.size+1,5,none⟩ (.slice j g.length c2)).setCell ⟨w.heap.size+1,6,none⟩ (.int .i64 pl)).setCell ⟨w.heap.size+1,7,none⟩ (.int .i64 st)).heap[w.heap.size+1]? =some (.cells #[.int .i64 a,.int .i64 b,.int .i64 f,.int .i64 s,.slice m l.length c1,.slice j g.length c2,.int .i64 pl,.int .i64 st] 111 (0,0))):=r8
 clear r0 r1 r2 r3 r4 r5 r6 r7 r8
 have H1:Hid (ownB (((((((((c.setCell ⟨w.heap.size,5,none⟩ (.slice j g.length c2)).setCell ⟨w.heap.size+1,0,none⟩ (.int .i64 a)).setCell ⟨w.heap.size+1,1,none⟩ (.int .i64 b)).setCell ⟨w.heap.size+1,2,none⟩ (.int .i64 f)).setCell ⟨w.heap.size+1,3,none⟩ (.int .i64 s)).setCell ⟨w.heap.size+1,4,none⟩ (.slice m l.length c1)).setCell ⟨w.heap.size+1,5,none⟩ (.slice j g.length c2)).setCell ⟨w.heap.size+1,6,none⟩ (.int .i64 pl)).setCell ⟨w.heap.size+1,7,none⟩ (.int .i64 st)) (w.heap.size+2) (.slice m l.length c1) l):=by
  show ownB _ _ _ _
  repeat (refine ownsRow_setCell_below ?_ (by simp) _)
  exact ad.out
 have H2:Hid (ownG (((((((((c.setCell ⟨w.heap.size,5,none⟩ (.slice j g.length c2)).setCell ⟨w.heap.size+1,0,none⟩ (.int .i64 a)).setCell ⟨w.heap.size+1,1,none⟩ (.int .i64 b)).setCell ⟨w.heap.size+1,2,none⟩ (.int .i64 f)).setCell ⟨w.heap.size+1,3,none⟩ (.int .i64 s)).setCell ⟨w.heap.size+1,4,none⟩ (.slice m l.length c1)).setCell ⟨w.heap.size+1,5,none⟩ (.slice j g.length c2)).setCell ⟨w.heap.size+1,6,none⟩ (.int .i64 pl)).setCell ⟨w.heap.size+1,7,none⟩ (.int .i64 st)) (w.heap.size+2) (.slice j g.length c2) g):=by
  show ownG _ _ _ _
  repeat (refine ownsRow_setCell_below ?_ (by simp) _)
  exact ae.out
 have H3:Hid (Below w.heap.size w (((((((((c.setCell ⟨w.heap.size,5,none⟩ (.slice j g.length c2)).setCell ⟨w.heap.size+1,0,none⟩ (.int .i64 a)).setCell ⟨w.heap.size+1,1,none⟩ (.int .i64 b)).setCell ⟨w.heap.size+1,2,none⟩ (.int .i64 f)).setCell ⟨w.heap.size+1,3,none⟩ (.int .i64 s)).setCell ⟨w.heap.size+1,4,none⟩ (.slice m l.length c1)).setCell ⟨w.heap.size+1,5,none⟩ (.slice j g.length c2)).setCell ⟨w.heap.size+1,6,none⟩ (.int .i64 pl)).setCell ⟨w.heap.size+1,7,none⟩ (.int .i64 st))):=by
  show Below _ _ _
  repeat (refine KNq ?_ (by simp) _)
  exact ac.out
 clear d;go_wp2;generalize (((((((((c.setCell ⟨w.heap.size,5,none⟩ (.slice j g.length c2)).setCell ⟨w.heap.size+1,0,none⟩ (.int .i64 a)).setCell ⟨w.heap.size+1,1,none⟩ (.int .i64 b)).setCell ⟨w.heap.size+1,2,none⟩ (.int .i64 f)).setCell ⟨w.heap.size+1,3,none⟩ (.int .i64 s)).setCell ⟨w.heap.size+1,4,none⟩ (.slice m l.length c1)).setCell ⟨w.heap.size+1,5,none⟩ (.slice j g.length c2)).setCell ⟨w.heap.size+1,6,none⟩ (.int .i64 pl)).setCell ⟨w.heap.size+1,7,none⟩ (.int .i64 st))=w9 at *;obtain⟨z0,z1,z2,z3,z4,z5,z6,z7⟩:=cxb8v0v0 ah.out
 refine bodyPost_ret (v:=crr a b f s (.slice m l.length c1) (.slice j g.length c2) pl st) (by simp[results,Tryz.results117,go_sem,z0,z1,z2,z3,z4,z5,z6,z7]) rfl ⟨_,_,rfl, ?_, ?_, ?_⟩
 ·exact Q06 (base:=w.heap.size+2) H1.out (by omega)
 ·exact Q06 (base:=w.heap.size+2) H2.out (by omega)
 ·exact H3.out
structure Cm where
 a:Int
 b:Int
 f:Int
 s:Int
 l:List Int
 g:List (Int × Int)
 pl:Int
 st:Int
def Cm.zero:Cm:=⟨0,0,0,0,[],[],0,0⟩
abbrev InG:=InL Q1R 136
theorem InG.of {w:World} {base:Nat} {v:Value} {l:List (Int × Int)} (h:ownG w base v l):InG base w.heap.size w v l:=InRow.of (Q69.1 h)
theorem Q6h {w:World} {o:Option Addr} {l:List (Int × Int)}:RdL Q1R w.heap.size w o l↔RdG w o l:=by
 constructor
 ·rintro(h|⟨b,off,ho,hb,r⟩)
  ·exact .inl h
  ·exact .inr ⟨b,off,ho,hb,fun i hi=>⟨r i hi 0 (by decide),r i hi 1 (by decide)⟩⟩
 ·exact RdG.lay
def QbR (m:Cm):Prop:=m.l.length+m.g.length<=1048576/\isB m.l
end Go.Proofs.YteffhdcankkfkaaGreat
namespace Go.Proofs.YteffhdcankkfkaaGreat
open Go.ChangeShapes Go.WideShapes Go.ChangeAt Go.RowKit Go.Joins Go.Shelf
set_option linter.unusedVariables false
set_option linter.unusedSimpArgs false
set_option maxRecDepth 100000
set_option maxHeartbeats 40000000
attribute [local go_sem] Oper.semAt_some
abbrev QfW (a p:Int):Value:=.agg #[.int .i64 a,.int .i64 p]
theorem QgR (o:Option Addr) (n c:Nat) (a p:Int) (w:World) (f:0 < n) (s:n<=1048576) (d:Q0g a p=true):
  Calls Tryz.prog 264 #[tab (.slice o n c),QfW a p] w fun e k=>e=.returned (.int .i64 (Q20 n a p))/\Below w.heap.size w k:=by
 have i:Below w.heap.size w w:=KBq;have r:=QbX f d;have j:=Q3c f a p;have h:=Q2t.1 d
 have b:¬((n:Int)=0):=by omega
 have g:((n:Int)==0)=false:=by simpa using b
 obtain⟨l,h2,m,q⟩:=h;go_enter Tryz.func264,Tryz.ntmps264;go_wp2;go_ret;exact⟨rfl,by(repeat (first|with_reducible (first|exact i|exact KBq|refine KHq ?_|refine below_drewN ?_ _|refine KOq ?_ ?_ _|refine KNq ?_ ?_ _)|(focus (simp;first|done|omega))|omega))⟩
theorem Qdy (o:Option Addr) (n c i:Nat) (w:World) (f:0 < n) (j:n<=1048576) (hi:i < n):
  Calls Tryz.prog 265 #[tab (.slice o n c),.int .i64 i] w fun e g=>e=.returned (.int .i64 ((i+1) % n:Nat))/\Below w.heap.size w g:=by
 have b:Below w.heap.size w w:=KBq;have h:=Q9Q n i;have d:=Q6N f i;have a:((n:Int)==0)=false:=beq_eq_false_iff_ne.2 (by omega);go_enter Tryz.func265,Tryz.ntmps265;go_wp2;go_ret;exact⟨rfl,by(repeat (first|with_reducible (first|exact b|exact KBq|refine KHq ?_|refine below_drewN ?_ _|refine KOq ?_ ?_ _|refine KNq ?_ ?_ _)|(focus (simp;first|done|omega))|omega))⟩
abbrev Met:=Nat × Sl
def Q3X (l:List Sl) (h j:Nat):Met:=((h+j) % l.length,l.getD ((h+j) % l.length) sl0)
def Q3h (f:Nat->Met) (k:Nat):List Met:=(List.range k).map f
theorem Q4X (f:Nat->Met) (k:Nat):Q3h f (k+1)=Q3h f k++[f k]:=by simp[Q3h,List.range_succ]
theorem QaD (f:Nat->Met) (k:Nat):(Q3h f k).length=k:=by simp[Q3h]
theorem QdP (f:Nat->Met) (k:Nat):Q3h f (k+1)=f 0::Q3h (fun j=>f (j+1)) k:=by
 simp[Q3h,List.range_succ_eq_map,Function.comp_def]
theorem Qgq (f:Nat->Met) {k m:Nat} (h:k<=m):∃r,Q3h f m=Q3h f k++r:=by
 obtain⟨d,rfl⟩:=Nat.exists_eq_add_of_le h
 induction d with
 |zero=>exact⟨[],by simp⟩
 |succ d ih=>obtain⟨r,a⟩:=ih (by omega);exact⟨r++[f (k+d)],by rw[<-Nat.add_assoc,Q4X,a,List.append_assoc]⟩
def Q6E (a p:Int) (x:Met):Option (Int × Bool):=if x.2.u=true then(if x.2.a=a/\x.2.p=p then some ((x.1:Int),true)else none)else some ((x.1:Int),false)
def QbY (a p:Int) (l:List Met):Option (Int × Bool):=l.findSome? (Q6E a p)
theorem Qe6 (a p:Int) (l:List Met) (x:Met) (h:QbY a p l=none):QbY a p (l++[x])=Q6E a p x:=by
 unfold QbY at *;rw[List.findSome?_append,h];simp
theorem QeJ (a p:Int) (l r:List Met) {E:Int × Bool} (h:QbY a p l=some E):QbY a p (l++r)=some E:=by
 unfold QbY at *;rw[List.findSome?_append,h];simp
theorem Q52 (l:List Sl) (b:0 < l.length) (a p:Int):∀(f i:Nat),i < l.length->Q48 l a p f i=(QbY a p (Q3h (Q3X l i) f)).getD (-1,false)
 |0,i,_=>rfl
 |f+1,i,hi=>by
  have c:Q3X l i 0=(i,l.getD i sl0):=by simp[Q3X,Qap hi]
  have d:(fun j=>Q3X l i (j+1))=Q3X l ((i+1) % l.length):=by
   funext j
   unfold Q3X;rw[show(i+(j+1)) % l.length=((i+1) % l.length+j) % l.length by rw[Nat.add_mod ((i+1) % l.length),Nat.mod_mod,<-Nat.add_mod];congr 1;omega]
  rw[QdP,c,d];unfold QbY;rw[List.findSome?_cons]
  cases hu:(l.getD i sl0).u with
  |false=>rw[Q55 hu,show Q6E a p (i,l.getD i sl0)=some ((i:Int),false)by unfold Q6E;rw[if_neg (by rw[hu];decide)]];rfl
  |true=>
   by_cases h:(l.getD i sl0).a=a/\(l.getD i sl0).p=p
   ·rw[Q75 hu h.1 h.2,show Q6E a p (i,l.getD i sl0)=some ((i:Int),true)by unfold Q6E;rw[if_pos hu,if_pos h]];rfl
   ·rw[Q5r hu h,show Q6E a p (i,l.getD i sl0)=none by unfold Q6E;rw[if_pos hu,if_neg h]]
    exact Q52 l b a p f _ (Q6N b i)
theorem QeU {l:List Sl} (hn:0 < l.length) {a p:Int} (h:QbY a p (Q3h (Q3X l (Q20 l.length a p)) l.length)=none):Q2x l a p=(-1,false):=by
 unfold Q2x;rw[Q52 l hn a p _ _ (Q3c hn a p),h];rfl
theorem Qe0 {l:List Sl} (b:0 < l.length) {a p:Int} {k:Nat} {E:Int × Bool} (c:k<=l.length) (h:QbY a p (Q3h (Q3X l (Q20 l.length a p)) k)=some E):Q2x l a p=E:=by
 obtain⟨r,d⟩:=Qgq (Q3X l (Q20 l.length a p)) c;unfold Q2x;rw[Q52 l b a p _ _ (Q3c b a p),d,QeJ _ _ _ r h];rfl
attribute [local go_sem] Oper.semAt_some
def KpW (n₀ Bs:Nat) (W W':World):Prop:=Below n₀ W W'/\W'.heap[Bs]? =W.heap[Bs]?
theorem KpW.trans {n₀ Bs:Nat} {A B C:World} (h:KpW n₀ Bs A B) (k:KpW n₀ Bs B C):KpW n₀ Bs A C:=⟨h.1.trans k.1,k.2.trans h.2⟩
theorem Q2F {W W':World} {B o:Nat} (h:W'.heap[B]? =W.heap[B]?):W'.cell? ⟨B,o,none⟩=W.cell? ⟨B,o,none⟩:=by simp[World.cell?,h]
theorem Q7l {W W':World} (h:Below W.heap.size W W'):W.grownBy W' none:=⟨h.os,h.tape,h.output,h.size,fun k hk _=>h.block k hk⟩
theorem QfP (h k n:Nat):(h+(k+1)) % n=((h+k) % n+1) % n:=by rw[Nat.mod_add_mod,Nat.add_assoc]
theorem Qg9 (l:List Sl) (h k:Nat):Q3X l h k=((h+k) % l.length,l.getD ((h+k) % l.length) sl0):=rfl
theorem Qfw (n:Nat) (am:1<=n) (y Bs Bf E b c cap:Nat) (l:List Sl) (a p:Int) (Z:0 < l.length) (hl:l.length<=1048576) (hf:Q0g a p=true) (F:b < E) (J Jx:List Met->World->Prop)
  (hY:∀f x W,J f W->f.length < l.length->YieldAt Fence.wide (n - 1) Tryz.prog y #[.int .i64 (x.1:Nat),slot x.2] W fun e W'=>
   (e=.returned (.bool true)/\J (f++[x]) W'/\KpW E Bs W W')\/(e=.returned (.bool false)/\Jx (f++[x]) W'))
  (W:World) (N:W.cell? ⟨Bs,0,none⟩=some (.slice (some ⟨b,c,none⟩) l.length cap)) (ak:W.cell? ⟨Bf,0,none⟩=some (.int .i64 a)) (al:W.cell? ⟨Bf,1,none⟩=some (.int .i64 p))
  (hc:∀i,i < l.length->∀j,j < Q0u.k->W.cell? ⟨b,c+i * Q0u.k+j,none⟩=(Q0u.cs (l.getD i Q0u.d))[j]?) (L:∀f W W',J f W->Below W.heap.size W W'->J f W') (R:E<=W.heap.size) (z:Bs < W.heap.size) (h0:J [] W):
  CallsIn Fence.wide n Tryz.prog 263 #[.func (.yield y) #[] #[],.pointer (some ⟨Bs,0,none⟩),.pointer (some ⟨Bf,0,none⟩)] W fun e W'=>(∃v,e=.returned v)/\
   ((∃ys,ys=Q3h (Q3X l (Q20 l.length a p)) l.length/\J ys W')\/(∃f,(∃k,k<=l.length/\f=Q3h (Q3X l (Q20 l.length a p)) k)/\Jx f W')):=by
 refine callsIn_of_wp Tryz.func263 rfl trivial ?_ rfl;simp only[Tryz.ntmps263,List.size_toArray,List.length_cons,List.length_nil,Nat.reduceAdd,Nat.reduceSub,Array.replicate_succ,Array.replicate_zero,List.push_toArray,List.append_toArray,List.nil_append,List.cons_append];have HC:=Q00 hc;have hh:=Q3c Z a p;clear hc
 gi_wp2_with (refine⟨trivial, ?_⟩;gi_at_call 264;refine(callsIn_wide.2 (QgR (some ⟨b,c,none⟩) l.length cap a p W Z hl hf)).mono ?_;rintro e A ⟨rfl,B⟩;have O:=(B.cell (p:=⟨Bs,0,none⟩) z).trans N;have m:=Q00 B;clear B)
 have I:=Q00 (L _ _ _ h0 m.out);have ag:E<=A.heap.size:=Kdq R m.out.size;have H:Bs < A.heap.size:=Kbq z m.out.size
 have G:Hid (∀i,i < l.length->∀j,j < Q0u.k->A.cell? ⟨b,c+i * Q0u.k+j,none⟩=(Q0u.cs (l.getD i Q0u.d))[j]?):=fun i hi j hj=>(m.out.cell (p:=⟨b,c+i * Q0u.k+j,none⟩) (Kbq F R)).trans (HC.out i hi j hj)
 clear HC h0 N m
 gi_loopw [4,11] (fun ad i wr=> ∃k:Nat,k<=l.length/\i=.int .i64 k/\ad=.int .i64 (((Q20 l.length a p+k) % l.length:Nat))/\J (Q3h (Q3X l (Q20 l.length a p)) k) wr/\KpW E Bs A wr/\A.heap.size<=wr.heap.size)
  (fun _ i _=>l.length - (intOf i).toNat)
 case atStart=>exact⟨0,Kcq _,rfl,by rw[Nat.add_zero,Qap hh],I.out,⟨KBq,rfl⟩,Kaq _⟩
 case round=>
  obtain⟨k,hk,rfl,rfl,w,⟨h,D⟩,U⟩:=hrel
  by_cases hlt:k < l.length
  ·have af:=(Q2F (o:=0) D).trans O
   have hq:=Nat.mod_lt (Q20 l.length a p+k) Z;have r:=QfP (Q20 l.length a p) k l.length;have P:=Qg9 l (Q20 l.length a p) k;have g:=RdL.slot (C:=E) G.out _ hq;have ac:=Q00 r;have u:=Q00 P;clear r P;generalize hqq:(Q20 l.length a p+k) % l.length=q at *;obtain⟨s,V⟩:∃s,l.getD q sl0=s:=⟨_,rfl⟩;rw[V]at g u;have e0:=(h.cell (p:=⟨b,c+q * 5,none⟩) F).trans g.1;have e1:=(h.cell (p:=⟨b,c+q * 5+1,none⟩) F).trans g.2.1;have e2:=(h.cell (p:=⟨b,c+q * 5+2,none⟩) F).trans g.2.2.1;have e3:=(h.cell (p:=⟨b,c+q * 5+3,none⟩) F).trans g.2.2.2.1
   have e4:=(h.cell (p:=⟨b,c+q * 5+4,none⟩) F).trans g.2.2.2.2
   have i1:(q:Int) < (l.length:Int):=by omega
   have i2:(k:Int) < (l.length:Int):=by omega
   obtain⟨fn,tmps,X,ah,hy,Y⟩:=hY _ (Q3X l (Q20 l.length a p) k) wr w (by rw[QaD];exact hlt);rw[u.out]at hy Y;dsimp only at hy Y;have HK:=Q00 (show KpW E Bs A wr from⟨h,D⟩);have ai:=Q00 w;clear g V hqq h D w I G hY
   gi_wp2
   refine Y.mono ?_;rintro e W3 (⟨rfl,hJ3,hk3⟩|⟨rfl,hJx3⟩)
   ·have aj:=(Q2F (o:=0) hk3.2).trans af
    have aa:=Q00 hJ3;have ab:=Q00 (HK.out.trans hk3);have ae:Bs < W3.heap.size:=Kbq H (Kdq U hk3.1.size);have T:A.heap.size<=W3.heap.size:=Kdq U hk3.1.size;clear hJ3 hk3 Y hy
    gi_wp2_with (refine⟨trivial, ?_⟩;gi_at_call 265;refine(callsIn_wide.2 (Qdy (some ⟨b,c,none⟩) l.length cap q W3 Z hl hq)).mono ?_;rintro e W4 ⟨rfl,M⟩;have t:=Q00 M;clear M)
    go_roundw
    case rel=>
     refine⟨k+1,by omega,by simp,by rw[ac.out];simp, ?_,ab.out.trans ⟨t.out.mono (Kdq ag T),t.out.block _ ae⟩,Kdq T t.out.size⟩;rw[Q4X,u.out];exact L _ _ _ aa.out t.out
    case measure=>simp[intOf];omega
   ·gi_wp2
    refine bodyPost_ret (results_none rfl _ _ _) rfl ?_;exact⟨⟨_,rfl⟩,.inr ⟨_,⟨k+1,by omega,by rw[Q4X,u.out]⟩,hJx3⟩⟩
  ·obtain rfl:k=l.length:=by omega
   gi_wp2
   go_end0
   exact⟨⟨_,rfl⟩,.inl ⟨_,rfl,w⟩⟩
theorem Qgi (n:Nat) (v:Value) (a p:Int) (w:World):
  CallsIn Fence.wide n Tryz.prog 254 #[tab v,QfW a p] w fun e b=>e=.returned (.func (.func 263) #[] #[.pointer (some ⟨w.heap.size,0,none⟩),.pointer (some ⟨w.heap.size+1,0,none⟩)])/\b=(w.alloc (.cells #[v] 119)).alloc (.cells #[.int .i64 a,.int .i64 p] 73):=by
 refine callsIn_of_wp Tryz.func254 rfl trivial ?_ rfl;simp only[Tryz.ntmps254,List.size_toArray,List.length_cons,List.length_nil,Nat.reduceAdd,Nat.reduceSub,Array.replicate_succ,Array.replicate_zero,List.push_toArray,List.append_toArray,List.nil_append,List.cons_append]
 gi_wp2
 go_ret;exact⟨rfl,rfl⟩
theorem Qfb (n:Nat) (B:1<=n) (Bs Bf s b c cap:Nat) (l:List Sl) (a p:Int) (N:0 < l.length) (M:l.length<=1048576) (I:Q0g a p=true) (w:World) (m:Bs < w.heap.size) (h:Bf < w.heap.size) (t:b < s) (q:s<=w.heap.size)
  (v:w.cell? ⟨Bs,0,none⟩=some (.slice (some ⟨b,c,none⟩) l.length cap)) (z:w.cell? ⟨Bf,0,none⟩=some (.int .i64 a)) (A:w.cell? ⟨Bf,1,none⟩=some (.int .i64 p))
  (H:∀i,i < l.length->∀j,j < Q0u.k->w.cell? ⟨b,c+i * Q0u.k+j,none⟩=(Q0u.cs (l.getD i Q0u.d))[j]?):
  SeqStopsK Fence.wide n Tryz.prog 263 #[.pointer (some ⟨Bs,0,none⟩),.pointer (some ⟨Bf,0,none⟩)] (fun x:Met=> #[.int .i64 (x.1:Nat),slot x.2]) (KpW s Bs) (fun O=>O=Q3h (Q3X l (Q20 l.length a p)) l.length)
   (fun f=> ∃k,k<=l.length/\f=Q3h (Q3X l (Q20 l.length a p)) k) l.length w:=fun y J Jx W g F _ G E=>by
 have u:Below s w W:=g.mono q
 exact Qfw n B y Bs Bf s b c cap l a p N M I t J Jx G W ((g.cell (p:=⟨Bs,0,none⟩) m).trans v) ((g.cell (p:=⟨Bf,0,none⟩) h).trans z) ((g.cell (p:=⟨Bf,1,none⟩) h).trans A)
  (fun i hi j L=>(u.cell (p:=⟨b,c+i * Q0u.k+j,none⟩) t).trans (H i hi j L))
  (fun f C D hs t=>F f C D none hs (Q7l t) (fun r e=>by cases e)) (Kdq q g.size) (Kbq m g.size) E
end Go.Proofs.YteffhdcankkfkaaGreat
