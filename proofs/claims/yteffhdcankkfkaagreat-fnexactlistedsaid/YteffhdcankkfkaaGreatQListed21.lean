/- What is on the route, ranged over by a function: the contracts of stops and of what it hands back. -/
import Derived.RangeFuncNested
import Derived.RangeFuncBound
import Derived.RangeFuncCalls
import Derived.RangeFuncLeaves
import Derived.RangeFuncBox
import Derived.Shelf.Abstract
import Derived.Shelf.RegionOpen
import Derived.OwnWalkIn
import Derived.TacticsInMore
import Derived.LoopNIn
import Derived.LoopIn
import Derived.Test.YteffhdcankkfkaaGreatQListed20
namespace Go.Proofs.YteffhdcankkfkaaGreat
open Go.ChangeShapes Go.WideShapes Go.ChangeAt Go.RowKit Go.Joins Go.Shelf
set_option linter.unusedVariables false
set_option linter.unusedSimpArgs false
set_option maxRecDepth 100000
set_option maxHeartbeats 40000000
attribute [local go_sem] Oper.semAt_some
abbrev QfH:=(Int × Int) × Bool
def Q3r (g:List (Int × Int)) (pl:Int) (j:Nat):QfH:=(g[j]?.getD (0,0),decide ((j:Int)=pl))
def upto {α:Type} (f:Nat->α) (k:Nat):List α:=(List.range k).map f
theorem Q7c {α:Type} (f:Nat->α) (k:Nat):upto f (k+1)=upto f k++[f k]:=by simp[upto,List.range_succ]
theorem Qb9 {α:Type} (f:Nat->α) (k:Nat):(upto f k).length=k:=by simp[upto]
theorem Qfe (g:List (Int × Int)) (pl:Int) (k:Nat):Q3r g pl k=(g[k]?.getD (0,0),(k:Int)==pl):=by
 unfold Q3r;congr 1
theorem Qdt (w:World) (o:Obj) {b a:Nat} {u:Value} (h:w.cell? ⟨b,a,none⟩=some u) (c:b < w.heap.size):(w.alloc o).cell? ⟨b,a,none⟩=some u:=
 ((KOq KBq (Kaq _) o).cell (p:=⟨b,a,none⟩) c).trans h
def KpB (n₀ Bs:Nat) (W W':World):Prop:=Below n₀ W W'/\W'.heap[Bs]? =W.heap[Bs]?
theorem KpB.trans {n₀ Bs:Nat} {A B C:World} (h:KpB n₀ Bs A B) (k:KpB n₀ Bs B C):KpB n₀ Bs A C:=⟨h.1.trans k.1,k.2.trans h.2⟩
theorem Q8g {W W':World} {B o:Nat} (h:W'.heap[B]? =W.heap[B]?):W'.cell? ⟨B,o,none⟩=W.cell? ⟨B,o,none⟩:=by simp[World.cell?,h]
theorem Qfj (F:Fence) (n:Nat) (h:F.fn 270) (I:F.round=none) (hn:1<=n) (l Bs z b c cap:Nat) (g:List (Int × Int)) (Y Z a3 a4 pl st:Int) (v5:Value) (B:g.length<=1048576) (M:b < z) (J Jx:List QfH->World->Prop)
  (U:∀a x W,J a W->a.length < g.length->YieldAt F (n - 1) Tryz.prog l #[seg x.1.1 x.1.2,.bool x.2] W fun e W'=>
   (e=.returned (.bool true)/\J (a++[x]) W'/\KpB z Bs W W')\/(e=.returned (.bool false)/\Jx (a++[x]) W'))
  (W:World) (V:W.cell? ⟨Bs,5,none⟩=some (.slice (some ⟨b,c,none⟩) g.length cap)) (E:W.cell? ⟨Bs,6,none⟩=some (.int .i64 pl))
  (N:∀j,j < g.length->W.cell? ⟨b,c+j * 2,none⟩=some (.int .i64 (g[j]?.getD (0,0)).1)/\W.cell? ⟨b,c+j * 2+1,none⟩=some (.int .i64 (g[j]?.getD (0,0)).2)) (C:∀a W o,J a W->J a (W.alloc o)) (G:z<=W.heap.size) (m:Bs < W.heap.size) (T:J [] W):
  CallsIn F n Tryz.prog 270 #[.func (.yield l) #[] #[],.pointer (some ⟨Bs,0,none⟩)] W fun e W'=>(∃v,e=.returned v)/\
   ((∃R,R=upto (Q3r g pl) g.length/\J R W')\/(∃a,(∃k,k<=g.length/\a=upto (Q3r g pl) k)/\Jx a W')):=by
 refine callsIn_of_wp Tryz.func270 rfl h ?_ I;simp only[Tryz.ntmps270,List.size_toArray,List.length_cons,List.length_nil,Nat.reduceAdd,Nat.reduceSub,Array.replicate_succ,Array.replicate_zero,List.push_toArray,List.append_toArray,List.nil_append,List.cons_append]
 gi_wp2
 gi_loopw [8] (fun i wr=> ∃k:Nat,k<=g.length/\i=.int .i64 k/\J (upto (Q3r g pl) k) wr/\KpB z Bs W wr/\W.heap.size<=wr.heap.size)
  (fun i _=>g.length - (intOf i).toNat)
 case atStart=>exact⟨0,Kcq _,rfl,T,⟨KBq,rfl⟩,Kaq _⟩
 case round=>
  obtain⟨k,hk,rfl,r,⟨q,s⟩,f⟩:=hrel
  by_cases hlt:k < g.length
  ·have t:=(Q8g s).trans E
   have u:=(q.cell (p:=⟨b,c+k * 2,none⟩) M).trans (N k hlt).1;have w:=(q.cell (p:=⟨b,c+k * 2+1,none⟩) M).trans (N k hlt).2;have d:=Qfe g pl k;generalize g[k]?.getD (0,0)=xy at *;obtain⟨x,y⟩:=xy;dsimp only at u w d;have H:z<=wr.heap.size:=Kdq G f;have O:=Qdt wr (Obj.cells #[Value.int IntKind.i64 x,Value.int IntKind.i64 y] 136) t (Kbq m f);obtain⟨fn,tmps,A,L,P,D⟩:=U _ (Q3r g pl k) (wr.alloc (Obj.cells #[Value.int IntKind.i64 x,Value.int IntKind.i64 y] 136)) (C _ _ _ r) (by rw[Qb9];exact hlt);rw[d]at P D;dsimp only at P D
   gi_wp2
   refine D.mono ?_;rintro e X (⟨rfl,hJ3,hk3⟩|⟨rfl,hJx3⟩)
   ·gi_wp2
    go_roundw
    case rel=>exact⟨k+1,by omega,by simp,by rw[Q7c,d];exact hJ3,⟨(q.alloc H _).trans hk3.1,hk3.2.trans ((heap_alloc_old wr _ Bs (Kbq m f)).trans s)⟩,Kdq f (Kdq (by simp) hk3.1.size)⟩
    case measure=>simp[intOf];omega
   ·gi_wp2
    refine bodyPost_ret (results_none rfl _ _ _) rfl ?_;exact⟨⟨_,rfl⟩,.inr ⟨_,⟨k+1,by omega,by rw[Q7c,d]⟩,hJx3⟩⟩
  ·obtain rfl:k=g.length:=by omega
   gi_wp2
   go_end0
   exact⟨⟨_,rfl⟩,.inl ⟨_,rfl,r⟩⟩
abbrev Q0z (a b f s:Int) (v g:Value) (pl st:Int):Array Value:=#[.int .i64 a,.int .i64 b,.int .i64 f,.int .i64 s,v,g,.int .i64 pl,.int .i64 st]
theorem QfE (F:Fence) (n:Nat) (h:F.fn 261) (c:F.round=none) (a b f s:Int) (v g:Value) (pl st:Int) (w:World):
  CallsIn F n Tryz.prog 261 #[crr a b f s v g pl st] w fun e d=>e=.returned (.func (.func 270) #[] #[.pointer (some ⟨w.heap.size,0,none⟩)])/\d=w.alloc (.cells (Q0z a b f s v g pl st) 111):=by
 refine callsIn_of_wp Tryz.func261 rfl h ?_ c;simp only[Tryz.ntmps261,List.size_toArray,List.length_cons,List.length_nil,Nat.reduceAdd,Nat.reduceSub,Array.replicate_succ,Array.replicate_zero,List.push_toArray,List.append_toArray,List.nil_append,List.cons_append]
 gi_wp2
 go_ret;exact⟨rfl,rfl⟩
theorem Qb4 (F:Fence) (n:Nat) (h:F.fn 270) (z:F.round=none) (G:1<=n) (Bs s b a cap:Nat) (g:List (Int × Int)) (pl:Int) (c:g.length<=1048576) (w:World) (d:Bs < w.heap.size) (u:b < s) (q:s<=w.heap.size)
  (v:w.cell? ⟨Bs,5,none⟩=some (.slice (some ⟨b,a,none⟩) g.length cap)) (y:w.cell? ⟨Bs,6,none⟩=some (.int .i64 pl))
  (A:∀j,j < g.length->w.cell? ⟨b,a+j * 2,none⟩=some (.int .i64 (g[j]?.getD (0,0)).1)/\w.cell? ⟨b,a+j * 2+1,none⟩=some (.int .i64 (g[j]?.getD (0,0)).2)):
  SeqStopsK F n Tryz.prog 270 #[.pointer (some ⟨Bs,0,none⟩)] (fun x:QfH=> #[seg x.1.1 x.1.2,.bool x.2]) (KpB s Bs) (fun H=>H=upto (Q3r g pl) g.length)
   (fun f=> ∃k,k<=g.length/\f=upto (Q3r g pl) k) g.length w:=fun l J Jx W i D _ E C=>by
 have m:Below s w W:=i.mono q
 exact Qfj F n h z G l Bs s b a cap g 0 0 0 0 pl 0 .nilFunc c u J Jx E W ((i.cell (p:=⟨Bs,5,none⟩) d).trans v) ((i.cell (p:=⟨Bs,6,none⟩) d).trans y)
  (fun j B=>⟨(m.cell (p:=⟨b,a+j * 2,none⟩) u).trans (A j B).1,(m.cell (p:=⟨b,a+j * 2+1,none⟩) u).trans (A j B).2⟩)
  (fun f t o hs=>D f t (t.alloc o) none hs (World.grownBy_alloc t o none) (fun r e=>by cases e)) (Kdq q i.size) (Kbq d i.size) C
theorem Q3y {W W':World} {B:Nat} {c:Array Value} {t:TypeId} {z:Nat × Nat} {row:Option Nat} (h:W.heap[B]? =some (.cells c t z)) (d:W.grownBy W' row) (g:∀r,row=some r->∃o:Obj,W.heap[r]? =some o/\o.isCells=false):W'.heap[B]? =some (.cells c t z):=by
 have a:B < W.heap.size:=(KEq h);refine(d.block B a (fun e=>?_)).trans h;obtain⟨o,b,f⟩:=g B e.symm;rw[h]at b
 cases b
 simp[Obj.isCells]at f
end Go.Proofs.YteffhdcankkfkaaGreat
