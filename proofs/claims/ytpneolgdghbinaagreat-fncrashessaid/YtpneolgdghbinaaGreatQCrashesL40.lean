/- What is on the route, ranged over by a function: the contracts of stops and of what it hands back. -/
import Derived.RangeFuncNested
import Derived.RangeFuncBound
import Derived.RangeFuncCalls
import Derived.RangeFuncLeaves
import Derived.RangeFuncBox
import Derived.Shelf.Abstract
import Derived.Shelf.RegionOpen
import Derived.OwnWalkIn
import Derived.TacticsInMore
import Derived.LoopNIn
import Derived.LoopIn
import Derived.Test.YtpneolgdghbinaaGreatQCrashesL39
namespace Go.Proofs.YtpneolgdghbinaaGreat
open Go.ChangeShapes Go.WideShapes Go.ChangeAt Go.RowKit Go.Joins Go.Shelf
set_option linter.unusedVariables false
set_option linter.unusedSimpArgs false
set_option maxRecDepth 100000
set_option maxHeartbeats 40000000
attribute [local go_sem] Oper.semAt_some
abbrev Qbp:=(Int × Int) × Bool
def Q2U (g:List (Int × Int)) (pl:Int) (j:Nat):Qbp:=(g[j]?.getD (0,0),decide ((j:Int)=pl))
def upto {α:Type} (f:Nat->α) (k:Nat):List α:=(List.range k).map f
theorem Q5I {α:Type} (f:Nat->α) (k:Nat):upto f (k+1)=upto f k++[f k]:=by simp[upto,List.range_succ]
theorem QbG {α:Type} (f:Nat->α) (k:Nat):(upto f k).length=k:=by simp[upto]
theorem Qfs (g:List (Int × Int)) (pl:Int) (k:Nat):Q2U g pl k=(g[k]?.getD (0,0),(k:Int)==pl):=by
 unfold Q2U;congr 1
theorem QdA (w:World) (o:Obj) {b off:Nat} {u:Value} (h:w.cell? ⟨b,off,none⟩=some u) (a:b < w.heap.size):(w.alloc o).cell? ⟨b,off,none⟩=some u:=
 ((KOq KBq (Kaq _) o).cell (p:=⟨b,off,none⟩) a).trans h
def KpB (n₀ Bs:Nat) (W W':World):Prop:=Below n₀ W W'/\W'.heap[Bs]? =W.heap[Bs]?
theorem KpB.trans {n₀ Bs:Nat} {A B C:World} (h:KpB n₀ Bs A B) (k:KpB n₀ Bs B C):KpB n₀ Bs A C:=⟨h.1.trans k.1,k.2.trans h.2⟩
theorem Q9J {W W':World} {B o:Nat} (h:W'.heap[B]? =W.heap[B]?):W'.cell? ⟨B,o,none⟩=W.cell? ⟨B,o,none⟩:=by simp[World.cell?,h]
theorem QfC (F:Fence) (n:Nat) (h:F.fn 148) (H:F.round=none) (hn:1<=n) (l Bs w b off cap:Nat) (g:List (Int × Int)) (X Y Z a4 pl st:Int) (v5:Value) (A:g.length<=1048576) (L:b < w) (J Jx:List Qbp->World->Prop)
  (T:∀a x W,J a W->a.length < g.length->YieldAt F (n - 1) Tryz.prog l #[seg x.1.1 x.1.2,.bool x.2] W fun e W'=>
   (e=.returned (.bool true)/\J (a++[x]) W'/\KpB w Bs W W')\/(e=.returned (.bool false)/\Jx (a++[x]) W'))
  (W:World) (U:W.cell? ⟨Bs,5,none⟩=some (.slice (some ⟨b,off,none⟩) g.length cap)) (D:W.cell? ⟨Bs,6,none⟩=some (.int .i64 pl))
  (M:∀j,j < g.length->W.cell? ⟨b,off+j * 2,none⟩=some (.int .i64 (g[j]?.getD (0,0)).1)/\W.cell? ⟨b,off+j * 2+1,none⟩=some (.int .i64 (g[j]?.getD (0,0)).2)) (B:∀a W o,J a W->J a (W.alloc o)) (E:w<=W.heap.size) (f:Bs < W.heap.size) (R:J [] W):
  CallsIn F n Tryz.prog 148 #[.func (.yield l) #[] #[],.pointer (some ⟨Bs,0,none⟩)] W fun e W'=>(∃v,e=.returned v)/\
   ((∃P,P=upto (Q2U g pl) g.length/\J P W')\/(∃a,(∃k,k<=g.length/\a=upto (Q2U g pl) k)/\Jx a W')):=by
 refine callsIn_of_wp Tryz.func148 rfl h ?_ H;simp only[Tryz.ntmps148,List.size_toArray,List.length_cons,List.length_nil,Nat.reduceAdd,Nat.reduceSub,Array.replicate_succ,Array.replicate_zero,List.push_toArray,List.append_toArray,List.nil_append,List.cons_append]
 gi_wp2
 gi_loopw [8] (fun i wr=> ∃k:Nat,k<=g.length/\i=.int .i64 k/\J (upto (Q2U g pl) k) wr/\KpB w Bs W wr/\W.heap.size<=wr.heap.size)
  (fun i _=>g.length - (intOf i).toNat)
 case atStart=>exact⟨0,Kcq _,rfl,R,⟨KBq,rfl⟩,Kaq _⟩
 case round=>
  obtain⟨k,hk,rfl,q,⟨m,r⟩,d⟩:=hrel
  by_cases hlt:k < g.length
  ·have s:=(Q9J r).trans D
   have t:=(m.cell (p:=⟨b,off+k * 2,none⟩) L).trans (M k hlt).1;have u:=(m.cell (p:=⟨b,off+k * 2+1,none⟩) L).trans (M k hlt).2;have c:=Qfs g pl k;generalize g[k]?.getD (0,0)=xy at *;obtain⟨x,y⟩:=xy;dsimp only at t u c;have G:w<=wr.heap.size:=Kdq E d;have N:=QdA wr (Obj.cells #[Value.int IntKind.i64 x,Value.int IntKind.i64 y] 50) s (Kbq f d);obtain⟨fn,tmps,z,I,O,C⟩:=T _ (Q2U g pl k) (wr.alloc (Obj.cells #[Value.int IntKind.i64 x,Value.int IntKind.i64 y] 50)) (B _ _ _ q) (by rw[QbG];exact hlt);rw[c]at O C;dsimp only at O C
   gi_wp2
   refine C.mono ?_;rintro e V (⟨rfl,hJ3,hk3⟩|⟨rfl,hJx3⟩)
   ·gi_wp2
    go_roundw
    case rel=>exact⟨k+1,by omega,by simp,by rw[Q5I,c];exact hJ3,⟨(m.alloc G _).trans hk3.1,hk3.2.trans ((heap_alloc_old wr _ Bs (Kbq f d)).trans r)⟩,Kdq d (Kdq (by simp) hk3.1.size)⟩
    case measure=>simp[intOf];omega
   ·gi_wp2
    refine bodyPost_ret (results_none rfl _ _ _) rfl ?_;exact⟨⟨_,rfl⟩,.inr ⟨_,⟨k+1,by omega,by rw[Q5I,c]⟩,hJx3⟩⟩
  ·obtain rfl:k=g.length:=by omega
   gi_wp2
   go_end0
   exact⟨⟨_,rfl⟩,.inl ⟨_,rfl,q⟩⟩
abbrev Q0z (a b f s:Int) (v g:Value) (pl st:Int):Array Value:=#[.int .i64 a,.int .i64 b,.int .i64 f,.int .i64 s,v,g,.int .i64 pl,.int .i64 st]
theorem Qcs (F:Fence) (n:Nat) (h:F.fn 99) (c:F.round=none) (a b f s:Int) (v g:Value) (pl st:Int) (w:World):
  CallsIn F n Tryz.prog 99 #[crr a b f s v g pl st] w fun e d=>e=.returned (.func (.func 148) #[] #[.pointer (some ⟨w.heap.size,0,none⟩)])/\d=w.alloc (.cells (Q0z a b f s v g pl st) 58):=by
 refine callsIn_of_wp Tryz.func99 rfl h ?_ c;simp only[Tryz.ntmps99,List.size_toArray,List.length_cons,List.length_nil,Nat.reduceAdd,Nat.reduceSub,Array.replicate_succ,Array.replicate_zero,List.push_toArray,List.append_toArray,List.nil_append,List.cons_append]
 gi_wp2
 go_ret;exact⟨rfl,rfl⟩
theorem Q7U (F:Fence) (n:Nat) (h:F.fn 148) (y:F.round=none) (E:1<=n) (Bs q b off cap:Nat) (g:List (Int × Int)) (pl:Int) (a:g.length<=1048576) (w:World) (c:Bs < w.heap.size) (t:b < q) (m:q<=w.heap.size)
  (u:w.cell? ⟨Bs,5,none⟩=some (.slice (some ⟨b,off,none⟩) g.length cap)) (v:w.cell? ⟨Bs,6,none⟩=some (.int .i64 pl))
  (z:∀j,j < g.length->w.cell? ⟨b,off+j * 2,none⟩=some (.int .i64 (g[j]?.getD (0,0)).1)/\w.cell? ⟨b,off+j * 2+1,none⟩=some (.int .i64 (g[j]?.getD (0,0)).2)):
  SeqStopsK F n Tryz.prog 148 #[.pointer (some ⟨Bs,0,none⟩)] (fun x:Qbp=> #[seg x.1.1 x.1.2,.bool x.2]) (KpB q Bs) (fun G=>G=upto (Q2U g pl) g.length)
   (fun d=> ∃k,k<=g.length/\d=upto (Q2U g pl) k) g.length w:=fun l J Jx W f C _ D B=>by
 have i:Below q w W:=f.mono m
 exact QfC F n h y E l Bs q b off cap g 0 0 0 0 pl 0 .nilFunc a t J Jx D W ((f.cell (p:=⟨Bs,5,none⟩) c).trans u) ((f.cell (p:=⟨Bs,6,none⟩) c).trans v)
  (fun j A=>⟨(i.cell (p:=⟨b,off+j * 2,none⟩) t).trans (z j A).1,(i.cell (p:=⟨b,off+j * 2+1,none⟩) t).trans (z j A).2⟩)
  (fun d s o hs=>C d s (s.alloc o) none hs (World.grownBy_alloc s o none) (fun r e=>by cases e)) (Kdq m f.size) (Kbq c f.size) B
theorem Q2E {W W':World} {B:Nat} {c:Array Value} {t:TypeId} {z:Nat × Nat} {row:Option Nat} (h:W.heap[B]? =some (.cells c t z)) (d:W.grownBy W' row) (g:∀r,row=some r->∃o:Obj,W.heap[r]? =some o/\o.isCells=false):W'.heap[B]? =some (.cells c t z):=by
 have a:B < W.heap.size:=(KEq h);refine(d.block B a (fun e=>?_)).trans h;obtain⟨o,b,f⟩:=g B e.symm;rw[h]at b
 cases b
 simp[Obj.isCells]at f
end Go.Proofs.YtpneolgdghbinaaGreat
