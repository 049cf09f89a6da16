/- What is on the route, ranged over by a function: the contracts of stops and of what it hands back. -/
import Derived.RangeFuncNested
import Derived.RangeFuncBound
import Derived.RangeFuncCalls
import Derived.RangeFuncLeaves
import Derived.RangeFuncBox
import Derived.Shelf.Abstract
import Derived.Shelf.RegionOpen
import Derived.OwnWalkIn
import Derived.TacticsInMore
import Derived.LoopNIn
import Derived.LoopIn
import Derived.Test.YtljogkoaaidlcaaQHandL17
namespace Go.Proofs.Ytljogkoaaidlcaa
open Go.ChangeShapes Go.WideShapes Go.ChangeAt Go.RowKit Go.Joins Go.Shelf
set_option linter.unusedVariables false
set_option linter.unusedSimpArgs false
set_option maxRecDepth 100000
set_option maxHeartbeats 40000000
attribute [local go_sem] Oper.semAt_some
abbrev Q7D:=(Int × Int) × Bool
def Q24 (g:List (Int × Int)) (pl:Int) (j:Nat):Q7D:=(g[j]?.getD (0,0),decide ((j:Int)=pl))
def upto {α:Type} (f:Nat→α) (k:Nat):List α:=(List.range k).map f
theorem Q3r {α:Type} (f:Nat→α) (k:Nat):upto f (k+1)=upto f k++[f k]:=by simp [upto,List.range_succ]
theorem Q5p {α:Type} (f:Nat→α) (k:Nat):(upto f k).length=k:=by simp [upto]
theorem Q6v (g:List (Int × Int)) (pl:Int) (k:Nat):Q24 g pl k=(g[k]?.getD (0,0),(k:Int)==pl):=by
 unfold Q24;congr 1
theorem Q5M (w:World) (o:Obj) {b off:Nat} {u:Value} (h:w.cell? ⟨b,off,none⟩=some u) (hb:b < w.heap.size):(w.alloc o).cell? ⟨b,off,none⟩=some u:=
 ((Below.alloc (Below.refl _ _) (Kaq _) o).cell (p:=⟨b,off,none⟩) hb).trans h
def KpB (n₀ Bs:Nat) (W W':World):Prop:=Below n₀ W W'∧W'.heap[Bs]? =W.heap[Bs]?
theorem KpB.trans {n₀ Bs:Nat} {A B C:World} (h:KpB n₀ Bs A B) (k:KpB n₀ Bs B C):KpB n₀ Bs A C:=⟨h.1.trans k.1,k.2.trans h.2⟩
theorem Q4C {W W':World} {B o:Nat} (h:W'.heap[B]? =W.heap[B]?):W'.cell? ⟨B,o,none⟩=W.cell? ⟨B,o,none⟩:=by simp [World.cell?,h]
theorem Q6k (F:Fence) (n:Nat) (h:F.fn 99) (hro:F.round=none) (hn:1≤n) (l Bs n₀ b off cap:Nat) (g:List (Int × Int)) (a1 a2 a3 a4 pl st:Int) (v5:Value) (hreach:g.length≤1048576) (hb:b < n₀) (J Jx:List Q7D→World→Prop)
  (hY:∀pre x W,J pre W→pre.length < g.length→YieldAt F (n - 1) Try.prog l #[seg x.1.1 x.1.2,.bool x.2] W fun e W'=>
   (e=.returned (.bool true)∧J (pre++[x]) W'∧KpB n₀ Bs W W')∨(e=.returned (.bool false)∧Jx (pre++[x]) W'))
  (W:World) (hc5:W.cell? ⟨Bs,5,none⟩=some (.slice (some ⟨b,off,none⟩) g.length cap)) (hc6:W.cell? ⟨Bs,6,none⟩=some (.int .i64 pl))
  (hc:∀j,j < g.length→W.cell? ⟨b,off+j * 2,none⟩=some (.int .i64 (g[j]?.getD (0,0)).1)∧W.cell? ⟨b,off+j * 2+1,none⟩=some (.int .i64 (g[j]?.getD (0,0)).2)) (hJA:∀pre W o,J pre W→J pre (W.alloc o)) (hn0:n₀≤W.heap.size) (hBs0:Bs < W.heap.size) (h0:J [] W):
  CallsIn F n Try.prog 99 #[.func (.yield l) #[] #[],.pointer (some ⟨Bs,0,none⟩)] W fun e W'=> (∃v,e=.returned v)∧
   ((∃ys,ys=upto (Q24 g pl) g.length∧J ys W')∨(∃pre,(∃k,k≤g.length∧pre=upto (Q24 g pl) k)∧Jx pre W')):=by
 refine callsIn_of_wp Try.func99 rfl h ?_ hro
 simp only [Try.ntmps99,List.size_toArray,List.length_cons,List.length_nil,Nat.reduceAdd,Nat.reduceSub,Array.replicate_succ,Array.replicate_zero,List.push_toArray,List.append_toArray,List.nil_append,List.cons_append]
 gi_wp2
 gi_loopw [8] (fun i wr=> ∃k:Nat,k≤g.length∧i=.int .i64 k∧J (upto (Q24 g pl) k) wr∧KpB n₀ Bs W wr∧W.heap.size≤wr.heap.size)
  (fun i _=> g.length - (intOf i).toNat)
 case atStart=> exact ⟨0,Kcq _,rfl,h0,⟨Below.refl _ _,rfl⟩,Kaq _⟩
 case round=>
  obtain ⟨k,hk,rfl,hJs,⟨hnx,hbx⟩,hsz⟩:=hrel
  by_cases hlt:k < g.length
  ·have hc6r:=(Q4C hbx).trans hc6
   have hcx0:=(hnx.cell (p:=⟨b,off+k * 2,none⟩) hb).trans (hc k hlt).1
   have hcx1:=(hnx.cell (p:=⟨b,off+k * 2+1,none⟩) hb).trans (hc k hlt).2
   have hkx:=Q6v g pl k
   generalize g[k]?.getD (0,0)=xy at *
   obtain ⟨x,y⟩:=xy
   dsimp only at hcx0 hcx1 hkx
   have hnr:n₀≤wr.heap.size:=Kdq hn0 hsz
   have hc6a:=Q5M wr (Obj.cells #[Value.int IntKind.i64 x,Value.int IntKind.i64 y] 41) hc6r (Kbq hBs0 hsz)
   obtain ⟨fn,tmps,assign,body,hy,hR⟩:=hY _ (Q24 g pl k) (wr.alloc (Obj.cells #[Value.int IntKind.i64 x,Value.int IntKind.i64 y] 41)) (hJA _ _ _ hJs) (by rw [Q5p];exact hlt)
   rw [hkx] at hy hR
   dsimp only at hy hR
   gi_wp2
   refine hR.mono ?_
   rintro e W3 (⟨rfl,hJ3,hk3⟩|⟨rfl,hJx3⟩)
   ·gi_wp2
    go_roundw
    case rel=> exact ⟨k+1,by omega,by simp,by rw [Q3r,hkx];exact hJ3,⟨(hnx.alloc hnr _).trans hk3.1,hk3.2.trans ((heap_alloc_old wr _ Bs (Kbq hBs0 hsz)).trans hbx)⟩,Kdq hsz (Kdq (by simp) hk3.1.size)⟩
    case measure=> simp [intOf];omega
   ·gi_wp2
    refine bodyPost_ret (results_none rfl _ _ _) rfl ?_
    exact ⟨⟨_,rfl⟩,.inr ⟨_,⟨k+1,by omega,by rw [Q3r,hkx]⟩,hJx3⟩⟩
  ·obtain rfl:k=g.length:=by omega
   gi_wp2
   go_end0
   exact ⟨⟨_,rfl⟩,.inl ⟨_,rfl,hJs⟩⟩
abbrev Q0v (a b f s:Int) (v g:Value) (pl st:Int):Array Value:=#[.int .i64 a,.int .i64 b,.int .i64 f,.int .i64 s,v,g,.int .i64 pl,.int .i64 st]
theorem Q7h (F:Fence) (n:Nat) (h:F.fn 77) (hro:F.round=none) (a b f s:Int) (v g:Value) (pl st:Int) (w:World):
  CallsIn F n Try.prog 77 #[crr a b f s v g pl st] w fun e w'=> e=.returned (.func (.func 99) #[] #[.pointer (some ⟨w.heap.size,0,none⟩)])∧w'=w.alloc (.cells (Q0v a b f s v g pl st) 34):=by
 refine callsIn_of_wp Try.func77 rfl h ?_ hro
 simp only [Try.ntmps77,List.size_toArray,List.length_cons,List.length_nil,Nat.reduceAdd,Nat.reduceSub,Array.replicate_succ,Array.replicate_zero,List.push_toArray,List.append_toArray,List.nil_append,List.cons_append]
 gi_wp2
 go_ret
 exact ⟨rfl,rfl⟩
theorem Q5h (F:Fence) (n:Nat) (h:F.fn 99) (hro:F.round=none) (hn:1≤n) (Bs n₀ b off cap:Nat) (g:List (Int × Int)) (pl:Int) (hreach:g.length≤1048576) (w:World) (hBs:Bs < w.heap.size) (hb:b < n₀) (hn₀:n₀≤w.heap.size)
  (hc5:w.cell? ⟨Bs,5,none⟩=some (.slice (some ⟨b,off,none⟩) g.length cap)) (hc6:w.cell? ⟨Bs,6,none⟩=some (.int .i64 pl))
  (hc:∀j,j < g.length→w.cell? ⟨b,off+j * 2,none⟩=some (.int .i64 (g[j]?.getD (0,0)).1)∧w.cell? ⟨b,off+j * 2+1,none⟩=some (.int .i64 (g[j]?.getD (0,0)).2)):
  SeqStopsK F n Try.prog 99 #[.pointer (some ⟨Bs,0,none⟩)] (fun x:Q7D=> #[seg x.1.1 x.1.2,.bool x.2]) (KpB n₀ Bs) (fun ys=> ys=upto (Q24 g pl) g.length)
   (fun pre=> ∃k,k≤g.length∧pre=upto (Q24 g pl) k) g.length w:=fun l J Jx W hW hJ _ hY h0=> by
 have hWn:Below n₀ w W:=hW.mono hn₀
 exact Q6k F n h hro hn l Bs n₀ b off cap g 0 0 0 0 pl 0 .nilFunc hreach hb J Jx hY W ((hW.cell (p:=⟨Bs,5,none⟩) hBs).trans hc5) ((hW.cell (p:=⟨Bs,6,none⟩) hBs).trans hc6)
  (fun j hj=> ⟨(hWn.cell (p:=⟨b,off+j * 2,none⟩) hb).trans (hc j hj).1,(hWn.cell (p:=⟨b,off+j * 2+1,none⟩) hb).trans (hc j hj).2⟩)
  (fun pre W1 o hs=> hJ pre W1 (W1.alloc o) none hs (World.grownBy_alloc W1 o none) (fun r e=> by cases e)) (Kdq hn₀ hW.size) (Kbq hBs hW.size) h0
theorem Q29 {W W':World} {B:Nat} {c:Array Value} {t:TypeId} {z:Nat × Nat} {row:Option Nat} (h:W.heap[B]? =some (.cells c t z)) (hg:W.grownBy W' row) (hr:∀r,row=some r→∃o:Obj,W.heap[r]? =some o∧o.isCells=false):W'.heap[B]? =some (.cells c t z):=by
 have hlt:B < W.heap.size:=(Array.getElem?_eq_some_iff.1 h).1
 refine (hg.block B hlt (fun e=> ?_)).trans h
 obtain ⟨o,ho,hn⟩:=hr B e.symm
 rw [h] at ho
 cases ho
 simp [Obj.isCells] at hn
end Go.Proofs.Ytljogkoaaidlcaa
