/- Draws of flows and packets. -/
import Derived.Deep.RegionHeld3
import Derived.Test.YtljogkoaaidlcaaQHandL25
namespace Go.Proofs.Ytljogkoaaidlcaa
open Go.ChangeShapes Go.WideShapes Go.ChangeAt Go.RowKit Go.Joins
set_option linter.unusedVariables false
set_option linter.unusedSimpArgs false
set_option maxRecDepth 100000
set_option maxHeartbeats 40000000
theorem isCur.alloc {k:Nat} {w:World} (h:isCur k w) (hk:k < w.heap.size) (o:Obj):isCur k (w.alloc o):=h.below ((Below.refl _ _).alloc hk o)
theorem Q0w (w:World) (o:Obj) (k:Nat):w.grownBy (w.alloc o) (some k):=World.grownBy_alloc w o (some k)
theorem Q0Y (k:Nat) (n:Int) (w:World) (hc:isCur k w) (h0:0 < n) (h1:n≤1073741824):
  Calls Try.prog 24 #[.pointer (some ⟨k,0,none⟩),.int .i64 n] w fun e w'=> ∃x:Bool,e=.returned (.bool x)∧isCur k w'∧w.grownBy w' (some k):=by
 go_enter Try.func24,Try.ntmps24
 go_wp2_with fail
 refine (Q0g k n _ hc h0 h1).mono ?_
 rintro e w1 ⟨x,rfl,_,_,hc1,hg1⟩
 have HC:=Q00 hc1
 have HG:=Q00 hg1
 clear hc hc1 hg1
 go_wp2
 go_ret
 exact ⟨_,rfl,HC.out,HG.out⟩
theorem Q1c (k:Nat) (w:World) (hc:isCur k w) (hk:k < w.heap.size):
  Calls Try.prog 72 #[.pointer (some ⟨k,0,none⟩)] w fun e w'=> ∃a b:Int,e=.returned (.agg #[.int .i64 a,.int .i64 b])∧(1≤a∧a≤3)∧(80≤b∧b≤82)∧isCur k w'∧w.grownBy w' (some k):=by
 have hca:=hc.alloc hk (.cells #[.int .i64 0,.int .i64 0] 29)
 have e0:(w.alloc (.cells #[.int .i64 0,.int .i64 0] 29)).cell? ⟨w.heap.size,0,none⟩=some (.int .i64 0):=by simp
 have e1:(w.alloc (.cells #[.int .i64 0,.int .i64 0] 29)).cell? ⟨w.heap.size,1,none⟩=some (.int .i64 0):=by simp
 have f0:(w.alloc (.cells #[.int .i64 0,.int .i64 0] 29)).frozen? ⟨w.heap.size,0,none⟩=false:=by simp
 have f1:(w.alloc (.cells #[.int .i64 0,.int .i64 0] 29)).frozen? ⟨w.heap.size,1,none⟩=false:=by simp
 have hg0:=Q0w w (.cells #[.int .i64 0,.int .i64 0] 29) k
 go_enter Try.func72,Try.ntmps72
 go_wp2_with fail
 generalize hw0:w.alloc (.cells #[.int .i64 0,.int .i64 0] 29)=w0 at *
 have hs0:w.heap.size < w0.heap.size:=by rw [←hw0];simp
 clear hw0
 refine (Q0g k 3 _ hca (by omega) (by omega)).mono ?_
 rintro e w1 ⟨x,rfl,hx0,hx1,hc1,hg1⟩
 go_wp2_with fail
 refine (Q0g k 3 _ hc1 (by omega) (by omega)).mono ?_
 rintro e w2 ⟨y,rfl,hy0,hy1,hc2,hg2⟩
 have hg12:=Q08 hg1 hg2
 have d0:w2.cell? ⟨w.heap.size,0,none⟩=some (.int .i64 0):=(Q0N hg12 hs0 (by omega)).trans e0
 have d1:w2.cell? ⟨w.heap.size,1,none⟩=some (.int .i64 0):=(Q0N hg12 hs0 (by omega)).trans e1
 have g0:w2.frozen? ⟨w.heap.size,0,none⟩=false:=(World.frozen?_of_block (w:=w0) (hg12.block w.heap.size hs0 (by simp;omega))).trans f0
 have g1:w2.frozen? ⟨w.heap.size,1,none⟩=false:=(World.frozen?_of_block (w:=w0) (hg12.block w.heap.size hs0 (by simp;omega))).trans f1
 have HC:=Q00 hc2
 have HG:=Q00 (Q08 hg0 hg12)
 clear hc hca hc1 hc2 hg1 hg2 hg12 hg0 e0 e1 f0 f1
 go_wp2
 refine bodyPost_ret (v:=.agg #[.int .i64 (1+x),.int .i64 (80+y)]) (by simp [results,Try.results72,go_sem,d0,d1]) rfl ⟨_,_,rfl,by omega,by omega, ?_, ?_⟩
 ·exact HC.out.below (Below.setCell (Below.setCell (Below.refl _ _) (by exact hk) _) (by exact hk) _)
 ·have hb:=HG.out
  refine ⟨hb.os,hb.tape,hb.output,by simpa using hb.size,fun j hj hne=> ?_⟩
  rw [Below.heap_setCell _ _ _ _ (by simp;omega),Below.heap_setCell _ _ _ _ (by simp;omega)]
  exact hb.block j hj hne
end Go.Proofs.Ytljogkoaaidlcaa
