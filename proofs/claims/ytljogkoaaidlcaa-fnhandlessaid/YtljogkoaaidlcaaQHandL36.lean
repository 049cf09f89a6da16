/- The law's sameTable: tables that read alike are the same. -/
import Derived.Test.YtljogkoaaidlcaaQHandL04
import Derived.Test.YtljogkoaaidlcaaQHandL11
namespace Go.Proofs.Ytljogkoaaidlcaa
open Go.ChangeShapes Go.WideShapes Go.ChangeAt Go.RowKit Go.Joins
set_option linter.unusedVariables false
set_option linter.unusedSimpArgs false
set_option maxRecDepth 100000
set_option maxHeartbeats 40000000
theorem Q2I (v1 v2:Value) (m:List Sl) (w:World) (h1:RdT w.heap.size w v1 m) (h2:RdT w.heap.size w v2 m) (hl:m.length≤1048576):
  Calls Try.prog 18 #[v1,v2] w fun e w'=> e=.returned (.bool true)∧Below w.heap.size w w':=by
 obtain ⟨_,rfl,o1,c1,rfl,r1⟩:=h1
 obtain ⟨_,rfl,o2,c2,rfl,r2⟩:=h2
 obtain ⟨W0,hW0⟩:∃W,((w.alloc (.cells #[.slice o1 m.length c1] 25)).alloc (.cells #[.slice o2 m.length c2] 25))=W:=⟨_,rfl⟩
 have hb_W0:Below w.heap.size w W0:=by rw [←hW0];exact (((Below.refl _ _).alloc (Kaq _) _).alloc (by simp <;> omega) _)
 have HB:=Q00 hb_W0
 clear hb_W0
 have zx:w.heap.size < W0.heap.size:=by rw [←hW0];simp <;> omega
 have x0:W0.cell? ⟨w.heap.size,0,none⟩=some (.slice o1 m.length c1):=by rw [←hW0];simp [go_sem]
 have zy:w.heap.size+1 < W0.heap.size:=by rw [←hW0];simp
 have y0:W0.cell? ⟨w.heap.size+1,0,none⟩=some (.slice o2 m.length c2):=by rw [←hW0];simp [go_sem]
 have HR1:=Q00 (r1.kept HB.out (Kaq _))
 have HR2:=Q00 (r2.kept HB.out (Kaq _))
 have hw0:=HB.out.size
 clear r1 r2
 go_enter Try.func18,Try.ntmps18
 go_wp2
 go_loopw [5] (fun i wr=> ∃k:Nat,k≤m.length∧i=.int .i64 k∧Hid (Below W0.heap.size W0 wr)) (fun i _=> m.length - (intOf i).toNat)
 case atStart=> exact ⟨0,Kcq _,rfl,Below.refl _ _⟩
 case round=>
  obtain ⟨k,hk,rfl,HBr⟩:=hrel
  have hsr:=HBr.out.size
  have zx':w.heap.size < wr.heap.size:=by omega
  have zy':w.heap.size+1 < wr.heap.size:=by omega
  have x0':=(HBr.out.cell (p:=⟨w.heap.size,0,none⟩) zx).trans x0
  have y0':=(HBr.out.cell (p:=⟨w.heap.size+1,0,none⟩) zy).trans y0
  clear x0 y0
  by_cases hlt:k < m.length
  ·have hlt':(k:Int) < (m.length:Int):=by omega
   rcases HR1.out with hn|⟨b1,f1,rfl,z1,hc1⟩
   ·rw [hn] at hlt;simp at hlt
   rcases HR2.out with hn|⟨b2,f2,rfl,z2,hc2⟩
   ·rw [hn] at hlt;simp at hlt
   have s1:=RdL.slot (C:=w.heap.size) hc1 k hlt
   have s2:=RdL.slot (C:=w.heap.size) hc2 k hlt
   obtain ⟨s,hs⟩:∃s,m.getD k sl0=s:=⟨_,rfl⟩
   rw [hs] at s1 s2
   have q1:b1 < wr.heap.size:=by omega
   have q2:b2 < wr.heap.size:=by omega
   have GX:=Grown.cell x0' zx'
   have GY:=Grown.cell y0' zy'
   have G10:=Grown.cell ((HBr.out.cell (p:=⟨b1,f1+k * 5,none⟩) (show b1 < W0.heap.size by omega)).trans s1.1) q1
   have G11:=Grown.cell ((HBr.out.cell (p:=⟨b1,f1+k * 5+1,none⟩) (show b1 < W0.heap.size by omega)).trans s1.2.1) q1
   have G12:=Grown.cell ((HBr.out.cell (p:=⟨b1,f1+k * 5+2,none⟩) (show b1 < W0.heap.size by omega)).trans s1.2.2.1) q1
   have G13:=Grown.cell ((HBr.out.cell (p:=⟨b1,f1+k * 5+3,none⟩) (show b1 < W0.heap.size by omega)).trans s1.2.2.2.1) q1
   have G14:=Grown.cell ((HBr.out.cell (p:=⟨b1,f1+k * 5+4,none⟩) (show b1 < W0.heap.size by omega)).trans s1.2.2.2.2) q1
   have G20:=Grown.cell ((HBr.out.cell (p:=⟨b2,f2+k * 5,none⟩) (show b2 < W0.heap.size by omega)).trans s2.1) q2
   have G21:=Grown.cell ((HBr.out.cell (p:=⟨b2,f2+k * 5+1,none⟩) (show b2 < W0.heap.size by omega)).trans s2.2.1) q2
   have G22:=Grown.cell ((HBr.out.cell (p:=⟨b2,f2+k * 5+2,none⟩) (show b2 < W0.heap.size by omega)).trans s2.2.2.1) q2
   have G23:=Grown.cell ((HBr.out.cell (p:=⟨b2,f2+k * 5+3,none⟩) (show b2 < W0.heap.size by omega)).trans s2.2.2.2.1) q2
   have G24:=Grown.cell ((HBr.out.cell (p:=⟨b2,f2+k * 5+4,none⟩) (show b2 < W0.heap.size by omega)).trans s2.2.2.2.2) q2
   clear s1 s2 hs hc1 hc2
   go_wp2
   (refine Q05 (by kernel_rfl) (by kernel_rfl) ?_;intro hne9;(repeat (go_big_quiet_step (fail)));(with_reducible refine wpQuiet_nil ?_);intro _ hw9;obtain ⟨pq,hw8⟩:=hw9;subst hw8)
   go_wp2
   go_roundw
   case rel=> exact ⟨k+1,hlt,by go_num,HBr.out.trans (pq.b.mono HBr.out.size)⟩
   case measure=> simp [intOf];omega
  ·have hlt':¬((k:Int) < (m.length:Int)):=by omega
   go_wp2
   go_ret
   exact ⟨rfl,HB.out.trans (HBr.out.mono HB.out.size)⟩
end Go.Proofs.Ytljogkoaaidlcaa
