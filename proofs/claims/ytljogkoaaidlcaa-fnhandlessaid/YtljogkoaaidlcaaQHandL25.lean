/- Draws of numbers out of a list, and of bytes. -/
import Derived.Test.YtljogkoaaidlcaaQHandL23
import Derived.Test.YtljogkoaaidlcaaQHandL24
namespace Go.Proofs.Ytljogkoaaidlcaa
open Go.ChangeShapes Go.WideShapes Go.ChangeAt Go.RowKit Go.Joins
set_option linter.unusedVariables false
set_option linter.unusedSimpArgs false
set_option maxRecDepth 100000
set_option maxHeartbeats 40000000
theorem Q0N {w w':World} {k g o:Nat} (h:w.grownBy w' (some k)) (hg:g < w.heap.size) (hne:g≠k):w'.cell? ⟨g,o,none⟩=w.cell? ⟨g,o,none⟩:=
 World.cell?_of_block (w:=w) (h.block g hg (by simp [hne]))
theorem Q0r (k g:Nat) (vs:List Int) (w:World) (hc:isCur k w) (hg:g < w.heap.size) (hne:g≠k) (h0:0 < vs.length) (h1:vs.length≤1000) (hcell:∀q,q < vs.length→w.cell? ⟨g,q,none⟩=some (.int .i64 (vs.getD q 0))):
  Calls Try.prog 25 #[.pointer (some ⟨k,0,none⟩),.slice (some ⟨g,0,none⟩) vs.length vs.length] w fun e w'=> ∃q:Nat,q < vs.length∧e=.returned (.int .i64 (vs.getD q 0))∧isCur k w'∧w.grownBy w' (some k):=by
 generalize hn:vs.length=n at *
 go_enter Try.func25,Try.ntmps25
 go_wp2_with fail
 refine (Q0g k (n:Int) _ hc (by omega) (by omega)).mono ?_
 rintro e w1 ⟨x,rfl,hx0,hx1,hc1,hg1⟩
 obtain ⟨q,rfl⟩:=Int.eq_ofNat_of_zero_le hx0
 have hq:q < n:=by omega
 have c:=(Q0N hg1 hg hne).trans (hcell q hq)
 have HC:=Q00 hc1
 have HG:=Q00 hg1
 clear hc hc1 hg1 hcell
 generalize hy:vs.getD q 0=y at *
 have HY:=Q00 hy
 clear hy
 go_wp2
 go_ret
 exact ⟨q,hq,Q3F HY.out.symm,HC.out,HG.out⟩
theorem Q8f (w:World) (x:Int) (e:TypeId):Rd (w.alloc (.cells #[.int .u8 x] e)) (some ⟨w.heap.size,0,none⟩) [x]:=by
 right
 refine ⟨w.heap.size,0,rfl,by simp,fun i hi=> ?_⟩
 have:i=0:=by simpa using hi
 subst this
 simp
theorem Q1d {w w':World} {base k:Nat} {v:Value} {l:List Int} (h:ownB w base v l) (hg:w.grownBy w' (some k)) (hk:k < base):ownB w' base v l:=
 h.kept hg (by
  cases hob:v.ownBlock with
  |none=> exact .inl rfl
  |some j=> right;have:=(h.lt j hob).1;intro e;simp at e;omega)
theorem isCur.below {k:Nat} {w w':World} (h:isCur k w) (hb:Below (k+1) w w'):isCur k w':=by
 obtain ⟨o,cap,l,i,hh,c⟩:=h
 exact ⟨o,cap,l,i,hh,⟨(hb.cell (p:=⟨k,0,none⟩) (Nat.lt_succ_self _)).trans c.c0,(hb.cell (p:=⟨k,1,none⟩) (Nat.lt_succ_self _)).trans c.c1,(hb.cell (p:=⟨k,2,none⟩) (Nat.lt_succ_self _)).trans c.c2,
  (hb.frozen (p:=⟨k,1,none⟩) (Nat.lt_succ_self _)).trans c.f1,(hb.frozen (p:=⟨k,2,none⟩) (Nat.lt_succ_self _)).trans c.f2,c.ml,c.rd.kept hb (Nat.le_succ _),c.b8,c.i0,c.i1⟩⟩
end Go.Proofs.Ytljogkoaaidlcaa
