/- The model's Handle; what both Handles tell, in words. -/
import Derived.Test.YtljogkoaaidlcaaQHandL15
import Derived.Test.YtljogkoaaidlcaaQHandL21
namespace Go.Proofs.Ytljogkoaaidlcaa
open Go.ChangeShapes Go.WideShapes Go.ChangeAt Go.RowKit Go.Joins
set_option linter.unusedVariables false
set_option linter.unusedSimpArgs false
set_option maxRecDepth 100000
set_option maxHeartbeats 40000000
def Q4F (m:Am) (now a p f s:Int) (n:Nat) (gg:List (Int × Int)) (pl st:Int):Bool:=Q0o m && (decide (0≤now) && decide (now≤100000)) && Q0q a p f s n gg pl st && decide (st≤now)
def Q7b (m:Am) (now a p f s:Int) (gg:List (Int × Int)) (pl st:Int):Am:={ m with c:=hdC m now a p f s (gg.getD pl.toNat (0,0)).1 (gg.getD pl.toNat (0,0)).2 pl.toNat gg.length st,t:=hdT m now a p f (gg.getD pl.toNat (0,0)).1 (gg.getD pl.toNat (0,0)).2 pl.toNat gg.length st }
def Q5W (m:Am) (now a p f s:Int) (n:Nat) (gg:List (Int × Int)) (pl st:Int):Am:=if Q4F m now a p f s n gg pl st=true then Q7b m now a p f s gg pl st else am0
def Q7Y (m:Am) (now a p f s:Int) (n:Nat) (gg:List (Int × Int)) (pl st:Int):Int:=if Q4F m now a p f s n gg pl st=true then hdV m now a p f (gg.getD pl.toNat (0,0)).1 (gg.getD pl.toNat (0,0)).2 pl.toNat gg.length st else -1
theorem Q5b (m:Am) (now a p f s sb sf:Int) (k gl:Nat) (st:Int):(hdC m now a p f s sb sf k gl st).length=m.c.length:=by
 unfold hdC
 split
 ·split
  ·rfl
  ·split
   ·exact Q79 _ _ _ _ _ _
   ·split
    ·exact Q6J _ _ _ _ _ _
    ·rfl
 ·rfl
theorem Q5u (m:Am) (now a p f sb sf:Int) (k gl:Nat) (st:Int):(hdT m now a p f sb sf k gl st).length=m.t.length:=by
 unfold hdT
 split
 ·split
  ·rfl
  ·split
   ·exact Q6w _ _ _ _ _
   ·split
    ·exact Q6P _ _ _ _ _
    ·rfl
 ·rfl
theorem Q6m (m:Am) (now a p f s:Int) (gg:List (Int × Int)) (pl st:Int):(Q7b m now a p f s gg pl st).c.length=m.c.length∧(Q7b m now a p f s gg pl st).t.length=m.t.length:=⟨Q5b _ _ _ _ _ _ _ _ _ _ _,Q5u _ _ _ _ _ _ _ _ _ _⟩
theorem Q7u {m:Am} (now a p f s:Int) (n:Nat) (gg:List (Int × Int)) (pl st:Int) (h:m.c.length+m.t.length≤1048576):(Q5W m now a p f s n gg pl st).c.length+(Q5W m now a p f s n gg pl st).t.length≤1048576:=by
 unfold Q5W
 split
 ·have:=Q6m m now a p f s gg pl st;omega
 ·decide
theorem Q2O {a p f s:Int} {n:Nat} {gg:List (Int × Int)} {pl st:Int} (h:Q0q a p f s n gg pl st=true):Q0l a p f s n=true∧gg.length≤24∧0≤pl∧pl < (gg.length:Int)∧0≤st∧st≤100000:=by
 unfold Q0q at h
 have h1:=Q21.1 (Bool.and_eq_true_iff.1 h).1
 exact ⟨h1.1,by omega,h1.2.2.2.1,h1.2.2.2.2.1,h1.2.2.2.2.2.1,h1.2.2.2.2.2.2.1⟩
theorem Q2F {a p f s:Int} {n:Nat} (h:Q0l a p f s n=true):Q0c a p=true:=(Q0P.1 h).1
theorem Q3Q (op:Bool):∀(gg:List (Int × Int)) (p:Int),Q0K op p gg=true→∀i,i < gg.length→Q15 (gg.getD i (0,0)).1 (gg.getD i (0,0)).2=true
 |[],p,h,i,hi=> by simp at hi
 |x::l,p,h,i,hi=> by
  unfold Q0K at h
  simp only [Bool.and_eq_true] at h
  cases i with
  |zero=> exact h.1.1.1
  |succ i=> simpa using Q3Q op l x.2 h.2 i (by simpa using hi)
theorem Q33 {a p f s:Int} {n:Nat} {gg:List (Int × Int)} {pl st:Int} (h:Q0q a p f s n gg pl st=true):∀k,k < gg.length→(gg.getD k (0,0)).2=0∨(gg.getD k (0,0)).2=1:=by
 unfold Q0q at h
 exact fun k hk=> Q3v (Q3Q _ gg 0 (Bool.and_eq_true_iff.1 h).2 k hk)
end Go.Proofs.Ytljogkoaaidlcaa
