/- The model's Handle; what both Handles tell, in words. -/
import Derived.Test.YtljogkoaaidlcaaQLoadsL15
import Derived.Test.YtljogkoaaidlcaaQLoadsL26
namespace Go.Proofs.Ytljogkoaaidlcaa
open Go.ChangeShapes Go.WideShapes Go.ChangeAt Go.RowKit Go.Joins
set_option linter.unusedVariables false
set_option linter.unusedSimpArgs false
set_option maxRecDepth 100000
set_option maxHeartbeats 40000000
def Q6V (m:Am) (now a p f s:Int) (n:Nat) (gg:List (Int × Int)) (pl st:Int):Bool:=Q0f m && (decide (0≤now) && decide (now≤100000)) && Q0o a p f s n gg pl st && decide (st≤now)
def Q8J (m:Am) (now a p f s:Int) (gg:List (Int × Int)) (pl st:Int):Am:={ m with c:=hdC m now a p f s (gg.getD pl.toNat (0,0)).1 (gg.getD pl.toNat (0,0)).2 pl.toNat gg.length st,t:=hdT m now a p f (gg.getD pl.toNat (0,0)).1 (gg.getD pl.toNat (0,0)).2 pl.toNat gg.length st }
def Q8z (m:Am) (now a p f s:Int) (n:Nat) (gg:List (Int × Int)) (pl st:Int):Am:=if Q6V m now a p f s n gg pl st=true then Q8J m now a p f s gg pl st else am0
def Q8K (m:Am) (now a p f s:Int) (n:Nat) (gg:List (Int × Int)) (pl st:Int):Int:=if Q6V m now a p f s n gg pl st=true then hdV m now a p f (gg.getD pl.toNat (0,0)).1 (gg.getD pl.toNat (0,0)).2 pl.toNat gg.length st else -1
theorem Q6W (m:Am) (now a p f s sb sf:Int) (k gl:Nat) (st:Int):(hdC m now a p f s sb sf k gl st).length=m.c.length:=by
 unfold hdC
 split
 ·split
  ·rfl
  ·split
   ·exact Q74 _ _ _ _ _ _
   ·split
    ·exact Q6t _ _ _ _ _ _
    ·rfl
 ·rfl
theorem Q7a (m:Am) (now a p f sb sf:Int) (k gl:Nat) (st:Int):(hdT m now a p f sb sf k gl st).length=m.t.length:=by
 unfold hdT
 split
 ·split
  ·rfl
  ·split
   ·exact Q6E _ _ _ _ _
   ·split
    ·exact Q6T _ _ _ _ _
    ·rfl
 ·rfl
theorem Q4r {a p f s:Int} {n:Nat} {gg:List (Int × Int)} {pl st:Int} (h:Q0o a p f s n gg pl st=true):Q0k a p f s n=true∧gg.length≤24∧0≤pl∧pl < (gg.length:Int)∧0≤st∧st≤100000:=by
 unfold Q0o at h
 have h1:=Q2a.1 (Bool.and_eq_true_iff.1 h).1
 exact ⟨h1.1,by omega,h1.2.2.2.1,h1.2.2.2.2.1,h1.2.2.2.2.2.1,h1.2.2.2.2.2.2.1⟩
theorem Q3u {a p f s:Int} {n:Nat} (h:Q0k a p f s n=true):Q0b a p=true:=(Q0T.1 h).1
theorem Q3w (op:Bool):∀(gg:List (Int × Int)) (p:Int),Q0L op p gg=true→∀i,i < gg.length→Q13 (gg.getD i (0,0)).1 (gg.getD i (0,0)).2=true
 |[],p,h,i,hi=> by simp at hi
 |x::l,p,h,i,hi=> by
  unfold Q0L at h
  simp only [Bool.and_eq_true] at h
  cases i with
  |zero=> exact h.1.1.1
  |succ i=> simpa using Q3w op l x.2 h.2 i (by simpa using hi)
theorem Q4W {a p f s:Int} {n:Nat} {gg:List (Int × Int)} {pl st:Int} (h:Q0o a p f s n gg pl st=true):∀k,k < gg.length→(gg.getD k (0,0)).2=0∨(gg.getD k (0,0)).2=1:=by
 unfold Q0o at h
 exact fun k hk=> Q3y (Q3w _ gg 0 (Bool.and_eq_true_iff.1 h).2 k hk)
end Go.Proofs.Ytljogkoaaidlcaa
