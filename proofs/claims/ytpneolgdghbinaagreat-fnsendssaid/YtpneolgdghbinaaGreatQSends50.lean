/- FlowCmp on both sides: the model compares number by number; the program ranks flows in a map. -/
import Derived.Maps.OwnOps
import Derived.Maps.Views
import Derived.Deep.RegionHeld3
import Derived.Test.YtpneolgdghbinaaGreatQSends01
namespace Go.Proofs.YtpneolgdghbinaaGreat
open Go.ChangeShapes Go.WideShapes Go.ChangeAt Go.RowKit Go.Joins Go.Maps
set_option linter.unusedVariables false
set_option linter.unusedSimpArgs false
set_option maxRecDepth 100000
set_option maxHeartbeats 40000000
def QdO (x y:Int):Int:=if x < y then -1 else if y < x then 1 else 0
def Q28 (a b c d:Int):Int:=if (Q0f a b && Q0f c d)=true then (if a=c then QdO b d else QdO a c) else 0
theorem QgP {x y:Int} (h:x < y):QdO x y= -1:=by simp [QdO,h]
theorem Qgl {x y:Int} (h:y < x):QdO x y=1:=by unfold QdO;rw [if_neg (by omega),if_pos h]
theorem Qd2 {x:Int}:QdO x x=0:=by simp [QdO]
theorem QeU (a b c d:Int) (h1:Q0f a b=true) (h2:Q0f c d=true):QdO (a * 65536+b) (c * 65536+d)=Q28 a b c d:=by
 have q1:=Q0Y.1 h1;have q2:=Q0Y.1 h2
 unfold Q28
 rw [h1,h2]
 simp only [Bool.and_self,if_true]
 unfold QdO
 by_cases e:a=c
 ·subst e
  simp
 ·rw [if_neg e]
  by_cases e2:a < c
  ·rw [if_pos e2,if_pos (by omega)]
  ·rw [if_neg e2,if_pos (show c < a by omega),if_neg (by omega),if_pos (by omega)]
theorem QaB (x y:Int) (w:World):Calls Tryz.prog 60 #[.int .i64 x,.int .i64 y] w fun e w'=> e=.returned (.int .i64 (QdO x y))∧w=w':=by
 have n1:(x !=x)=false:=by simp
 have n2:(y !=y)=false:=by simp
 rcases Int.lt_trichotomy x y with h|h|h
 ·have H:=Q02 (QgP h).symm
  go_enter Tryz.func60,Tryz.ntmps60
  go_wp2
  go_ret
  exact ⟨Q0J H.out,rfl⟩
 ·subst h
  have H:=Q02 (Qd2 (x:=x)).symm
  go_enter Tryz.func60,Tryz.ntmps60
  go_wp2
  go_ret
  exact ⟨Q0J H.out,rfl⟩
 ·have H:=Q02 (Qgl h).symm
  go_enter Tryz.func60,Tryz.ntmps60
  go_wp2
  go_ret
  exact ⟨Q0J H.out,rfl⟩
theorem Q9W {a b c d:Int} (h:Q0f a b=false):0=Q28 a b c d:=by simp [Q28,h]
theorem Qa5 {a b c d:Int} (h:Q0f c d=false):0=Q28 a b c d:=by simp [Q28,h]
end Go.Proofs.YtpneolgdghbinaaGreat
