/- FlowCmp on both sides: the model compares number by number; the program ranks flows in a map. -/
import Derived.Maps.OwnOps
import Derived.Maps.Views
import Derived.Deep.RegionHeld3
import Derived.Test.YtpneolgdghbinaaGreatQLearnsL01
namespace Go.Proofs.YtpneolgdghbinaaGreat
open Go.ChangeShapes Go.WideShapes Go.ChangeAt Go.RowKit Go.Joins Go.Maps
set_option linter.unusedVariables false
set_option linter.unusedSimpArgs false
set_option maxRecDepth 100000
set_option maxHeartbeats 40000000
def QaR (x y:Int):Int:=if x < y then -1 else if y < x then 1 else 0
theorem QhZ {x y:Int} (h:x < y):QaR x y= -1:=by simp [QaR,h]
theorem Qi7 {x y:Int} (h:y < x):QaR x y=1:=by unfold QaR;rw [if_neg (by omega),if_pos h]
theorem Qie {x:Int}:QaR x x=0:=by simp [QaR]
theorem Qa1 (x y:Int) (w:World):Calls Tryz.prog 113 #[.int .i64 x,.int .i64 y] w fun e a=> e=.returned (.int .i64 (QaR x y))∧w=a:=by
 rcases Int.lt_trichotomy x y with h|h|h
 ·have H:=Q01 (QhZ h).symm
  go_enter Tryz.func113,Tryz.ntmps113;go_wp2;go_ret;exact ⟨Q0L H.out,rfl⟩
 ·subst h
  have H:=Q01 (Qie (x:=x)).symm;go_enter Tryz.func113,Tryz.ntmps113;go_wp2;go_ret;exact ⟨Q0L H.out,rfl⟩
 ·have H:=Q01 (Qi7 h).symm
  go_enter Tryz.func113,Tryz.ntmps113;go_wp2;go_ret;exact ⟨Q0L H.out,rfl⟩
theorem QfR (a b c d:Int) (w:World):Calls Tryz.prog 64 #[.agg #[.int .i64 a,.int .i64 b],.agg #[.int .i64 c,.int .i64 d]] w fun e i=> e=.returned (.int .i64 (if a=c then QaR b d else QaR a c))∧Below w.heap.size w i:=by
 have f:Below w.heap.size w w:=Below.refl _ _
 by_cases h:a=c
 ·subst h
  rw [if_pos rfl]
  have g:(a !=a)=false:=by simp
  go_enter Tryz.func64,Tryz.ntmps64;go_wp2_with (go_at_call 113;refine (Qa1 _ _ _).mono ?_;rintro e j ⟨rfl,rfl⟩);go_ret;exact ⟨rfl,by (repeat (first|with_reducible (first|exact f|exact Below.refl _ _|refine Below.drew ?_|refine below_drewN ?_ _|refine Below.alloc ?_ ?_ _|refine Below.setCell ?_ ?_ _)|(focus (simp;first|done|omega))|omega))⟩
 ·rw [if_neg h]
  have g:(a !=c)=true:=by simp [h]
  go_enter Tryz.func64,Tryz.ntmps64;go_wp2_with (go_at_call 113;refine (Qa1 _ _ _).mono ?_;rintro e j ⟨rfl,rfl⟩);go_ret;exact ⟨rfl,by (repeat (first|with_reducible (first|exact f|exact Below.refl _ _|refine Below.drew ?_|refine below_drewN ?_ _|refine Below.alloc ?_ ?_ _|refine Below.setCell ?_ ?_ _)|(focus (simp;first|done|omega))|omega))⟩
end Go.Proofs.YtpneolgdghbinaaGreat
