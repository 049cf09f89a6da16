/- Several texts in one: Base, SFlow, SSeg. -/
import Derived.WalkKit
import Derived.ProofKit
import Derived.OpenShut
import Derived.Below
import Derived.OwnWalk
import Derived.Outline
import Derived.Lib.SmallJoins
import Derived.WalkLawsBesides
import Derived.Test.YtljogkoaaidlcaaRows
namespace Go.Proofs.Ytljogkoaaidlcaa
open Go.ChangeShapes Go.WideShapes Go.ChangeAt Go.RowKit Go.Joins
set_option linter.unusedVariables false
set_option linter.unusedSimpArgs false
set_option maxRecDepth 100000
set_option maxHeartbeats 40000000
theorem Kaq (n : Nat) : n ≤ n := Nat.le_refl n
theorem Kbq {a b c : Nat} (h : a < b) (k : b ≤ c) : a < c := Nat.lt_of_lt_of_le h k
theorem Kcq (n : Nat) : 0 ≤ n := Nat.zero_le n
theorem Kdq {a b c : Nat} (h : a ≤ b) (k : b ≤ c) : a ≤ c := Nat.le_trans h k
theorem own:ownKnob Try.prog.godebug=none:=by kernel_rfl
theorem Q86:laidOutB Try.prog=true:=by kernel_rfl
theorem Q2A {W w1:World} (hb:Below W.heap.size W w1):(∀b o,b < W.heap.size→w1.cell? ⟨b,o,none⟩=W.cell? ⟨b,o,none⟩)∧(∀b o,b < W.heap.size→w1.frozen? ⟨b,o,none⟩=W.frozen? ⟨b,o,none⟩):=
 ⟨fun b o h=> hb.cell (p:=⟨b,o,none⟩) h,fun b o h=> hb.frozen (p:=⟨b,o,none⟩) h⟩
theorem Q0i {a b:Bool} (h:a=b):Ending.returned (.bool a)=.returned (.bool b):=by rw [h]
theorem Q3F {k:IntKind} {a b:Int} (h:a=b):Ending.returned (.int k a)=.returned (.int k b):=by rw [h]
theorem Q0x {w:World} {base base':Nat} {e:TypeId} {size:Nat} {v:Value} {n:Nat} {xs:List Value} (h:w.ownsRow base e size v n xs) (hb:base'≤base):w.ownsRow base' e size v n xs:=by
 obtain ⟨h1,h2⟩:=h
 refine ⟨h1, ?_⟩
 rcases h2 with h2|⟨g,cap,cur,hv,hg,r⟩
 ·exact .inl h2
 ·exact .inr ⟨g,cap,cur,hv,Kdq hb hg,r⟩
theorem Q13 {b:Bool} {P:Prop} (hi:b=true↔P) (h:¬P):false=b:=by cases b <;> simp_all
theorem Q00 {p:Prop} (h:p):Hid p:=h
def Q0c (a b:Int):Bool:=decide (0≤a) && decide (a < 65536) && decide (0≤b) && decide (b < 65536)
theorem Q1u {a b:Int}:Q0c a b=true↔0≤a∧a < 65536∧0≤b∧b < 65536:=by simp [Q0c,and_assoc]
def Q3L (a:Int):Bool:=decide (0≤a) && decide (a≤65535)
theorem Q4E (a b:Int):Q0c a b=(Q3L a && Q3L b):=by
 rw [Bool.eq_iff_iff];simp [Q0c,Q3L];omega
theorem Q2u (a b:Int) (w:World):
  Calls Try.prog 33 #[.agg #[.int .i64 a,.int .i64 b]] w fun e w'=> e=.returned (.bool (Q0c a b))∧Below w.heap.size w w':=by
 have hB:Below w.heap.size w w:=Below.refl _ _
 go_enter Try.func33,Try.ntmps33
 go_wp2
 all_goals go_ret
 all_goals refine ⟨?_,by (repeat (first|with_reducible (first|exact hB|exact Below.refl _ _|refine Below.drew ?_|refine below_drewN ?_ _|refine Below.alloc ?_ ?_ _|refine Below.setCell ?_ ?_ _)|(focus (simp;first|done|omega))|omega))⟩
 all_goals first|(simp [Q0c, *];done)|(simp [Q0c];omega)
theorem Q0E (a b:Int) (w:World):
  Calls Try.prog 35 #[.agg #[.int .i64 a,.int .i64 b]] w fun e w'=> e=.returned (.bool (Q0c a b))∧Below w.heap.size w w':=by
 rw [Q4E]
 have hB:Below w.heap.size w w:=Below.refl _ _
 go_enter Try.func35,Try.ntmps35
 go_wp2
 all_goals go_ret
 all_goals refine ⟨?_,by (repeat (first|with_reducible (first|exact hB|exact Below.refl _ _|refine Below.drew ?_|refine below_drewN ?_ _|refine Below.alloc ?_ ?_ _|refine Below.setCell ?_ ?_ _)|(focus (simp;first|done|omega))|omega))⟩
 all_goals first|(simp [Q3L, *];done)|(simp [Q3L];omega)
def Q15 (b f:Int):Bool:=decide (0≤b) && decide (b < 6) && decide (0≤f) && decide (f≤1)
theorem Q2r {b f:Int}:Q15 b f=true↔0≤b∧b < 6∧0≤f∧f≤1:=by simp [Q15,and_assoc]
theorem Q1B {b f:Int}:Q15 b f=true↔(0≤b∧b < 6∧0≤f∧f≤1∧True):=by simp [Q15,and_assoc]
abbrev seg (b f:Int):Value:=.agg #[.int .i64 b,.int .i64 f]
theorem Q4o (b f:Int) (w:World):
  Calls Try.prog 78 #[seg b f] w fun e w'=> e=.returned (.bool (Q15 b f))∧Below w.heap.size w w':=by
 have hB:Below w.heap.size w w:=Below.refl _ _
 by_cases h1:0≤b
 ·by_cases h2:b < 6
  ·by_cases h3:0≤f
   ·by_cases h4:f≤1
    ·by_cases h7:f=0
     ·subst h7
      have HY:=Q00 (show true=Q15 b 0 by simp [Q15,h1,h2])
      go_enter Try.func78,Try.ntmps78
      go_wp2
      go_ret
      exact ⟨Q0i HY.out,by (repeat (first|with_reducible (first|exact hB|exact Below.refl _ _|refine Below.drew ?_|refine below_drewN ?_ _|refine Below.alloc ?_ ?_ _|refine Below.setCell ?_ ?_ _)|(focus (simp;first|done|omega))|omega))⟩
     ·have h8:f=1:=by omega
      subst h8
      have HY:=Q00 (show true=Q15 b 1 by simp [Q15,h1,h2])
      go_enter Try.func78,Try.ntmps78
      go_wp2
      go_ret
      exact ⟨Q0i HY.out,by (repeat (first|with_reducible (first|exact hB|exact Below.refl _ _|refine Below.drew ?_|refine below_drewN ?_ _|refine Below.alloc ?_ ?_ _|refine Below.setCell ?_ ?_ _)|(focus (simp;first|done|omega))|omega))⟩
    ·have HN:=Q00 (Q13 (Q1B (b:=b) (f:=f)) (fun q=> h4 q.2.2.2.1))
     go_enter Try.func78,Try.ntmps78
     go_wp2
     all_goals go_ret
     all_goals refine ⟨Q0i ?_,by (repeat (first|with_reducible (first|exact hB|exact Below.refl _ _|refine Below.drew ?_|refine below_drewN ?_ _|refine Below.alloc ?_ ?_ _|refine Below.setCell ?_ ?_ _)|(focus (simp;first|done|omega))|omega))⟩
     all_goals first|exact HN.out|(rw [←HN.out];simp;omega)
   ·have HN:=Q00 (Q13 (Q1B (b:=b) (f:=f)) (fun q=> h3 q.2.2.1))
    go_enter Try.func78,Try.ntmps78
    go_wp2
    all_goals go_ret
    all_goals refine ⟨Q0i ?_,by (repeat (first|with_reducible (first|exact hB|exact Below.refl _ _|refine Below.drew ?_|refine below_drewN ?_ _|refine Below.alloc ?_ ?_ _|refine Below.setCell ?_ ?_ _)|(focus (simp;first|done|omega))|omega))⟩
    all_goals first|exact HN.out|(rw [←HN.out];simp;omega)
  ·have HN:=Q00 (Q13 (Q1B (b:=b) (f:=f)) (fun q=> h2 q.2.1))
   go_enter Try.func78,Try.ntmps78
   go_wp2
   all_goals go_ret
   all_goals refine ⟨Q0i ?_,by (repeat (first|with_reducible (first|exact hB|exact Below.refl _ _|refine Below.drew ?_|refine below_drewN ?_ _|refine Below.alloc ?_ ?_ _|refine Below.setCell ?_ ?_ _)|(focus (simp;first|done|omega))|omega))⟩
   all_goals first|exact HN.out|(rw [←HN.out];simp;omega)
 ·have HN:=Q00 (Q13 (Q1B (b:=b) (f:=f)) (fun q=> h1 q.1))
  go_enter Try.func78,Try.ntmps78
  go_wp2
  all_goals go_ret
  all_goals refine ⟨Q0i ?_,by (repeat (first|with_reducible (first|exact hB|exact Below.refl _ _|refine Below.drew ?_|refine below_drewN ?_ _|refine Below.alloc ?_ ?_ _|refine Below.setCell ?_ ?_ _)|(focus (simp;first|done|omega))|omega))⟩
  all_goals first|exact HN.out|(rw [←HN.out];simp;omega)
end Go.Proofs.Ytljogkoaaidlcaa
