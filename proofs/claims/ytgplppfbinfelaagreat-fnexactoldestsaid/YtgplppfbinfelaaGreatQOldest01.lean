/- Several texts in one: Base, SFlow, LFlow, SSeg, LSeg, OldestC. -/
import Derived.WalkKit
import Derived.ProofKit
import Derived.OpenShut
import Derived.Below
import Derived.OwnWalk
import Derived.Outline
import Derived.Lib.SmallJoins
import Derived.WalkLawsBesides
import Derived.Test.YtgplppfbinfelaaGreatRows
namespace Go.Proofs.YtgplppfbinfelaaGreat
open Go.ChangeShapes Go.WideShapes Go.ChangeAt Go.RowKit Go.Joins
set_option linter.unusedVariables false
set_option linter.unusedSimpArgs false
set_option maxRecDepth 100000
set_option maxHeartbeats 40000000
theorem own:ownKnob Tryz.prog.godebug=none:=by kernel_rfl
theorem laidOut:laidOutB Tryz.prog=true:=by kernel_rfl
theorem bcell {W w1:World} (hb:Below W.heap.size W w1):(∀b o,b < W.heap.size→w1.cell? ⟨b,o,none⟩=W.cell? ⟨b,o,none⟩)∧(∀b o,b < W.heap.size→w1.frozen? ⟨b,o,none⟩=W.frozen? ⟨b,o,none⟩):=
 ⟨fun b o h=> hb.cell (p:=⟨b,o,none⟩) h,fun b o h=> hb.frozen (p:=⟨b,o,none⟩) h⟩
theorem ret_bool {a b:Bool} (h:a=b):Ending.returned (.bool a)=.returned (.bool b):=by rw [h]
theorem ret_int {k:IntKind} {a b:Int} (h:a=b):Ending.returned (.int k a)=.returned (.int k b):=by rw [h]
theorem own_mono {w:World} {base base':Nat} {e:TypeId} {size:Nat} {v:Value} {n:Nat} {xs:List Value} (h:w.ownsRow base e size v n xs) (hb:base'≤base):w.ownsRow base' e size v n xs:=by
 obtain ⟨h1,h2⟩:=h
 refine ⟨h1, ?_⟩
 rcases h2 with h2|⟨g,cap,cur,hv,hg,r⟩
 ·exact .inl h2
 ·exact .inr ⟨g,cap,cur,hv,Nat.le_trans hb hg,r⟩
theorem bool_no {b:Bool} {P:Prop} (hi:b=true↔P) (h:¬P):false=b:=by cases b <;> simp_all
theorem hide {p:Prop} (h:p):Hid p:=h
def flowOkB (a b:Int):Bool:=decide (0≤a) && decide (a < 65536) && decide (0≤b) && decide (b < 65536)
theorem flowOkB_iff {a b:Int}:flowOkB a b=true↔0≤a∧a < 65536∧0≤b∧b < 65536:=by simp [flowOkB,and_assoc]
def isWordB (a:Int):Bool:=decide (0≤a) && decide (a≤65535)
theorem flowOkB_words (a b:Int):flowOkB a b=(isWordB a && isWordB b):=by
 rw [Bool.eq_iff_iff];simp [flowOkB,isWordB];omega
theorem specFlowOk_any (a b:Int) (w:World):
  Calls Tryz.prog 44 #[.agg #[.int .i64 a,.int .i64 b]] w fun e w'=> e=.returned (.bool (flowOkB a b))∧Below w.heap.size w w':=by
 have hB:Below w.heap.size w w:=Below.refl _ _
 go_enter Tryz.func44,Tryz.ntmps44
 go_wp2
 all_goals go_ret
 all_goals refine ⟨?_,by (repeat (first|with_reducible (first|exact hB|exact Below.refl _ _|refine Below.drew ?_|refine below_drewN ?_ _|refine Below.alloc ?_ ?_ _|refine Below.setCell ?_ ?_ _)|(focus (simp;first|done|omega))|omega))⟩
 all_goals first|(simp [flowOkB, *];done)|(simp [flowOkB];omega)
theorem implFlowOk_any (a b:Int) (w:World):
  Calls Tryz.prog 77 #[.agg #[.int .i64 a,.int .i64 b]] w fun e w'=> e=.returned (.bool (flowOkB a b))∧Below w.heap.size w w':=by
 rw [flowOkB_words]
 have hB:Below w.heap.size w w:=Below.refl _ _
 go_enter Tryz.func77,Tryz.ntmps77
 go_wp2
 all_goals go_ret
 all_goals refine ⟨?_,by (repeat (first|with_reducible (first|exact hB|exact Below.refl _ _|refine Below.drew ?_|refine below_drewN ?_ _|refine Below.alloc ?_ ?_ _|refine Below.setCell ?_ ?_ _)|(focus (simp;first|done|omega))|omega))⟩
 all_goals first|(simp [isWordB, *];done)|(simp [isWordB];omega)
theorem cellsLawsFlow:Tryz.prog.cellsOf 73=2:=by kernel_rfl
theorem toFlow_any (a b:Int) (w:World):
  Calls Tryz.prog 30 #[.agg #[.int .i64 a,.int .i64 b]] w fun e w'=> e=.returned (.agg #[.int .i64 a,.int .i64 b])∧Below w.heap.size w w':=by
 have hB:Below w.heap.size w w:=Below.refl _ _
 go_enter Tryz.func30,Tryz.ntmps30
 go_wp2
 refine bodyPost_ret (v:=.agg #[.int .i64 a,.int .i64 b]) (by simp [results,Tryz.results30,go_sem]) rfl ⟨rfl, ?_⟩
 (repeat (first|with_reducible (first|exact hB|exact Below.refl _ _|refine Below.drew ?_|refine below_drewN ?_ _|refine Below.alloc ?_ ?_ _|refine Below.setCell ?_ ?_ _)|(focus (simp;first|done|omega))|omega))
theorem eqFlow_any (a b c d:Int) (w:World):
  Calls Tryz.prog 169 #[.agg #[.int .i64 a,.int .i64 b],.agg #[.int .i64 c,.int .i64 d]] w fun e w'=> e=.returned (.bool (decide (a=c∧b=d)))∧Below w.heap.size w w':=by
 have hB:Below w.heap.size w w:=Below.refl _ _
 go_enter Tryz.func169,Tryz.ntmps169
 go_wp2
 all_goals go_ret
 all_goals refine ⟨?_,by (repeat (first|with_reducible (first|exact hB|exact Below.refl _ _|refine Below.drew ?_|refine below_drewN ?_ _|refine Below.alloc ?_ ?_ _|refine Below.setCell ?_ ?_ _)|(focus (simp;first|done|omega))|omega))⟩
 all_goals (simp_all)
theorem eqFlow_same (a b:Int) (w:World):
  Calls Tryz.prog 169 #[.agg #[.int .i64 a,.int .i64 b],.agg #[.int .i64 a,.int .i64 b]] w fun e w'=> e=.returned (.bool true)∧Below w.heap.size w w':=by
 have:=eqFlow_any a b a b w
 simpa using this
def segOkB (b f:Int):Bool:=decide (0≤b) && decide (b < 6) && decide (0≤f) && decide (f≤1)
theorem segOkB_iff {b f:Int}:segOkB b f=true↔0≤b∧b < 6∧0≤f∧f≤1:=by simp [segOkB,and_assoc]
theorem segOkB_parts {b f:Int}:segOkB b f=true↔(0≤b∧b < 6∧0≤f∧f≤1∧True):=by simp [segOkB,and_assoc]
abbrev seg (b f:Int):Value:=.agg #[.int .i64 b,.int .i64 f]
theorem specSegOk_any (b f:Int) (w:World):
  Calls Tryz.prog 151 #[seg b f] w fun e w'=> e=.returned (.bool (segOkB b f))∧Below w.heap.size w w':=by
 have hB:Below w.heap.size w w:=Below.refl _ _
 go_enter Tryz.func151,Tryz.ntmps151
 go_wp2
 all_goals go_ret
 all_goals refine ⟨?_,by (repeat (first|with_reducible (first|exact hB|exact Below.refl _ _|refine Below.drew ?_|refine below_drewN ?_ _|refine Below.alloc ?_ ?_ _|refine Below.setCell ?_ ?_ _)|(focus (simp;first|done|omega))|omega))⟩
 all_goals first|(simp [segOkB, *];done)|(simp [segOkB];omega)
theorem implSegOk_any (b f:Int) (w:World):
  Calls Tryz.prog 259 #[seg b f] w fun e w'=> e=.returned (.bool (segOkB b f))∧Below w.heap.size w w':=by
 have hB:Below w.heap.size w w:=Below.refl _ _
 by_cases h1:0≤b
 ·by_cases h2:b < 6
  ·by_cases h3:0≤f
   ·by_cases h4:f≤1
    ·by_cases h7:f=0
     ·subst h7
      have HY:=hide (show true=segOkB b 0 by simp [segOkB,h1,h2])
      go_enter Tryz.func259,Tryz.ntmps259
      go_wp2
      go_ret
      exact ⟨ret_bool HY.out,by (repeat (first|with_reducible (first|exact hB|exact Below.refl _ _|refine Below.drew ?_|refine below_drewN ?_ _|refine Below.alloc ?_ ?_ _|refine Below.setCell ?_ ?_ _)|(focus (simp;first|done|omega))|omega))⟩
     ·have h8:f=1:=by omega
      subst h8
      have HY:=hide (show true=segOkB b 1 by simp [segOkB,h1,h2])
      go_enter Tryz.func259,Tryz.ntmps259
      go_wp2
      go_ret
      exact ⟨ret_bool HY.out,by (repeat (first|with_reducible (first|exact hB|exact Below.refl _ _|refine Below.drew ?_|refine below_drewN ?_ _|refine Below.alloc ?_ ?_ _|refine Below.setCell ?_ ?_ _)|(focus (simp;first|done|omega))|omega))⟩
    ·have HN:=hide (bool_no (segOkB_parts (b:=b) (f:=f)) (fun q=> h4 q.2.2.2.1))
     go_enter Tryz.func259,Tryz.ntmps259
     go_wp2
     all_goals go_ret
     all_goals refine ⟨ret_bool ?_,by (repeat (first|with_reducible (first|exact hB|exact Below.refl _ _|refine Below.drew ?_|refine below_drewN ?_ _|refine Below.alloc ?_ ?_ _|refine Below.setCell ?_ ?_ _)|(focus (simp;first|done|omega))|omega))⟩
     all_goals first|exact HN.out|(rw [←HN.out];simp;omega)
   ·have HN:=hide (bool_no (segOkB_parts (b:=b) (f:=f)) (fun q=> h3 q.2.2.1))
    go_enter Tryz.func259,Tryz.ntmps259
    go_wp2
    all_goals go_ret
    all_goals refine ⟨ret_bool ?_,by (repeat (first|with_reducible (first|exact hB|exact Below.refl _ _|refine Below.drew ?_|refine below_drewN ?_ _|refine Below.alloc ?_ ?_ _|refine Below.setCell ?_ ?_ _)|(focus (simp;first|done|omega))|omega))⟩
    all_goals first|exact HN.out|(rw [←HN.out];simp;omega)
  ·have HN:=hide (bool_no (segOkB_parts (b:=b) (f:=f)) (fun q=> h2 q.2.1))
   go_enter Tryz.func259,Tryz.ntmps259
   go_wp2
   all_goals go_ret
   all_goals refine ⟨ret_bool ?_,by (repeat (first|with_reducible (first|exact hB|exact Below.refl _ _|refine Below.drew ?_|refine below_drewN ?_ _|refine Below.alloc ?_ ?_ _|refine Below.setCell ?_ ?_ _)|(focus (simp;first|done|omega))|omega))⟩
   all_goals first|exact HN.out|(rw [←HN.out];simp;omega)
 ·have HN:=hide (bool_no (segOkB_parts (b:=b) (f:=f)) (fun q=> h1 q.1))
  go_enter Tryz.func259,Tryz.ntmps259
  go_wp2
  all_goals go_ret
  all_goals refine ⟨ret_bool ?_,by (repeat (first|with_reducible (first|exact hB|exact Below.refl _ _|refine Below.drew ?_|refine below_drewN ?_ _|refine Below.alloc ?_ ?_ _|refine Below.setCell ?_ ?_ _)|(focus (simp;first|done|omega))|omega))⟩
  all_goals first|exact HN.out|(rw [←HN.out];simp;omega)
theorem toSeg_any (a b:Int) (w:World):
  Calls Tryz.prog 224 #[seg a b] w fun e w'=> e=.returned (seg a b)∧Below w.heap.size w w':=by
 have hB:Below w.heap.size w w:=Below.refl _ _
 go_enter Tryz.func224,Tryz.ntmps224
 go_wp2
 refine bodyPost_ret (v:=.agg #[.int .i64 a,.int .i64 b]) (by simp [results,Tryz.results224,go_sem]) rfl ⟨rfl, ?_⟩
 (repeat (first|with_reducible (first|exact hB|exact Below.refl _ _|refine Below.drew ?_|refine below_drewN ?_ _|refine Below.alloc ?_ ?_ _|refine Below.setCell ?_ ?_ _)|(focus (simp;first|done|omega))|omega))
theorem eqSeg_any (a b c d:Int) (w:World):
  Calls Tryz.prog 233 #[seg a b,seg c d] w fun e w'=> e=.returned (.bool (decide (a=c∧b=d)))∧Below w.heap.size w w':=by
 have hB:Below w.heap.size w w:=Below.refl _ _
 go_enter Tryz.func233,Tryz.ntmps233
 go_wp2
 all_goals go_ret
 all_goals refine ⟨?_,by (repeat (first|with_reducible (first|exact hB|exact Below.refl _ _|refine Below.drew ?_|refine below_drewN ?_ _|refine Below.alloc ?_ ?_ _|refine Below.setCell ?_ ?_ _)|(focus (simp;first|done|omega))|omega))⟩
 all_goals (simp_all)
theorem eqSeg_same (a b:Int) (w:World):
  Calls Tryz.prog 233 #[seg a b,seg a b] w fun e w'=> e=.returned (.bool true)∧Below w.heap.size w w':=by
 have:=eqSeg_any a b a b w
 simpa using this
theorem fnExactOldest_closed:joinedFacts Tryz.pinned.checked.prog 9 Tryz.f9 Rows.fnExactOldestSpec Rows.fnExactOldestRow=true:=by
 unfold joinedFacts
 rw [Bool.and_eq_true]
 refine ⟨?_,by as_aux_lemma=> kernel_rfl⟩
 rw [Bool.and_eq_true]
 refine ⟨?_,by as_aux_lemma=> kernel_rfl⟩
 rw [Bool.and_eq_true]
 refine ⟨?_,by as_aux_lemma=> kernel_rfl⟩
 rw [Bool.and_eq_true]
 refine ⟨?_,by as_aux_lemma=> kernel_rfl⟩
 iterate 3 rw [Bool.and_assoc]
 rw [Bool.and_eq_true]
 refine ⟨?_,by as_aux_lemma=> kernel_rfl⟩
 iterate 3 rw [Bool.and_assoc]
 rw [Bool.and_eq_true]
 refine ⟨?_,by as_aux_lemma=> kernel_rfl⟩
 iterate 3 rw [Bool.and_assoc]
 rw [Bool.and_eq_true]
 refine ⟨?_,by as_aux_lemma=> kernel_rfl⟩
 iterate 3 rw [Bool.and_assoc]
 rw [Bool.and_eq_true]
 refine ⟨?_,by as_aux_lemma=> kernel_rfl⟩
 iterate 3 rw [Bool.and_assoc]
 rw [Bool.and_eq_true]
 refine ⟨?_,by as_aux_lemma=> kernel_rfl⟩
 iterate 3 rw [Bool.and_assoc]
 rw [Bool.and_eq_true]
 refine ⟨?_,by as_aux_lemma=> kernel_rfl⟩
 as_aux_lemma=> kernel_rfl
end Go.Proofs.YtgplppfbinfelaaGreat
