/- Several texts in one: Base, SFlow, LFlow, SSeg, LSeg, LoadOfC. -/
import Derived.WalkKit
import Derived.ProofKit
import Derived.OpenShut
import Derived.Below
import Derived.OwnWalk
import Derived.Outline
import Derived.Lib.SmallJoins
import Derived.WalkLawsBesides
import Derived.Test.YtgplppfbinfelaaGreatRows
namespace Go.Proofs.YtgplppfbinfelaaGreat
open Go.ChangeShapes Go.WideShapes Go.ChangeAt Go.RowKit Go.Joins
set_option linter.unusedVariables false
set_option linter.unusedSimpArgs false
set_option maxRecDepth 100000
set_option maxHeartbeats 40000000
theorem Kaq (n : Nat) : n ≤ n := Nat.le_refl n
theorem Kbq {a b c : Nat} (h : a < b) (k : b ≤ c) : a < c := Nat.lt_of_lt_of_le h k
theorem Kcq (n : Nat) : 0 ≤ n := Nat.zero_le n
theorem Kdq {a b c : Nat} (h : a ≤ b) (k : b ≤ c) : a ≤ c := Nat.le_trans h k
theorem own:ownKnob Tryz.prog.godebug=none:=by kernel_rfl
theorem Qfw:laidOutB Tryz.prog=true:=by kernel_rfl
theorem Q0B {W w1:World} (hb:Below W.heap.size W w1):(∀b o,b < W.heap.size→w1.cell? ⟨b,o,none⟩=W.cell? ⟨b,o,none⟩)∧(∀b o,b < W.heap.size→w1.frozen? ⟨b,o,none⟩=W.frozen? ⟨b,o,none⟩):=
 ⟨fun b o h=> hb.cell (p:=⟨b,o,none⟩) h,fun b o h=> hb.frozen (p:=⟨b,o,none⟩) h⟩
theorem Q02 {a b:Bool} (h:a=b):Ending.returned (.bool a)=.returned (.bool b):=by rw [h]
theorem Q17 {k:IntKind} {a b:Int} (h:a=b):Ending.returned (.int k a)=.returned (.int k b):=by rw [h]
theorem Q07 {w:World} {base base':Nat} {e:TypeId} {size:Nat} {v:Value} {n:Nat} {xs:List Value} (h:w.ownsRow base e size v n xs) (hb:base'≤base):w.ownsRow base' e size v n xs:=by
 obtain ⟨h1,h2⟩:=h
 refine ⟨h1, ?_⟩
 rcases h2 with h2|⟨g,cap,cur,hv,hg,r⟩
 ·exact .inl h2
 ·exact .inr ⟨g,cap,cur,hv,Kdq hb hg,r⟩
theorem Q0X {b:Bool} {P:Prop} (hi:b=true↔P) (h:¬P):false=b:=by cases b <;> simp_all
theorem Q00 {p:Prop} (h:p):Hid p:=h
def Q0n (a b:Int):Bool:=decide (0≤a) && decide (a < 65536) && decide (0≤b) && decide (b < 65536)
theorem Q3E {a b:Int}:Q0n a b=true↔0≤a∧a < 65536∧0≤b∧b < 65536:=by simp [Q0n,and_assoc]
def Q63 (a:Int):Bool:=decide (0≤a) && decide (a≤65535)
theorem Q8d (a b:Int):Q0n a b=(Q63 a && Q63 b):=by
 rw [Bool.eq_iff_iff];simp [Q0n,Q63];omega
theorem Q0u (a b:Int) (w:World):
  Calls Tryz.prog 44 #[.agg #[.int .i64 a,.int .i64 b]] w fun e w'=> e=.returned (.bool (Q0n a b))∧Below w.heap.size w w':=by
 have hB:Below w.heap.size w w:=Below.refl _ _
 go_enter Tryz.func44,Tryz.ntmps44
 go_wp2
 all_goals go_ret
 all_goals refine ⟨?_,by (repeat (first|with_reducible (first|exact hB|exact Below.refl _ _|refine Below.drew ?_|refine below_drewN ?_ _|refine Below.alloc ?_ ?_ _|refine Below.setCell ?_ ?_ _)|(focus (simp;first|done|omega))|omega))⟩
 all_goals first|(simp [Q0n, *];done)|(simp [Q0n];omega)
theorem Q0H (a b:Int) (w:World):
  Calls Tryz.prog 77 #[.agg #[.int .i64 a,.int .i64 b]] w fun e w'=> e=.returned (.bool (Q0n a b))∧Below w.heap.size w w':=by
 rw [Q8d]
 have hB:Below w.heap.size w w:=Below.refl _ _
 go_enter Tryz.func77,Tryz.ntmps77
 go_wp2
 all_goals go_ret
 all_goals refine ⟨?_,by (repeat (first|with_reducible (first|exact hB|exact Below.refl _ _|refine Below.drew ?_|refine below_drewN ?_ _|refine Below.alloc ?_ ?_ _|refine Below.setCell ?_ ?_ _)|(focus (simp;first|done|omega))|omega))⟩
 all_goals first|(simp [Q63, *];done)|(simp [Q63];omega)
theorem Q1O:Tryz.prog.cellsOf 73=2:=by kernel_rfl
theorem Q3n (a b:Int) (w:World):
  Calls Tryz.prog 30 #[.agg #[.int .i64 a,.int .i64 b]] w fun e w'=> e=.returned (.agg #[.int .i64 a,.int .i64 b])∧Below w.heap.size w w':=by
 have hB:Below w.heap.size w w:=Below.refl _ _
 go_enter Tryz.func30,Tryz.ntmps30
 go_wp2
 refine bodyPost_ret (v:=.agg #[.int .i64 a,.int .i64 b]) (by simp [results,Tryz.results30,go_sem]) rfl ⟨rfl, ?_⟩
 (repeat (first|with_reducible (first|exact hB|exact Below.refl _ _|refine Below.drew ?_|refine below_drewN ?_ _|refine Below.alloc ?_ ?_ _|refine Below.setCell ?_ ?_ _)|(focus (simp;first|done|omega))|omega))
theorem QbO (a b c d:Int) (w:World):
  Calls Tryz.prog 169 #[.agg #[.int .i64 a,.int .i64 b],.agg #[.int .i64 c,.int .i64 d]] w fun e w'=> e=.returned (.bool (decide (a=c∧b=d)))∧Below w.heap.size w w':=by
 have hB:Below w.heap.size w w:=Below.refl _ _
 go_enter Tryz.func169,Tryz.ntmps169
 go_wp2
 all_goals go_ret
 all_goals refine ⟨?_,by (repeat (first|with_reducible (first|exact hB|exact Below.refl _ _|refine Below.drew ?_|refine below_drewN ?_ _|refine Below.alloc ?_ ?_ _|refine Below.setCell ?_ ?_ _)|(focus (simp;first|done|omega))|omega))⟩
 all_goals (simp_all)
theorem Q2L (a b:Int) (w:World):
  Calls Tryz.prog 169 #[.agg #[.int .i64 a,.int .i64 b],.agg #[.int .i64 a,.int .i64 b]] w fun e w'=> e=.returned (.bool true)∧Below w.heap.size w w':=by
 have:=QbO a b a b w
 simpa using this
def Q1p (b f:Int):Bool:=decide (0≤b) && decide (b < 6) && decide (0≤f) && decide (f≤1)
theorem Q75 {b f:Int}:Q1p b f=true↔0≤b∧b < 6∧0≤f∧f≤1:=by simp [Q1p,and_assoc]
theorem Q29 {b f:Int}:Q1p b f=true↔(0≤b∧b < 6∧0≤f∧f≤1∧True):=by simp [Q1p,and_assoc]
abbrev seg (b f:Int):Value:=.agg #[.int .i64 b,.int .i64 f]
theorem Q7v (b f:Int) (w:World):
  Calls Tryz.prog 151 #[seg b f] w fun e w'=> e=.returned (.bool (Q1p b f))∧Below w.heap.size w w':=by
 have hB:Below w.heap.size w w:=Below.refl _ _
 go_enter Tryz.func151,Tryz.ntmps151
 go_wp2
 all_goals go_ret
 all_goals refine ⟨?_,by (repeat (first|with_reducible (first|exact hB|exact Below.refl _ _|refine Below.drew ?_|refine below_drewN ?_ _|refine Below.alloc ?_ ?_ _|refine Below.setCell ?_ ?_ _)|(focus (simp;first|done|omega))|omega))⟩
 all_goals first|(simp [Q1p, *];done)|(simp [Q1p];omega)
theorem Q86 (b f:Int) (w:World):
  Calls Tryz.prog 259 #[seg b f] w fun e w'=> e=.returned (.bool (Q1p b f))∧Below w.heap.size w w':=by
 have hB:Below w.heap.size w w:=Below.refl _ _
 by_cases h1:0≤b
 ·by_cases h2:b < 6
  ·by_cases h3:0≤f
   ·by_cases h4:f≤1
    ·by_cases h7:f=0
     ·subst h7
      have HY:=Q00 (show true=Q1p b 0 by simp [Q1p,h1,h2])
      go_enter Tryz.func259,Tryz.ntmps259
      go_wp2
      go_ret
      exact ⟨Q02 HY.out,by (repeat (first|with_reducible (first|exact hB|exact Below.refl _ _|refine Below.drew ?_|refine below_drewN ?_ _|refine Below.alloc ?_ ?_ _|refine Below.setCell ?_ ?_ _)|(focus (simp;first|done|omega))|omega))⟩
     ·have h8:f=1:=by omega
      subst h8
      have HY:=Q00 (show true=Q1p b 1 by simp [Q1p,h1,h2])
      go_enter Tryz.func259,Tryz.ntmps259
      go_wp2
      go_ret
      exact ⟨Q02 HY.out,by (repeat (first|with_reducible (first|exact hB|exact Below.refl _ _|refine Below.drew ?_|refine below_drewN ?_ _|refine Below.alloc ?_ ?_ _|refine Below.setCell ?_ ?_ _)|(focus (simp;first|done|omega))|omega))⟩
    ·have HN:=Q00 (Q0X (Q29 (b:=b) (f:=f)) (fun q=> h4 q.2.2.2.1))
     go_enter Tryz.func259,Tryz.ntmps259
     go_wp2
     all_goals go_ret
     all_goals refine ⟨Q02 ?_,by (repeat (first|with_reducible (first|exact hB|exact Below.refl _ _|refine Below.drew ?_|refine below_drewN ?_ _|refine Below.alloc ?_ ?_ _|refine Below.setCell ?_ ?_ _)|(focus (simp;first|done|omega))|omega))⟩
     all_goals first|exact HN.out|(rw [←HN.out];simp;omega)
   ·have HN:=Q00 (Q0X (Q29 (b:=b) (f:=f)) (fun q=> h3 q.2.2.1))
    go_enter Tryz.func259,Tryz.ntmps259
    go_wp2
    all_goals go_ret
    all_goals refine ⟨Q02 ?_,by (repeat (first|with_reducible (first|exact hB|exact Below.refl _ _|refine Below.drew ?_|refine below_drewN ?_ _|refine Below.alloc ?_ ?_ _|refine Below.setCell ?_ ?_ _)|(focus (simp;first|done|omega))|omega))⟩
    all_goals first|exact HN.out|(rw [←HN.out];simp;omega)
  ·have HN:=Q00 (Q0X (Q29 (b:=b) (f:=f)) (fun q=> h2 q.2.1))
   go_enter Tryz.func259,Tryz.ntmps259
   go_wp2
   all_goals go_ret
   all_goals refine ⟨Q02 ?_,by (repeat (first|with_reducible (first|exact hB|exact Below.refl _ _|refine Below.drew ?_|refine below_drewN ?_ _|refine Below.alloc ?_ ?_ _|refine Below.setCell ?_ ?_ _)|(focus (simp;first|done|omega))|omega))⟩
   all_goals first|exact HN.out|(rw [←HN.out];simp;omega)
 ·have HN:=Q00 (Q0X (Q29 (b:=b) (f:=f)) (fun q=> h1 q.1))
  go_enter Tryz.func259,Tryz.ntmps259
  go_wp2
  all_goals go_ret
  all_goals refine ⟨Q02 ?_,by (repeat (first|with_reducible (first|exact hB|exact Below.refl _ _|refine Below.drew ?_|refine below_drewN ?_ _|refine Below.alloc ?_ ?_ _|refine Below.setCell ?_ ?_ _)|(focus (simp;first|done|omega))|omega))⟩
  all_goals first|exact HN.out|(rw [←HN.out];simp;omega)
theorem Qdo (a b:Int) (w:World):
  Calls Tryz.prog 224 #[seg a b] w fun e w'=> e=.returned (seg a b)∧Below w.heap.size w w':=by
 have hB:Below w.heap.size w w:=Below.refl _ _
 go_enter Tryz.func224,Tryz.ntmps224
 go_wp2
 refine bodyPost_ret (v:=.agg #[.int .i64 a,.int .i64 b]) (by simp [results,Tryz.results224,go_sem]) rfl ⟨rfl, ?_⟩
 (repeat (first|with_reducible (first|exact hB|exact Below.refl _ _|refine Below.drew ?_|refine below_drewN ?_ _|refine Below.alloc ?_ ?_ _|refine Below.setCell ?_ ?_ _)|(focus (simp;first|done|omega))|omega))
theorem Qdb (a b c d:Int) (w:World):
  Calls Tryz.prog 233 #[seg a b,seg c d] w fun e w'=> e=.returned (.bool (decide (a=c∧b=d)))∧Below w.heap.size w w':=by
 have hB:Below w.heap.size w w:=Below.refl _ _
 go_enter Tryz.func233,Tryz.ntmps233
 go_wp2
 all_goals go_ret
 all_goals refine ⟨?_,by (repeat (first|with_reducible (first|exact hB|exact Below.refl _ _|refine Below.drew ?_|refine below_drewN ?_ _|refine Below.alloc ?_ ?_ _|refine Below.setCell ?_ ?_ _)|(focus (simp;first|done|omega))|omega))⟩
 all_goals (simp_all)
theorem Qcw (a b:Int) (w:World):
  Calls Tryz.prog 233 #[seg a b,seg a b] w fun e w'=> e=.returned (.bool true)∧Below w.heap.size w w':=by
 have:=Qdb a b a b w
 simpa using this
theorem fnExactLoadOf_closed:joinedFacts Tryz.pinned.checked.prog 10 Tryz.f10 Rows.fnExactLoadOfSpec Rows.fnExactLoadOfRow=true:=by
 unfold joinedFacts
 rw [Bool.and_eq_true]
 refine ⟨?_,by as_aux_lemma=> kernel_rfl⟩
 rw [Bool.and_eq_true]
 refine ⟨?_,by as_aux_lemma=> kernel_rfl⟩
 rw [Bool.and_eq_true]
 refine ⟨?_,by as_aux_lemma=> kernel_rfl⟩
 rw [Bool.and_eq_true]
 refine ⟨?_,by as_aux_lemma=> kernel_rfl⟩
 iterate 3 rw [Bool.and_assoc]
 rw [Bool.and_eq_true]
 refine ⟨?_,by as_aux_lemma=> kernel_rfl⟩
 iterate 3 rw [Bool.and_assoc]
 rw [Bool.and_eq_true]
 refine ⟨?_,by as_aux_lemma=> kernel_rfl⟩
 iterate 3 rw [Bool.and_assoc]
 rw [Bool.and_eq_true]
 refine ⟨?_,by as_aux_lemma=> kernel_rfl⟩
 iterate 3 rw [Bool.and_assoc]
 rw [Bool.and_eq_true]
 refine ⟨?_,by as_aux_lemma=> kernel_rfl⟩
 iterate 3 rw [Bool.and_assoc]
 rw [Bool.and_eq_true]
 refine ⟨?_,by as_aux_lemma=> kernel_rfl⟩
 iterate 3 rw [Bool.and_assoc]
 rw [Bool.and_eq_true]
 refine ⟨?_,by as_aux_lemma=> kernel_rfl⟩
 as_aux_lemma=> kernel_rfl
end Go.Proofs.YtgplppfbinfelaaGreat
