/- Several texts in one: Base, SFlow, LFlow, SSeg, LSeg, OwnersC. -/
import Derived.WalkKit
import Derived.ProofKit
import Derived.OpenShut
import Derived.Below
import Derived.OwnWalk
import Derived.Outline
import Derived.Lib.SmallJoins
import Derived.WalkLawsBesides
import Derived.Test.YtgplppfbinfelaaGreatRows
namespace Go.Proofs.YtgplppfbinfelaaGreat
open Go.ChangeShapes Go.WideShapes Go.ChangeAt Go.RowKit Go.Joins
set_option linter.unusedVariables false
set_option linter.unusedSimpArgs false
set_option maxRecDepth 100000
set_option maxHeartbeats 40000000
theorem Kaq (n : Nat) : n ≤ n := Nat.le_refl n
theorem Kbq {a b c : Nat} (h : a < b) (k : b ≤ c) : a < c := Nat.lt_of_lt_of_le h k
theorem Kcq (n : Nat) : 0 ≤ n := Nat.zero_le n
theorem Kdq {a b c : Nat} (h : a ≤ b) (k : b ≤ c) : a ≤ c := Nat.le_trans h k
theorem own:ownKnob Tryz.prog.godebug=none:=by kernel_rfl
theorem Qdu:laidOutB Tryz.prog=true:=by kernel_rfl
theorem Q0C {W w1:World} (hb:Below W.heap.size W w1):(∀b o,b < W.heap.size→w1.cell? ⟨b,o,none⟩=W.cell? ⟨b,o,none⟩)∧(∀b o,b < W.heap.size→w1.frozen? ⟨b,o,none⟩=W.frozen? ⟨b,o,none⟩):=
 ⟨fun b o h=> hb.cell (p:=⟨b,o,none⟩) h,fun b o h=> hb.frozen (p:=⟨b,o,none⟩) h⟩
theorem Q03 {a b:Bool} (h:a=b):Ending.returned (.bool a)=.returned (.bool b):=by rw [h]
theorem Q17 {k:IntKind} {a b:Int} (h:a=b):Ending.returned (.int k a)=.returned (.int k b):=by rw [h]
theorem Q07 {w:World} {base base':Nat} {e:TypeId} {size:Nat} {v:Value} {n:Nat} {xs:List Value} (h:w.ownsRow base e size v n xs) (hb:base'≤base):w.ownsRow base' e size v n xs:=by
 obtain ⟨h1,h2⟩:=h
 refine ⟨h1, ?_⟩
 rcases h2 with h2|⟨g,cap,cur,hv,hg,r⟩
 ·exact .inl h2
 ·exact .inr ⟨g,cap,cur,hv,Kdq hb hg,r⟩
theorem Q0V {b:Bool} {P:Prop} (hi:b=true↔P) (h:¬P):false=b:=by cases b <;> simp_all
theorem Q00 {p:Prop} (h:p):Hid p:=h
def Q0h (a b:Int):Bool:=decide (0≤a) && decide (a < 65536) && decide (0≤b) && decide (b < 65536)
theorem Q3I {a b:Int}:Q0h a b=true↔0≤a∧a < 65536∧0≤b∧b < 65536:=by simp [Q0h,and_assoc]
def Q5N (a:Int):Bool:=decide (0≤a) && decide (a≤65535)
theorem Q87 (a b:Int):Q0h a b=(Q5N a && Q5N b):=by
 rw [Bool.eq_iff_iff];simp [Q0h,Q5N];omega
theorem Q0r (a b:Int) (w:World):
  Calls Tryz.prog 44 #[.agg #[.int .i64 a,.int .i64 b]] w fun e w'=> e=.returned (.bool (Q0h a b))∧Below w.heap.size w w':=by
 have hB:Below w.heap.size w w:=Below.refl _ _
 go_enter Tryz.func44,Tryz.ntmps44
 go_wp2
 all_goals go_ret
 all_goals refine ⟨?_,by (repeat (first|with_reducible (first|exact hB|exact Below.refl _ _|refine Below.drew ?_|refine below_drewN ?_ _|refine Below.alloc ?_ ?_ _|refine Below.setCell ?_ ?_ _)|(focus (simp;first|done|omega))|omega))⟩
 all_goals first|(simp [Q0h, *];done)|(simp [Q0h];omega)
theorem Q0E (a b:Int) (w:World):
  Calls Tryz.prog 77 #[.agg #[.int .i64 a,.int .i64 b]] w fun e w'=> e=.returned (.bool (Q0h a b))∧Below w.heap.size w w':=by
 rw [Q87]
 have hB:Below w.heap.size w w:=Below.refl _ _
 go_enter Tryz.func77,Tryz.ntmps77
 go_wp2
 all_goals go_ret
 all_goals refine ⟨?_,by (repeat (first|with_reducible (first|exact hB|exact Below.refl _ _|refine Below.drew ?_|refine below_drewN ?_ _|refine Below.alloc ?_ ?_ _|refine Below.setCell ?_ ?_ _)|(focus (simp;first|done|omega))|omega))⟩
 all_goals first|(simp [Q5N, *];done)|(simp [Q5N];omega)
theorem Q1A:Tryz.prog.cellsOf 73=2:=by kernel_rfl
theorem Qe4 {H:Type} {enc:TypeId × Value→H} {W:World} {base:Nat} {v:Value} {d:DataW H} {p:List MemPlace}
  (hv:Value.okWide Tryz.prog W .any base 73 v) (h:DataW.Trod enc Tryz.prog W 0 (fun _=> true) true 73 v d p):
  ∃a b:Int,v=.agg #[.int .i64 a,.int .i64 b]:=by
 obtain ⟨c0,c1,y0,y1,m,rfl,rfl,rfl,hy0,hy1⟩:=open_agg2 Tryz.underlying73 (by kernel_rfl) Q1A hv h
 obtain ⟨a,e0,rfl,wa⟩:=DataW.trod_int Tryz.underlying3 hy0
 obtain ⟨b,e1,rfl,wb⟩:=DataW.trod_int Tryz.underlying3 hy1
 simp at e0 e1
 subst e0 e1
 exact ⟨a,b,rfl⟩
theorem Q1H (a b:Int) (w:World):
  Calls Tryz.prog 30 #[.agg #[.int .i64 a,.int .i64 b]] w fun e w'=> e=.returned (.agg #[.int .i64 a,.int .i64 b])∧Below w.heap.size w w':=by
 have hB:Below w.heap.size w w:=Below.refl _ _
 go_enter Tryz.func30,Tryz.ntmps30
 go_wp2
 refine bodyPost_ret (v:=.agg #[.int .i64 a,.int .i64 b]) (by simp [results,Tryz.results30,go_sem]) rfl ⟨rfl, ?_⟩
 (repeat (first|with_reducible (first|exact hB|exact Below.refl _ _|refine Below.drew ?_|refine below_drewN ?_ _|refine Below.alloc ?_ ?_ _|refine Below.setCell ?_ ?_ _)|(focus (simp;first|done|omega))|omega))
theorem Qcd (a b c d:Int) (w:World):
  Calls Tryz.prog 169 #[.agg #[.int .i64 a,.int .i64 b],.agg #[.int .i64 c,.int .i64 d]] w fun e w'=> e=.returned (.bool (decide (a=c∧b=d)))∧Below w.heap.size w w':=by
 have hB:Below w.heap.size w w:=Below.refl _ _
 go_enter Tryz.func169,Tryz.ntmps169
 go_wp2
 all_goals go_ret
 all_goals refine ⟨?_,by (repeat (first|with_reducible (first|exact hB|exact Below.refl _ _|refine Below.drew ?_|refine below_drewN ?_ _|refine Below.alloc ?_ ?_ _|refine Below.setCell ?_ ?_ _)|(focus (simp;first|done|omega))|omega))⟩
 all_goals (simp_all)
theorem Q2L (a b:Int) (w:World):
  Calls Tryz.prog 169 #[.agg #[.int .i64 a,.int .i64 b],.agg #[.int .i64 a,.int .i64 b]] w fun e w'=> e=.returned (.bool true)∧Below w.heap.size w w':=by
 have:=Qcd a b a b w
 simpa using this
def Q1o (b f:Int):Bool:=decide (0≤b) && decide (b < 6) && decide (0≤f) && decide (f≤1)
theorem Q7m {b f:Int}:Q1o b f=true↔0≤b∧b < 6∧0≤f∧f≤1:=by simp [Q1o,and_assoc]
theorem Q2f {b f:Int}:Q1o b f=true↔(0≤b∧b < 6∧0≤f∧f≤1∧True):=by simp [Q1o,and_assoc]
abbrev seg (b f:Int):Value:=.agg #[.int .i64 b,.int .i64 f]
theorem Q7Z (b f:Int) (w:World):
  Calls Tryz.prog 151 #[seg b f] w fun e w'=> e=.returned (.bool (Q1o b f))∧Below w.heap.size w w':=by
 have hB:Below w.heap.size w w:=Below.refl _ _
 go_enter Tryz.func151,Tryz.ntmps151
 go_wp2
 all_goals go_ret
 all_goals refine ⟨?_,by (repeat (first|with_reducible (first|exact hB|exact Below.refl _ _|refine Below.drew ?_|refine below_drewN ?_ _|refine Below.alloc ?_ ?_ _|refine Below.setCell ?_ ?_ _)|(focus (simp;first|done|omega))|omega))⟩
 all_goals first|(simp [Q1o, *];done)|(simp [Q1o];omega)
theorem Q8h (b f:Int) (w:World):
  Calls Tryz.prog 259 #[seg b f] w fun e w'=> e=.returned (.bool (Q1o b f))∧Below w.heap.size w w':=by
 have hB:Below w.heap.size w w:=Below.refl _ _
 by_cases h1:0≤b
 ·by_cases h2:b < 6
  ·by_cases h3:0≤f
   ·by_cases h4:f≤1
    ·by_cases h7:f=0
     ·subst h7
      have HY:=Q00 (show true=Q1o b 0 by simp [Q1o,h1,h2])
      go_enter Tryz.func259,Tryz.ntmps259
      go_wp2
      go_ret
      exact ⟨Q03 HY.out,by (repeat (first|with_reducible (first|exact hB|exact Below.refl _ _|refine Below.drew ?_|refine below_drewN ?_ _|refine Below.alloc ?_ ?_ _|refine Below.setCell ?_ ?_ _)|(focus (simp;first|done|omega))|omega))⟩
     ·have h8:f=1:=by omega
      subst h8
      have HY:=Q00 (show true=Q1o b 1 by simp [Q1o,h1,h2])
      go_enter Tryz.func259,Tryz.ntmps259
      go_wp2
      go_ret
      exact ⟨Q03 HY.out,by (repeat (first|with_reducible (first|exact hB|exact Below.refl _ _|refine Below.drew ?_|refine below_drewN ?_ _|refine Below.alloc ?_ ?_ _|refine Below.setCell ?_ ?_ _)|(focus (simp;first|done|omega))|omega))⟩
    ·have HN:=Q00 (Q0V (Q2f (b:=b) (f:=f)) (fun q=> h4 q.2.2.2.1))
     go_enter Tryz.func259,Tryz.ntmps259
     go_wp2
     all_goals go_ret
     all_goals refine ⟨Q03 ?_,by (repeat (first|with_reducible (first|exact hB|exact Below.refl _ _|refine Below.drew ?_|refine below_drewN ?_ _|refine Below.alloc ?_ ?_ _|refine Below.setCell ?_ ?_ _)|(focus (simp;first|done|omega))|omega))⟩
     all_goals first|exact HN.out|(rw [←HN.out];simp;omega)
   ·have HN:=Q00 (Q0V (Q2f (b:=b) (f:=f)) (fun q=> h3 q.2.2.1))
    go_enter Tryz.func259,Tryz.ntmps259
    go_wp2
    all_goals go_ret
    all_goals refine ⟨Q03 ?_,by (repeat (first|with_reducible (first|exact hB|exact Below.refl _ _|refine Below.drew ?_|refine below_drewN ?_ _|refine Below.alloc ?_ ?_ _|refine Below.setCell ?_ ?_ _)|(focus (simp;first|done|omega))|omega))⟩
    all_goals first|exact HN.out|(rw [←HN.out];simp;omega)
  ·have HN:=Q00 (Q0V (Q2f (b:=b) (f:=f)) (fun q=> h2 q.2.1))
   go_enter Tryz.func259,Tryz.ntmps259
   go_wp2
   all_goals go_ret
   all_goals refine ⟨Q03 ?_,by (repeat (first|with_reducible (first|exact hB|exact Below.refl _ _|refine Below.drew ?_|refine below_drewN ?_ _|refine Below.alloc ?_ ?_ _|refine Below.setCell ?_ ?_ _)|(focus (simp;first|done|omega))|omega))⟩
   all_goals first|exact HN.out|(rw [←HN.out];simp;omega)
 ·have HN:=Q00 (Q0V (Q2f (b:=b) (f:=f)) (fun q=> h1 q.1))
  go_enter Tryz.func259,Tryz.ntmps259
  go_wp2
  all_goals go_ret
  all_goals refine ⟨Q03 ?_,by (repeat (first|with_reducible (first|exact hB|exact Below.refl _ _|refine Below.drew ?_|refine below_drewN ?_ _|refine Below.alloc ?_ ?_ _|refine Below.setCell ?_ ?_ _)|(focus (simp;first|done|omega))|omega))⟩
  all_goals first|exact HN.out|(rw [←HN.out];simp;omega)
theorem Qd3 (a b:Int) (w:World):
  Calls Tryz.prog 224 #[seg a b] w fun e w'=> e=.returned (seg a b)∧Below w.heap.size w w':=by
 have hB:Below w.heap.size w w:=Below.refl _ _
 go_enter Tryz.func224,Tryz.ntmps224
 go_wp2
 refine bodyPost_ret (v:=.agg #[.int .i64 a,.int .i64 b]) (by simp [results,Tryz.results224,go_sem]) rfl ⟨rfl, ?_⟩
 (repeat (first|with_reducible (first|exact hB|exact Below.refl _ _|refine Below.drew ?_|refine below_drewN ?_ _|refine Below.alloc ?_ ?_ _|refine Below.setCell ?_ ?_ _)|(focus (simp;first|done|omega))|omega))
theorem Qd6 (a b c d:Int) (w:World):
  Calls Tryz.prog 233 #[seg a b,seg c d] w fun e w'=> e=.returned (.bool (decide (a=c∧b=d)))∧Below w.heap.size w w':=by
 have hB:Below w.heap.size w w:=Below.refl _ _
 go_enter Tryz.func233,Tryz.ntmps233
 go_wp2
 all_goals go_ret
 all_goals refine ⟨?_,by (repeat (first|with_reducible (first|exact hB|exact Below.refl _ _|refine Below.drew ?_|refine below_drewN ?_ _|refine Below.alloc ?_ ?_ _|refine Below.setCell ?_ ?_ _)|(focus (simp;first|done|omega))|omega))⟩
 all_goals (simp_all)
theorem QbW (a b:Int) (w:World):
  Calls Tryz.prog 233 #[seg a b,seg a b] w fun e w'=> e=.returned (.bool true)∧Below w.heap.size w w':=by
 have:=Qd6 a b a b w
 simpa using this
theorem fnExactOwners_closed:joinedFacts Tryz.pinned.checked.prog 8 Tryz.f8 Rows.fnExactOwnersSpec Rows.fnExactOwnersRow=true:=by
 unfold joinedFacts
 rw [Bool.and_eq_true]
 refine ⟨?_,by as_aux_lemma=> kernel_rfl⟩
 rw [Bool.and_eq_true]
 refine ⟨?_,by as_aux_lemma=> kernel_rfl⟩
 rw [Bool.and_eq_true]
 refine ⟨?_,by as_aux_lemma=> kernel_rfl⟩
 rw [Bool.and_eq_true]
 refine ⟨?_,by as_aux_lemma=> kernel_rfl⟩
 iterate 3 rw [Bool.and_assoc]
 rw [Bool.and_eq_true]
 refine ⟨?_,by as_aux_lemma=> kernel_rfl⟩
 iterate 3 rw [Bool.and_assoc]
 rw [Bool.and_eq_true]
 refine ⟨?_,by as_aux_lemma=> kernel_rfl⟩
 iterate 3 rw [Bool.and_assoc]
 rw [Bool.and_eq_true]
 refine ⟨?_,by as_aux_lemma=> kernel_rfl⟩
 iterate 3 rw [Bool.and_assoc]
 rw [Bool.and_eq_true]
 refine ⟨?_,by as_aux_lemma=> kernel_rfl⟩
 iterate 3 rw [Bool.and_assoc]
 rw [Bool.and_eq_true]
 refine ⟨?_,by as_aux_lemma=> kernel_rfl⟩
 iterate 3 rw [Bool.and_assoc]
 rw [Bool.and_eq_true]
 refine ⟨?_,by as_aux_lemma=> kernel_rfl⟩
 as_aux_lemma=> kernel_rfl
end Go.Proofs.YtgplppfbinfelaaGreat
