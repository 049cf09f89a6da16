/- The program's cells: leaseOk, cellFrom, slotOf, newFlowTable. -/
import Derived.Deep.RegionWith
import Derived.Test.YtpneolgdghbinaaGreatQSends04
namespace Go.Proofs.YtpneolgdghbinaaGreat
open Go.ChangeShapes Go.WideShapes Go.ChangeAt Go.RowKit Go.Joins
set_option linter.unusedVariables false
set_option linter.unusedSimpArgs false
set_option maxRecDepth 100000
set_option maxHeartbeats 40000000
def Q7l (v t:Int):Bool:=decide (0≤v) && decide (v≤100000) && decide (0≤t) && decide (t≤200000)
abbrev QhF (v t:Int):Value:=.agg #[.int .i64 v,.int .i64 t]
theorem Qa7 (v t:Int) (w:World):
  Calls Tryz.prog 164 #[QhF v t] w fun e w'=> e=.returned (.bool (Q7l v t))∧Below w.heap.size w w':=by
 have hB:Below w.heap.size w w:=Below.refl _ _
 go_enter Tryz.func164,Tryz.ntmps164
 go_wp2
 all_goals go_ret
 all_goals refine ⟨?_,by (repeat (first|with_reducible (first|exact hB|exact Below.refl _ _|refine Below.drew ?_|refine below_drewN ?_ _|refine Below.alloc ?_ ?_ _|refine Below.setCell ?_ ?_ _)|(focus (simp;first|done|omega))|omega))⟩
 all_goals first|(simp [Q7l, *];done)|(simp [Q7l];omega)
theorem Qal {a p v t:Int}:Q34 ⟨true,a,p,v,t⟩=(Q0f a p && Q7l v t):=by
 simp [Q34,Q7l,Bool.and_assoc]
theorem Q98 (s:Sl) (w:World):
  Calls Tryz.prog 125 #[slot s] w fun e w'=> ∃s',e=.returned (.tuple #[slot s',.bool (Q34 s)])∧(Q34 s=true→s'=s)∧Below w.heap.size w w':=by
 obtain ⟨u,a,p,v,t⟩:=s;have hB:Below w.heap.size w w:=Below.refl _ _
 cases u with
 |false=>
  by_cases hz:a=0∧p=0∧v=0∧t=0
  ·obtain ⟨rfl,rfl,rfl,rfl⟩:=hz
   have HS:=Q02 (show Q34 sl0=true from rfl)
   go_enter Tryz.func125,Tryz.ntmps125
   go_wp2
   go_region
   go_wp2
   refine bodyPost_ret (v:=.tuple #[slot sl0,.bool true]) (by simp [results,Tryz.results125,go_sem]) rfl ⟨sl0,by rw [HS.out],fun _=> rfl, ?_⟩
   (repeat (first|with_reducible (first|exact hB|exact Below.refl _ _|refine Below.drew ?_|refine below_drewN ?_ _|refine Below.alloc ?_ ?_ _|refine Below.setCell ?_ ?_ _)|(focus (simp;first|done|omega))|omega))
  ·have HS:=Q02 (show Q34 ⟨false,a,p,v,t⟩=false by simp [Q34];intro h1 h2 h3 h4;exact hz ⟨h1,h2,h3,h4⟩)
   by_cases h1:a=0
   ·subst h1
    by_cases h2:p=0
    ·subst h2
     by_cases h3:v=0
     ·subst h3
      have h4:¬t=0:=fun h4=> hz ⟨rfl,rfl,rfl,h4⟩
      have h5:(t==0)=false:=beq_eq_false_iff_ne.2 h4;clear hz
      go_enter Tryz.func125,Tryz.ntmps125
      go_wp2
      go_region
      go_wp2
      refine bodyPost_ret (v:=.tuple #[slot sl0,.bool false]) (by simp [results,Tryz.results125,go_sem]) rfl ⟨sl0,by rw [HS.out],fun h=> (by rw [HS.out] at h;cases h), ?_⟩
      (repeat (first|with_reducible (first|exact hB|exact Below.refl _ _|refine Below.drew ?_|refine below_drewN ?_ _|refine Below.alloc ?_ ?_ _|refine Below.setCell ?_ ?_ _)|(focus (simp;first|done|omega))|omega))
     ·have h5:(v==0)=false:=beq_eq_false_iff_ne.2 h3
      clear hz
      go_enter Tryz.func125,Tryz.ntmps125
      go_wp2
      go_region
      go_wp2
      refine bodyPost_ret (v:=.tuple #[slot sl0,.bool false]) (by simp [results,Tryz.results125,go_sem]) rfl ⟨sl0,by rw [HS.out],fun h=> (by rw [HS.out] at h;cases h), ?_⟩
      (repeat (first|with_reducible (first|exact hB|exact Below.refl _ _|refine Below.drew ?_|refine below_drewN ?_ _|refine Below.alloc ?_ ?_ _|refine Below.setCell ?_ ?_ _)|(focus (simp;first|done|omega))|omega))
    ·have h5:(p==0)=false:=beq_eq_false_iff_ne.2 h2
     clear hz
     go_enter Tryz.func125,Tryz.ntmps125
     go_wp2
     go_region
     go_wp2
     refine bodyPost_ret (v:=.tuple #[slot sl0,.bool false]) (by simp [results,Tryz.results125,go_sem]) rfl ⟨sl0,by rw [HS.out],fun h=> (by rw [HS.out] at h;cases h), ?_⟩
     (repeat (first|with_reducible (first|exact hB|exact Below.refl _ _|refine Below.drew ?_|refine below_drewN ?_ _|refine Below.alloc ?_ ?_ _|refine Below.setCell ?_ ?_ _)|(focus (simp;first|done|omega))|omega))
   ·have h5:(a==0)=false:=beq_eq_false_iff_ne.2 h1
    clear hz
    go_enter Tryz.func125,Tryz.ntmps125
    go_wp2
    go_region
    go_wp2
    refine bodyPost_ret (v:=.tuple #[slot sl0,.bool false]) (by simp [results,Tryz.results125,go_sem]) rfl ⟨sl0,by rw [HS.out],fun h=> (by rw [HS.out] at h;cases h), ?_⟩
    (repeat (first|with_reducible (first|exact hB|exact Below.refl _ _|refine Below.drew ?_|refine below_drewN ?_ _|refine Below.alloc ?_ ?_ _|refine Below.setCell ?_ ?_ _)|(focus (simp;first|done|omega))|omega))
 |true=>
  have hF:=fun w=> Q0K a p w
  have hL:=fun w=> Qa7 v t w
  have HS:=Q02 (Qal (a:=a) (p:=p) (v:=v) (t:=t));generalize Q0f a p=F at *;generalize Q7l v t=L at *
  cases F with
  |false=>
   go_enter Tryz.func125,Tryz.ntmps125
   go_wp2
   first|(go_region_with (first|(go_at_call 53;refine (hF _).mono ?_;rintro e w1a ⟨rfl,hba⟩;obtain ⟨hca,hfa⟩:=Q1z hba;have hz0a:w.heap.size < w1a.heap.size:=(by have hz:=hba.size;(try simp at hz);omega);have hz1a:w.heap.size+1 < w1a.heap.size:=(by have hz:=hba.size;(try simp at hz);omega);have hz2a:w.heap.size+1+1 < w1a.heap.size:=(by have hz:=hba.size;(try simp at hz);omega);have hB:Below w.heap.size w w1a:=(by refine Below.trans ?_ (hba.mono (by have hs:=hB.size;(try simp) <;> omega));(repeat (first|with_reducible (first|exact hB|exact Below.refl _ _|refine Below.drew ?_|refine below_drewN ?_ _|refine Below.alloc ?_ ?_ _|refine Below.setCell ?_ ?_ _)|(focus (simp;first|done|omega))|omega))))|(go_at_call 164;refine (hL _).mono ?_;rintro e w1b ⟨rfl,hbb⟩;obtain ⟨hcb,hfb⟩:=Q1z hbb;have hz0b:w.heap.size < w1b.heap.size:=(by have hz:=hbb.size;(try simp at hz);omega);have hz1b:w.heap.size+1 < w1b.heap.size:=(by have hz:=hbb.size;(try simp at hz);omega);have hz2b:w.heap.size+1+1 < w1b.heap.size:=(by have hz:=hbb.size;(try simp at hz);omega);have hB:Below w.heap.size w w1b:=(by refine Below.trans ?_ (hbb.mono (by have hs:=hB.size;(try simp) <;> omega));(repeat (first|with_reducible (first|exact hB|exact Below.refl _ _|refine Below.drew ?_|refine below_drewN ?_ _|refine Below.alloc ?_ ?_ _|refine Below.setCell ?_ ?_ _)|(focus (simp;first|done|omega))|omega))))))|fail
   all_goals go_wp2
   all_goals refine bodyPost_ret (v:=.tuple #[slot ⟨true,a,p,v,t⟩,.bool false]) (by simp [results,Tryz.results125,go_sem,hca,hz0a,hz1a,hz2a]) rfl ⟨⟨true,a,p,v,t⟩,by rw [HS.out];rfl,fun _=> rfl, ?_⟩
   all_goals ((repeat (first|with_reducible (first|exact hB|exact Below.refl _ _|refine Below.drew ?_|refine below_drewN ?_ _|refine Below.alloc ?_ ?_ _|refine Below.setCell ?_ ?_ _)|(focus (simp;first|done|omega))|omega)))
  |true=>
   cases L with
   |false=>
    go_enter Tryz.func125,Tryz.ntmps125
    go_wp2
    first|(go_region_with (first|(go_at_call 53;refine (hF _).mono ?_;rintro e w1a ⟨rfl,hba⟩;obtain ⟨hca,hfa⟩:=Q1z hba;have hz0a:w.heap.size < w1a.heap.size:=(by have hz:=hba.size;(try simp at hz);omega);have hz1a:w.heap.size+1 < w1a.heap.size:=(by have hz:=hba.size;(try simp at hz);omega);have hz2a:w.heap.size+1+1 < w1a.heap.size:=(by have hz:=hba.size;(try simp at hz);omega);have hB:Below w.heap.size w w1a:=(by refine Below.trans ?_ (hba.mono (by have hs:=hB.size;(try simp) <;> omega));(repeat (first|with_reducible (first|exact hB|exact Below.refl _ _|refine Below.drew ?_|refine below_drewN ?_ _|refine Below.alloc ?_ ?_ _|refine Below.setCell ?_ ?_ _)|(focus (simp;first|done|omega))|omega))))|(go_at_call 164;refine (hL _).mono ?_;rintro e w1b ⟨rfl,hbb⟩;obtain ⟨hcb,hfb⟩:=Q1z hbb;have hz0b:w.heap.size < w1b.heap.size:=(by have hz:=hbb.size;(try simp at hz);omega);have hz1b:w.heap.size+1 < w1b.heap.size:=(by have hz:=hbb.size;(try simp at hz);omega);have hz2b:w.heap.size+1+1 < w1b.heap.size:=(by have hz:=hbb.size;(try simp at hz);omega);have hB:Below w.heap.size w w1b:=(by refine Below.trans ?_ (hbb.mono (by have hs:=hB.size;(try simp) <;> omega));(repeat (first|with_reducible (first|exact hB|exact Below.refl _ _|refine Below.drew ?_|refine below_drewN ?_ _|refine Below.alloc ?_ ?_ _|refine Below.setCell ?_ ?_ _)|(focus (simp;first|done|omega))|omega))))))|fail
    all_goals go_wp2
    all_goals refine bodyPost_ret (v:=.tuple #[slot ⟨true,a,p,v,t⟩,.bool false]) (by simp [results,Tryz.results125,go_sem,hca,hz0a,hz1a,hz2a,hcb,hz0b,hz1b,hz2b]) rfl ⟨⟨true,a,p,v,t⟩,by rw [HS.out];rfl,fun _=> rfl, ?_⟩
    all_goals ((repeat (first|with_reducible (first|exact hB|exact Below.refl _ _|refine Below.drew ?_|refine below_drewN ?_ _|refine Below.alloc ?_ ?_ _|refine Below.setCell ?_ ?_ _)|(focus (simp;first|done|omega))|omega)))
   |true=>
    go_enter Tryz.func125,Tryz.ntmps125
    go_wp2
    first|(go_region_with (first|(go_at_call 53;refine (hF _).mono ?_;rintro e w1a ⟨rfl,hba⟩;obtain ⟨hca,hfa⟩:=Q1z hba;have hz0a:w.heap.size < w1a.heap.size:=(by have hz:=hba.size;(try simp at hz);omega);have hz1a:w.heap.size+1 < w1a.heap.size:=(by have hz:=hba.size;(try simp at hz);omega);have hz2a:w.heap.size+1+1 < w1a.heap.size:=(by have hz:=hba.size;(try simp at hz);omega);have hB:Below w.heap.size w w1a:=(by refine Below.trans ?_ (hba.mono (by have hs:=hB.size;(try simp) <;> omega));(repeat (first|with_reducible (first|exact hB|exact Below.refl _ _|refine Below.drew ?_|refine below_drewN ?_ _|refine Below.alloc ?_ ?_ _|refine Below.setCell ?_ ?_ _)|(focus (simp;first|done|omega))|omega))))|(go_at_call 164;refine (hL _).mono ?_;rintro e w1b ⟨rfl,hbb⟩;obtain ⟨hcb,hfb⟩:=Q1z hbb;have hz0b:w.heap.size < w1b.heap.size:=(by have hz:=hbb.size;(try simp at hz);omega);have hz1b:w.heap.size+1 < w1b.heap.size:=(by have hz:=hbb.size;(try simp at hz);omega);have hz2b:w.heap.size+1+1 < w1b.heap.size:=(by have hz:=hbb.size;(try simp at hz);omega);have hB:Below w.heap.size w w1b:=(by refine Below.trans ?_ (hbb.mono (by have hs:=hB.size;(try simp) <;> omega));(repeat (first|with_reducible (first|exact hB|exact Below.refl _ _|refine Below.drew ?_|refine below_drewN ?_ _|refine Below.alloc ?_ ?_ _|refine Below.setCell ?_ ?_ _)|(focus (simp;first|done|omega))|omega))))))|fail
    all_goals go_wp2
    all_goals refine bodyPost_ret (v:=.tuple #[slot ⟨true,a,p,v,t⟩,.bool true]) (by simp [results,Tryz.results125,go_sem,hca,hz0a,hz1a,hz2a,hcb,hz0b,hz1b,hz2b]) rfl ⟨⟨true,a,p,v,t⟩,by rw [HS.out];rfl,fun _=> rfl, ?_⟩
    all_goals ((repeat (first|with_reducible (first|exact hB|exact Below.refl _ _|refine Below.drew ?_|refine below_drewN ?_ _|refine Below.alloc ?_ ?_ _|refine Below.setCell ?_ ?_ _)|(focus (simp;first|done|omega))|omega)))
end Go.Proofs.YtpneolgdghbinaaGreat
