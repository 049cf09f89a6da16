/- The program's cells: leaseOk, cellFrom, slotOf, newFlowTable. -/
import Derived.Deep.RegionWith
import Derived.Test.YtpneolgdghbinaaGreatQLearnsL04
namespace Go.Proofs.YtpneolgdghbinaaGreat
open Go.ChangeShapes Go.WideShapes Go.ChangeAt Go.RowKit Go.Joins
set_option linter.unusedVariables false
set_option linter.unusedSimpArgs false
set_option maxRecDepth 100000
set_option maxHeartbeats 40000000
def Q7R (v t:Int):Bool:=decide (0≤v) && decide (v≤100000) && decide (0≤t) && decide (t≤200000)
abbrev Qhl (v t:Int):Value:=.agg #[.int .i64 v,.int .i64 t]
theorem Qbq (v t:Int) (w:World):
  Calls Tryz.prog 164 #[Qhl v t] w fun e b=> e=.returned (.bool (Q7R v t))∧Below w.heap.size w b:=by
 have a:Below w.heap.size w w:=Below.refl _ _;go_enter Tryz.func164,Tryz.ntmps164;go_wp2
 all_goals go_ret
 all_goals refine ⟨?_,by (repeat (first|with_reducible (first|exact a|exact Below.refl _ _|refine Below.drew ?_|refine below_drewN ?_ _|refine Below.alloc ?_ ?_ _|refine Below.setCell ?_ ?_ _)|(focus (simp;first|done|omega))|omega))⟩
 all_goals first|(simp [Q7R, *];done)|(simp [Q7R];omega)
theorem Qbi {a p v t:Int}:Q2g ⟨true,a,p,v,t⟩=(Q0h a p && Q7R v t):=by
 simp [Q2g,Q7R,Bool.and_assoc]
theorem Qb6 (s:Sl) (w:World):
  Calls Tryz.prog 125 #[slot s] w fun e J=> ∃I,e=.returned (.tuple #[slot I,.bool (Q2g s)])∧(Q2g s=true→I=s)∧Below w.heap.size w J:=by
 obtain ⟨u,a,p,v,t⟩:=s;have i:Below w.heap.size w w:=Below.refl _ _
 cases u with
 |false=>
  by_cases b:a=0∧p=0∧v=0∧t=0
  ·obtain ⟨rfl,rfl,rfl,rfl⟩:=b
   have r:=Q01 (show Q2g sl0=true from rfl);go_enter Tryz.func125,Tryz.ntmps125;go_wp2
   go_region
   go_wp2;refine bodyPost_ret (v:=.tuple #[slot sl0,.bool true]) (by simp [results,Tryz.results125,go_sem]) rfl ⟨sl0,by rw [r.out],fun _=> rfl, ?_⟩
   (repeat (first|with_reducible (first|exact i|exact Below.refl _ _|refine Below.drew ?_|refine below_drewN ?_ _|refine Below.alloc ?_ ?_ _|refine Below.setCell ?_ ?_ _)|(focus (simp;first|done|omega))|omega))
  ·have r:=Q01 (show Q2g ⟨false,a,p,v,t⟩=false by simp [Q2g];intro D h2 C B;exact b ⟨D,h2,C,B⟩)
   by_cases D:a=0
   ·subst D
    by_cases h2:p=0
    ·subst h2
     by_cases C:v=0
     ·subst C
      have B:¬t=0:=fun B=> b ⟨rfl,rfl,rfl,B⟩
      have H:(t==0)=false:=beq_eq_false_iff_ne.2 B;clear b;go_enter Tryz.func125,Tryz.ntmps125;go_wp2
      go_region
      go_wp2;refine bodyPost_ret (v:=.tuple #[slot sl0,.bool false]) (by simp [results,Tryz.results125,go_sem]) rfl ⟨sl0,by rw [r.out],fun h=> (by rw [r.out] at h;cases h), ?_⟩
      (repeat (first|with_reducible (first|exact i|exact Below.refl _ _|refine Below.drew ?_|refine below_drewN ?_ _|refine Below.alloc ?_ ?_ _|refine Below.setCell ?_ ?_ _)|(focus (simp;first|done|omega))|omega))
     ·have H:(v==0)=false:=beq_eq_false_iff_ne.2 C
      clear b;go_enter Tryz.func125,Tryz.ntmps125;go_wp2
      go_region
      go_wp2;refine bodyPost_ret (v:=.tuple #[slot sl0,.bool false]) (by simp [results,Tryz.results125,go_sem]) rfl ⟨sl0,by rw [r.out],fun h=> (by rw [r.out] at h;cases h), ?_⟩
      (repeat (first|with_reducible (first|exact i|exact Below.refl _ _|refine Below.drew ?_|refine below_drewN ?_ _|refine Below.alloc ?_ ?_ _|refine Below.setCell ?_ ?_ _)|(focus (simp;first|done|omega))|omega))
    ·have H:(p==0)=false:=beq_eq_false_iff_ne.2 h2
     clear b;go_enter Tryz.func125,Tryz.ntmps125;go_wp2
     go_region
     go_wp2;refine bodyPost_ret (v:=.tuple #[slot sl0,.bool false]) (by simp [results,Tryz.results125,go_sem]) rfl ⟨sl0,by rw [r.out],fun h=> (by rw [r.out] at h;cases h), ?_⟩
     (repeat (first|with_reducible (first|exact i|exact Below.refl _ _|refine Below.drew ?_|refine below_drewN ?_ _|refine Below.alloc ?_ ?_ _|refine Below.setCell ?_ ?_ _)|(focus (simp;first|done|omega))|omega))
   ·have H:(a==0)=false:=beq_eq_false_iff_ne.2 D
    clear b;go_enter Tryz.func125,Tryz.ntmps125;go_wp2
    go_region
    go_wp2;refine bodyPost_ret (v:=.tuple #[slot sl0,.bool false]) (by simp [results,Tryz.results125,go_sem]) rfl ⟨sl0,by rw [r.out],fun h=> (by rw [r.out] at h;cases h), ?_⟩
    (repeat (first|with_reducible (first|exact i|exact Below.refl _ _|refine Below.drew ?_|refine below_drewN ?_ _|refine Below.alloc ?_ ?_ _|refine Below.setCell ?_ ?_ _)|(focus (simp;first|done|omega))|omega))
 |true=>
  have E:=fun w=> Q0N a p w
  have G:=fun w=> Qbq v t w
  have r:=Q01 (Qbi (a:=a) (p:=p) (v:=v) (t:=t));generalize Q0h a p=F at *;generalize Q7R v t=L at *
  cases F with
  |false=>
   go_enter Tryz.func125,Tryz.ntmps125;go_wp2
   first|(go_region_with (first|(go_at_call 53;refine (E _).mono ?_;rintro e f ⟨rfl,d⟩;obtain ⟨x,A⟩:=Q23 d;have k:w.heap.size < f.heap.size:=(by have b:=d.size;(try simp at b);omega);have l:w.heap.size+1 < f.heap.size:=(by have b:=d.size;(try simp at b);omega);have j:w.heap.size+1+1 < f.heap.size:=(by have b:=d.size;(try simp at b);omega);have i:Below w.heap.size w f:=(by refine Below.trans ?_ (d.mono (by have hs:=i.size;(try simp) <;> omega));(repeat (first|with_reducible (first|exact i|exact Below.refl _ _|refine Below.drew ?_|refine below_drewN ?_ _|refine Below.alloc ?_ ?_ _|refine Below.setCell ?_ ?_ _)|(focus (simp;first|done|omega))|omega))))|(go_at_call 164;refine (G _).mono ?_;rintro e g ⟨rfl,c⟩;obtain ⟨y,z⟩:=Q23 c;have n:w.heap.size < g.heap.size:=(by have b:=c.size;(try simp at b);omega);have m:w.heap.size+1 < g.heap.size:=(by have b:=c.size;(try simp at b);omega);have q:w.heap.size+1+1 < g.heap.size:=(by have b:=c.size;(try simp at b);omega);have i:Below w.heap.size w g:=(by refine Below.trans ?_ (c.mono (by have hs:=i.size;(try simp) <;> omega));(repeat (first|with_reducible (first|exact i|exact Below.refl _ _|refine Below.drew ?_|refine below_drewN ?_ _|refine Below.alloc ?_ ?_ _|refine Below.setCell ?_ ?_ _)|(focus (simp;first|done|omega))|omega))))))|fail
   all_goals go_wp2
   all_goals refine bodyPost_ret (v:=.tuple #[slot ⟨true,a,p,v,t⟩,.bool false]) (by simp [results,Tryz.results125,go_sem,x,k,l,j]) rfl ⟨⟨true,a,p,v,t⟩,by rw [r.out];rfl,fun _=> rfl, ?_⟩
   all_goals ((repeat (first|with_reducible (first|exact i|exact Below.refl _ _|refine Below.drew ?_|refine below_drewN ?_ _|refine Below.alloc ?_ ?_ _|refine Below.setCell ?_ ?_ _)|(focus (simp;first|done|omega))|omega)))
  |true=>
   cases L with
   |false=>
    go_enter Tryz.func125,Tryz.ntmps125;go_wp2
    first|(go_region_with (first|(go_at_call 53;refine (E _).mono ?_;rintro e f ⟨rfl,d⟩;obtain ⟨x,A⟩:=Q23 d;have k:w.heap.size < f.heap.size:=(by have b:=d.size;(try simp at b);omega);have l:w.heap.size+1 < f.heap.size:=(by have b:=d.size;(try simp at b);omega);have j:w.heap.size+1+1 < f.heap.size:=(by have b:=d.size;(try simp at b);omega);have i:Below w.heap.size w f:=(by refine Below.trans ?_ (d.mono (by have hs:=i.size;(try simp) <;> omega));(repeat (first|with_reducible (first|exact i|exact Below.refl _ _|refine Below.drew ?_|refine below_drewN ?_ _|refine Below.alloc ?_ ?_ _|refine Below.setCell ?_ ?_ _)|(focus (simp;first|done|omega))|omega))))|(go_at_call 164;refine (G _).mono ?_;rintro e g ⟨rfl,c⟩;obtain ⟨y,z⟩:=Q23 c;have n:w.heap.size < g.heap.size:=(by have b:=c.size;(try simp at b);omega);have m:w.heap.size+1 < g.heap.size:=(by have b:=c.size;(try simp at b);omega);have q:w.heap.size+1+1 < g.heap.size:=(by have b:=c.size;(try simp at b);omega);have i:Below w.heap.size w g:=(by refine Below.trans ?_ (c.mono (by have hs:=i.size;(try simp) <;> omega));(repeat (first|with_reducible (first|exact i|exact Below.refl _ _|refine Below.drew ?_|refine below_drewN ?_ _|refine Below.alloc ?_ ?_ _|refine Below.setCell ?_ ?_ _)|(focus (simp;first|done|omega))|omega))))))|fail
    all_goals go_wp2
    all_goals refine bodyPost_ret (v:=.tuple #[slot ⟨true,a,p,v,t⟩,.bool false]) (by simp [results,Tryz.results125,go_sem,x,k,l,j,y,n,m,q]) rfl ⟨⟨true,a,p,v,t⟩,by rw [r.out];rfl,fun _=> rfl, ?_⟩
    all_goals ((repeat (first|with_reducible (first|exact i|exact Below.refl _ _|refine Below.drew ?_|refine below_drewN ?_ _|refine Below.alloc ?_ ?_ _|refine Below.setCell ?_ ?_ _)|(focus (simp;first|done|omega))|omega)))
   |true=>
    go_enter Tryz.func125,Tryz.ntmps125;go_wp2
    first|(go_region_with (first|(go_at_call 53;refine (E _).mono ?_;rintro e f ⟨rfl,d⟩;obtain ⟨x,A⟩:=Q23 d;have k:w.heap.size < f.heap.size:=(by have b:=d.size;(try simp at b);omega);have l:w.heap.size+1 < f.heap.size:=(by have b:=d.size;(try simp at b);omega);have j:w.heap.size+1+1 < f.heap.size:=(by have b:=d.size;(try simp at b);omega);have i:Below w.heap.size w f:=(by refine Below.trans ?_ (d.mono (by have hs:=i.size;(try simp) <;> omega));(repeat (first|with_reducible (first|exact i|exact Below.refl _ _|refine Below.drew ?_|refine below_drewN ?_ _|refine Below.alloc ?_ ?_ _|refine Below.setCell ?_ ?_ _)|(focus (simp;first|done|omega))|omega))))|(go_at_call 164;refine (G _).mono ?_;rintro e g ⟨rfl,c⟩;obtain ⟨y,z⟩:=Q23 c;have n:w.heap.size < g.heap.size:=(by have b:=c.size;(try simp at b);omega);have m:w.heap.size+1 < g.heap.size:=(by have b:=c.size;(try simp at b);omega);have q:w.heap.size+1+1 < g.heap.size:=(by have b:=c.size;(try simp at b);omega);have i:Below w.heap.size w g:=(by refine Below.trans ?_ (c.mono (by have hs:=i.size;(try simp) <;> omega));(repeat (first|with_reducible (first|exact i|exact Below.refl _ _|refine Below.drew ?_|refine below_drewN ?_ _|refine Below.alloc ?_ ?_ _|refine Below.setCell ?_ ?_ _)|(focus (simp;first|done|omega))|omega))))))|fail
    all_goals go_wp2
    all_goals refine bodyPost_ret (v:=.tuple #[slot ⟨true,a,p,v,t⟩,.bool true]) (by simp [results,Tryz.results125,go_sem,x,k,l,j,y,n,m,q]) rfl ⟨⟨true,a,p,v,t⟩,by rw [r.out];rfl,fun _=> rfl, ?_⟩
    all_goals ((repeat (first|with_reducible (first|exact i|exact Below.refl _ _|refine Below.drew ?_|refine below_drewN ?_ _|refine Below.alloc ?_ ?_ _|refine Below.setCell ?_ ?_ _)|(focus (simp;first|done|omega))|omega)))
end Go.Proofs.YtpneolgdghbinaaGreat
