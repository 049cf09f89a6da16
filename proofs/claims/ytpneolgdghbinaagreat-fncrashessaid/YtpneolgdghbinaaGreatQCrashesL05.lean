/- The program's cells: leaseOk, cellFrom, slotOf, newFlowTable. -/
import Derived.Deep.RegionWith
import Derived.Test.YtpneolgdghbinaaGreatQCrashesL04
namespace Go.Proofs.YtpneolgdghbinaaGreat
open Go.ChangeShapes Go.WideShapes Go.ChangeAt Go.RowKit Go.Joins
set_option linter.unusedVariables false
set_option linter.unusedSimpArgs false
set_option maxRecDepth 100000
set_option maxHeartbeats 40000000
def Q7D (v t:Int):Bool:=decide (0<=v) && decide (v<=100000) && decide (0<=t) && decide (t<=200000)
abbrev Qik (v t:Int):Value:=.agg #[.int .i64 v,.int .i64 t]
theorem QbE (v t:Int) (w:World):
  Calls Tryz.prog 164 #[Qik v t] w fun e b=>e=.returned (.bool (Q7D v t))/\Below w.heap.size w b:=by
 have a:Below w.heap.size w w:=KBq;go_enter Tryz.func164,Tryz.ntmps164;go_wp2
 all_goals go_ret
 all_goals refine⟨?_,by(repeat (first|with_reducible (first|exact a|exact KBq|refine KHq ?_|refine below_drewN ?_ _|refine KOq ?_ ?_ _|refine KNq ?_ ?_ _)|(focus (simp;first|done|omega))|omega))⟩
 all_goals first|(simp[Q7D, *];done)|(simp[Q7D];omega)
theorem Qbs {a p v t:Int}:Q29 ⟨true,a,p,v,t⟩=(Q0o a p && Q7D v t):=by
 simp[Q29,Q7D,Bool.and_assoc]
theorem Qao (s:Sl) (w:World):
  Calls Tryz.prog 125 #[slot s] w fun e J=> ∃I,e=.returned (.tuple #[slot I,.bool (Q29 s)])/\(Q29 s=true->I=s)/\Below w.heap.size w J:=by
 obtain⟨u,a,p,v,t⟩:=s;have i:Below w.heap.size w w:=KBq
 cases u with
 |false=>
  by_cases b:a=0/\p=0/\v=0/\t=0
  ·obtain⟨rfl,rfl,rfl,rfl⟩:=b
   have m:=Q02 (show Q29 sl0=true from rfl);go_enter Tryz.func125,Tryz.ntmps125;go_wp2
   go_region
   go_wp2;refine bodyPost_ret (v:=.tuple #[slot sl0,.bool true]) (by simp[results,Tryz.results125,go_sem]) rfl ⟨sl0,by rw[m.out],fun _=>rfl, ?_⟩
   (repeat (first|with_reducible (first|exact i|exact KBq|refine KHq ?_|refine below_drewN ?_ _|refine KOq ?_ ?_ _|refine KNq ?_ ?_ _)|(focus (simp;first|done|omega))|omega))
  ·have m:=Q02 (show Q29 ⟨false,a,p,v,t⟩=false by simp[Q29];intro C h2 D z;exact b ⟨C,h2,D,z⟩)
   by_cases C:a=0
   ·subst C
    by_cases h2:p=0
    ·subst h2
     by_cases D:v=0
     ·subst D
      have z:¬t=0:=fun z=>b ⟨rfl,rfl,rfl,z⟩
      have E:(t==0)=false:=beq_eq_false_iff_ne.2 z;clear b;go_enter Tryz.func125,Tryz.ntmps125;go_wp2
      go_region
      go_wp2;refine bodyPost_ret (v:=.tuple #[slot sl0,.bool false]) (by simp[results,Tryz.results125,go_sem]) rfl ⟨sl0,by rw[m.out],fun h=>(by rw[m.out]at h;cases h), ?_⟩
      (repeat (first|with_reducible (first|exact i|exact KBq|refine KHq ?_|refine below_drewN ?_ _|refine KOq ?_ ?_ _|refine KNq ?_ ?_ _)|(focus (simp;first|done|omega))|omega))
     ·have E:(v==0)=false:=beq_eq_false_iff_ne.2 D
      clear b;go_enter Tryz.func125,Tryz.ntmps125;go_wp2
      go_region
      go_wp2;refine bodyPost_ret (v:=.tuple #[slot sl0,.bool false]) (by simp[results,Tryz.results125,go_sem]) rfl ⟨sl0,by rw[m.out],fun h=>(by rw[m.out]at h;cases h), ?_⟩
      (repeat (first|with_reducible (first|exact i|exact KBq|refine KHq ?_|refine below_drewN ?_ _|refine KOq ?_ ?_ _|refine KNq ?_ ?_ _)|(focus (simp;first|done|omega))|omega))
    ·have E:(p==0)=false:=beq_eq_false_iff_ne.2 h2
     clear b;go_enter Tryz.func125,Tryz.ntmps125;go_wp2
     go_region
     go_wp2;refine bodyPost_ret (v:=.tuple #[slot sl0,.bool false]) (by simp[results,Tryz.results125,go_sem]) rfl ⟨sl0,by rw[m.out],fun h=>(by rw[m.out]at h;cases h), ?_⟩
     (repeat (first|with_reducible (first|exact i|exact KBq|refine KHq ?_|refine below_drewN ?_ _|refine KOq ?_ ?_ _|refine KNq ?_ ?_ _)|(focus (simp;first|done|omega))|omega))
   ·have E:(a==0)=false:=beq_eq_false_iff_ne.2 C
    clear b;go_enter Tryz.func125,Tryz.ntmps125;go_wp2
    go_region
    go_wp2;refine bodyPost_ret (v:=.tuple #[slot sl0,.bool false]) (by simp[results,Tryz.results125,go_sem]) rfl ⟨sl0,by rw[m.out],fun h=>(by rw[m.out]at h;cases h), ?_⟩
    (repeat (first|with_reducible (first|exact i|exact KBq|refine KHq ?_|refine below_drewN ?_ _|refine KOq ?_ ?_ _|refine KNq ?_ ?_ _)|(focus (simp;first|done|omega))|omega))
 |true=>
  have G:=fun w=>Q0Z a p w
  have H:=fun w=>QbE v t w
  have m:=Q02 (Qbs (a:=a) (p:=p) (v:=v) (t:=t));generalize Q0o a p=F at *;generalize Q7D v t=L at *
  cases F with
  |false=>
   go_enter Tryz.func125,Tryz.ntmps125;go_wp2
   first|(go_region_with (first|(go_at_call 53;refine(G _).mono ?_;rintro e f ⟨rfl,c⟩;obtain⟨x,A⟩:=Q3L c;have j:w.heap.size < f.heap.size:=(by have b:=c.size;(try simp at b);omega);have k:w.heap.size+1 < f.heap.size:=(by have b:=c.size;(try simp at b);omega);have l:w.heap.size+1+1 < f.heap.size:=(by have b:=c.size;(try simp at b);omega);have i:Below w.heap.size w f:=(by refine Below.trans ?_ (c.mono (by have hs:=i.size;(try simp) <;> omega));(repeat (first|with_reducible (first|exact i|exact KBq|refine KHq ?_|refine below_drewN ?_ _|refine KOq ?_ ?_ _|refine KNq ?_ ?_ _)|(focus (simp;first|done|omega))|omega))))|(go_at_call 164;refine(H _).mono ?_;rintro e g ⟨rfl,d⟩;obtain⟨y,B⟩:=Q3L d;have n:w.heap.size < g.heap.size:=(by have b:=d.size;(try simp at b);omega);have q:w.heap.size+1 < g.heap.size:=(by have b:=d.size;(try simp at b);omega);have r:w.heap.size+1+1 < g.heap.size:=(by have b:=d.size;(try simp at b);omega);have i:Below w.heap.size w g:=(by refine Below.trans ?_ (d.mono (by have hs:=i.size;(try simp) <;> omega));(repeat (first|with_reducible (first|exact i|exact KBq|refine KHq ?_|refine below_drewN ?_ _|refine KOq ?_ ?_ _|refine KNq ?_ ?_ _)|(focus (simp;first|done|omega))|omega))))))|fail
   all_goals go_wp2
   all_goals refine bodyPost_ret (v:=.tuple #[slot ⟨true,a,p,v,t⟩,.bool false]) (by simp[results,Tryz.results125,go_sem,x,j,k,l]) rfl ⟨⟨true,a,p,v,t⟩,by rw[m.out];rfl,fun _=>rfl, ?_⟩
   all_goals ((repeat (first|with_reducible (first|exact i|exact KBq|refine KHq ?_|refine below_drewN ?_ _|refine KOq ?_ ?_ _|refine KNq ?_ ?_ _)|(focus (simp;first|done|omega))|omega)))
  |true=>
   cases L with
   |false=>
    go_enter Tryz.func125,Tryz.ntmps125;go_wp2
    first|(go_region_with (first|(go_at_call 53;refine(G _).mono ?_;rintro e f ⟨rfl,c⟩;obtain⟨x,A⟩:=Q3L c;have j:w.heap.size < f.heap.size:=(by have b:=c.size;(try simp at b);omega);have k:w.heap.size+1 < f.heap.size:=(by have b:=c.size;(try simp at b);omega);have l:w.heap.size+1+1 < f.heap.size:=(by have b:=c.size;(try simp at b);omega);have i:Below w.heap.size w f:=(by refine Below.trans ?_ (c.mono (by have hs:=i.size;(try simp) <;> omega));(repeat (first|with_reducible (first|exact i|exact KBq|refine KHq ?_|refine below_drewN ?_ _|refine KOq ?_ ?_ _|refine KNq ?_ ?_ _)|(focus (simp;first|done|omega))|omega))))|(go_at_call 164;refine(H _).mono ?_;rintro e g ⟨rfl,d⟩;obtain⟨y,B⟩:=Q3L d;have n:w.heap.size < g.heap.size:=(by have b:=d.size;(try simp at b);omega);have q:w.heap.size+1 < g.heap.size:=(by have b:=d.size;(try simp at b);omega);have r:w.heap.size+1+1 < g.heap.size:=(by have b:=d.size;(try simp at b);omega);have i:Below w.heap.size w g:=(by refine Below.trans ?_ (d.mono (by have hs:=i.size;(try simp) <;> omega));(repeat (first|with_reducible (first|exact i|exact KBq|refine KHq ?_|refine below_drewN ?_ _|refine KOq ?_ ?_ _|refine KNq ?_ ?_ _)|(focus (simp;first|done|omega))|omega))))))|fail
    all_goals go_wp2
    all_goals refine bodyPost_ret (v:=.tuple #[slot ⟨true,a,p,v,t⟩,.bool false]) (by simp[results,Tryz.results125,go_sem,x,j,k,l,y,n,q,r]) rfl ⟨⟨true,a,p,v,t⟩,by rw[m.out];rfl,fun _=>rfl, ?_⟩
    all_goals ((repeat (first|with_reducible (first|exact i|exact KBq|refine KHq ?_|refine below_drewN ?_ _|refine KOq ?_ ?_ _|refine KNq ?_ ?_ _)|(focus (simp;first|done|omega))|omega)))
   |true=>
    go_enter Tryz.func125,Tryz.ntmps125;go_wp2
    first|(go_region_with (first|(go_at_call 53;refine(G _).mono ?_;rintro e f ⟨rfl,c⟩;obtain⟨x,A⟩:=Q3L c;have j:w.heap.size < f.heap.size:=(by have b:=c.size;(try simp at b);omega);have k:w.heap.size+1 < f.heap.size:=(by have b:=c.size;(try simp at b);omega);have l:w.heap.size+1+1 < f.heap.size:=(by have b:=c.size;(try simp at b);omega);have i:Below w.heap.size w f:=(by refine Below.trans ?_ (c.mono (by have hs:=i.size;(try simp) <;> omega));(repeat (first|with_reducible (first|exact i|exact KBq|refine KHq ?_|refine below_drewN ?_ _|refine KOq ?_ ?_ _|refine KNq ?_ ?_ _)|(focus (simp;first|done|omega))|omega))))|(go_at_call 164;refine(H _).mono ?_;rintro e g ⟨rfl,d⟩;obtain⟨y,B⟩:=Q3L d;have n:w.heap.size < g.heap.size:=(by have b:=d.size;(try simp at b);omega);have q:w.heap.size+1 < g.heap.size:=(by have b:=d.size;(try simp at b);omega);have r:w.heap.size+1+1 < g.heap.size:=(by have b:=d.size;(try simp at b);omega);have i:Below w.heap.size w g:=(by refine Below.trans ?_ (d.mono (by have hs:=i.size;(try simp) <;> omega));(repeat (first|with_reducible (first|exact i|exact KBq|refine KHq ?_|refine below_drewN ?_ _|refine KOq ?_ ?_ _|refine KNq ?_ ?_ _)|(focus (simp;first|done|omega))|omega))))))|fail
    all_goals go_wp2
    all_goals refine bodyPost_ret (v:=.tuple #[slot ⟨true,a,p,v,t⟩,.bool true]) (by simp[results,Tryz.results125,go_sem,x,j,k,l,y,n,q,r]) rfl ⟨⟨true,a,p,v,t⟩,by rw[m.out];rfl,fun _=>rfl, ?_⟩
    all_goals ((repeat (first|with_reducible (first|exact i|exact KBq|refine KHq ?_|refine below_drewN ?_ _|refine KOq ?_ ?_ _|refine KNq ?_ ?_ _)|(focus (simp;first|done|omega))|omega)))
end Go.Proofs.YtpneolgdghbinaaGreat
