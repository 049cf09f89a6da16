/- Several texts in one: SScore, SCell. -/
import Derived.Test.YteffhdcankkfkaaGreatQListed06
import Derived.Test.YteffhdcankkfkaaGreatQListed14
namespace Go.Proofs.YteffhdcankkfkaaGreat
open Go.ChangeShapes Go.WideShapes Go.ChangeAt Go.RowKit Go.Joins
set_option linter.unusedVariables false
set_option linter.unusedSimpArgs false
set_option maxRecDepth 100000
set_option maxHeartbeats 40000000
def Q1K (k b i g:Int):Int:=Q1w k (b * 64+i) / 128 * g
theorem Q9z (k b i g:Int) (h:0<=g) (h2:g<=100):0<=Q1K k b i g/\Q1K k b i g<=1677721600:=by
 have d:=Q36 k (b * 64+i);unfold Q1K;generalize hq:Q1w k (b * 64+i) / 128=q
 have a:0<=q:=by omega
 have c:q<=16777215:=by omega
 constructor
 ·exact Int.mul_nonneg a h
 ·have:=Int.mul_le_mul c h2 h (by decide)
  omega
def Q1G (k b i g:Int):Int:=if Q1S k=true/\(0<=b/\b < 8)/\Q32 i g=true then Q1K k b i g else -1
theorem Q1Y (n:Int) (w:World):Calls Tryz.prog 215 #[.int .i64 n] w fun e a=>e=.returned (.bool (decide (0<=n) && decide (n < 8)))/\w=a:=by
 go_enter Tryz.func215,Tryz.ntmps215;go_wp2
 all_goals go_ret
 all_goals refine⟨?_,rfl⟩
 all_goals first|(simp[*];done)|(simp;omega)
theorem Qb1 (k b i g:Int) (d:Bool) (w:World) (h:0<=k) (h2:k < 1000000) (n:0<=b) (p:b < 8) (r:0<=i) (s:i < 6) (c:0<=g) (f:g<=100):
  Calls Tryz.prog 242 #[.int .i64 k,.int .i64 b,back i g d] w fun e m=>e=.returned (.int .i64 (Q1K k b i g))/\Below w.heap.size w m:=by
 have j:Below w.heap.size w w:=KBq;have q:=Q36 k (b * 64+i);have hs:=Q9z k b i g c f;have a:=Q00 (show Q1w k (b * 64+i) / 128 * g=Q1K k b i g from rfl);have l:0<=Q1w k (b * 64+i) / 128 * g/\Q1w k (b * 64+i) / 128 * g<=1677721600:=hs;clear hs;go_enter Tryz.func242,Tryz.ntmps242;go_wp2_with fail
 go_quiet (exact Q4R (Q53 k (b * 64+i) _ h h2 (by omega) (by omega)))
 go_wp2;go_ret;exact⟨Q0O a.out,by(repeat (first|with_reducible (first|exact j|exact KBq|refine KHq ?_|refine below_drewN ?_ _|refine KOq ?_ ?_ _|refine KNq ?_ ?_ _)|(focus (simp;first|done|omega))|omega))⟩
theorem Q8m (k b i g:Int) (d:Bool) (w:World):
  Calls Tryz.prog 268 #[.int .i64 k,.int .i64 b,back i g d] w fun e y=>e=.returned (.int .i64 (Q1G k b i g))/\Below w.heap.size w y:=by
 have f:Below w.heap.size w w:=KBq
 by_cases hk:Q1S k=true
 ·by_cases a:0<=b/\b < 8
  ·have h:(decide (0<=b) && decide (b < 8))=true:=by simp[a]
   by_cases hg:Q32 i g=true
   ·obtain⟨B,C,z,r⟩:=Q4n.1 hg
    obtain⟨s,h2⟩:=Q3M.1 hk;have A:=Q36 k (64 * b+i);have hs:=Q9z k b i g (by omega) r
    have v:Q2n k (64 * b+i)=Q1w k (64 * b+i):=by rw[Q2n,if_pos ⟨s,h2,by omega,by omega⟩]
    have j:=Q00 (show Q1w k (64 * b+i) / 128 * g=Q1G k b i g by rw[Q1G,if_pos ⟨hk,a,hg⟩,Q1K,Int.mul_comm b 64])
    have x:0<=Q1w k (64 * b+i) / 128 * g/\Q1w k (64 * b+i) / 128 * g<=1677721600:=by have:=hs;rw[Q1K,Int.mul_comm b 64]at this;exact this
    clear hs;go_enter Tryz.func268,Tryz.ntmps268
    go_wp2_with (first|(go_at_call 133;refine(Q0N k _).mono ?_;rw[hk];rintro e c ⟨rfl,rfl⟩)|(go_at_call 215;refine(Q1Y b _).mono ?_;rw[h];rintro e c ⟨rfl,rfl⟩)|(go_at_call 255;refine(hg ▸ Q1W i g d _).mono ?_;rintro e c ⟨rfl,a⟩;obtain⟨t,u⟩:=Q0F a;have p:w.heap.size < c.heap.size:=(by have n:=a.size;(try simp at n);omega);have f:Below w.heap.size w c:=(by refine Below.trans ?_ (a.mono (by have hs:=f.size;(try simp) <;> omega));(repeat (first|with_reducible (first|exact f|exact KBq|refine KHq ?_|refine below_drewN ?_ _|refine KOq ?_ ?_ _|refine KNq ?_ ?_ _)|(focus (simp;first|done|omega))|omega)))))
    go_quiet (exact Q4R (v ▸ Q43 k (64 * b+i) _))
    go_wp2;go_ret;exact⟨Q0O j.out,by(repeat (first|with_reducible (first|exact f|exact KBq|refine KHq ?_|refine below_drewN ?_ _|refine KOq ?_ ?_ _|refine KNq ?_ ?_ _)|(focus (simp;first|done|omega))|omega))⟩
   ·have l:Q32 i g=false:=by simpa using hg
    have j:=Q00 (show -1=Q1G k b i g by rw[Q1G,if_neg (fun q=>hg q.2.2)]);go_enter Tryz.func268,Tryz.ntmps268
    go_wp2_with (first|(go_at_call 133;refine(Q0N k _).mono ?_;rw[hk];rintro e c ⟨rfl,rfl⟩)|(go_at_call 215;refine(Q1Y b _).mono ?_;rw[h];rintro e c ⟨rfl,rfl⟩)|(go_at_call 255;refine(l ▸ Q1W i g d _).mono ?_;rintro e c ⟨rfl,a⟩;obtain⟨t,u⟩:=Q0F a;have p:w.heap.size < c.heap.size:=(by have n:=a.size;(try simp at n);omega);have f:Below w.heap.size w c:=(by refine Below.trans ?_ (a.mono (by have hs:=f.size;(try simp) <;> omega));(repeat (first|with_reducible (first|exact f|exact KBq|refine KHq ?_|refine below_drewN ?_ _|refine KOq ?_ ?_ _|refine KNq ?_ ?_ _)|(focus (simp;first|done|omega))|omega)))))
    go_ret;exact⟨Q0O j.out,by(repeat (first|with_reducible (first|exact f|exact KBq|refine KHq ?_|refine below_drewN ?_ _|refine KOq ?_ ?_ _|refine KNq ?_ ?_ _)|(focus (simp;first|done|omega))|omega))⟩
  ·have h:(decide (0<=b) && decide (b < 8))=false:=by simpa using a
   have j:=Q00 (show -1=Q1G k b i g by rw[Q1G,if_neg (fun q=>a q.2.1)]);go_enter Tryz.func268,Tryz.ntmps268;go_wp2_with (first|(go_at_call 133;refine(Q0N k _).mono ?_;rw[hk];rintro e c ⟨rfl,rfl⟩)|(go_at_call 215;refine(Q1Y b _).mono ?_;rw[h];rintro e c ⟨rfl,rfl⟩));go_ret;exact⟨Q0O j.out,by(repeat (first|with_reducible (first|exact f|exact KBq|refine KHq ?_|refine below_drewN ?_ _|refine KOq ?_ ?_ _|refine KNq ?_ ?_ _)|(focus (simp;first|done|omega))|omega))⟩
 ·have m:Q1S k=false:=by simpa using hk
  have j:=Q00 (show -1=Q1G k b i g by rw[Q1G,if_neg (fun q=>hk q.1)]);go_enter Tryz.func268,Tryz.ntmps268;go_wp2_with (first|(go_at_call 133;refine(Q0N k _).mono ?_;rw[m];rintro e c ⟨rfl,rfl⟩));go_ret;exact⟨Q0O j.out,by(repeat (first|with_reducible (first|exact f|exact KBq|refine KHq ?_|refine below_drewN ?_ _|refine KOq ?_ ?_ _|refine KNq ?_ ?_ _)|(focus (simp;first|done|omega))|omega))⟩
def Q7O (v t:Int):Bool:=decide (0<=v) && decide (v<=100000) && decide (0<=t) && decide (t<=200000)
abbrev Qie (v t:Int):Value:=.agg #[.int .i64 v,.int .i64 t]
theorem Qc0 (v t:Int) (w:World):
  Calls Tryz.prog 249 #[Qie v t] w fun e b=>e=.returned (.bool (Q7O v t))/\Below w.heap.size w b:=by
 have a:Below w.heap.size w w:=KBq;go_enter Tryz.func249,Tryz.ntmps249;go_wp2
 all_goals go_ret
 all_goals refine⟨?_,by(repeat (first|with_reducible (first|exact a|exact KBq|refine KHq ?_|refine below_drewN ?_ _|refine KOq ?_ ?_ _|refine KNq ?_ ?_ _)|(focus (simp;first|done|omega))|omega))⟩
 all_goals first|(simp[Q7O, *];done)|(simp[Q7O];omega)
theorem Qb8 {a p v t:Int}:Q2a ⟨true,a,p,v,t⟩=(Q0g a p && Q7O v t):=by
 simp[Q2a,Q7O,Bool.and_assoc]
theorem Qa5 (s:Sl) (w:World):
  Calls Tryz.prog 232 #[slot s] w fun e J=> ∃I,e=.returned (.tuple #[slot I,.bool (Q2a s)])/\(Q2a s=true->I=s)/\Below w.heap.size w J:=by
 obtain⟨u,a,p,v,t⟩:=s;have i:Below w.heap.size w w:=KBq
 cases u with
 |false=>
  by_cases b:a=0/\p=0/\v=0/\t=0
  ·obtain⟨rfl,rfl,rfl,rfl⟩:=b
   have m:=Q00 (show Q2a sl0=true from rfl);go_enter Tryz.func232,Tryz.ntmps232;go_wp2
   go_region
   go_wp2;refine bodyPost_ret (v:=.tuple #[slot sl0,.bool true]) (by simp[results,Tryz.results232,go_sem]) rfl ⟨sl0,by rw[m.out],fun _=>rfl, ?_⟩
   (repeat (first|with_reducible (first|exact i|exact KBq|refine KHq ?_|refine below_drewN ?_ _|refine KOq ?_ ?_ _|refine KNq ?_ ?_ _)|(focus (simp;first|done|omega))|omega))
  ·have m:=Q00 (show Q2a ⟨false,a,p,v,t⟩=false by simp[Q2a];intro C h2 D z;exact b ⟨C,h2,D,z⟩)
   by_cases C:a=0
   ·subst C
    by_cases h2:p=0
    ·subst h2
     by_cases D:v=0
     ·subst D
      have z:¬t=0:=fun z=>b ⟨rfl,rfl,rfl,z⟩
      have E:(t==0)=false:=beq_eq_false_iff_ne.2 z;clear b;go_enter Tryz.func232,Tryz.ntmps232;go_wp2
      go_region
      go_wp2;refine bodyPost_ret (v:=.tuple #[slot sl0,.bool false]) (by simp[results,Tryz.results232,go_sem]) rfl ⟨sl0,by rw[m.out],fun h=>(by rw[m.out]at h;cases h), ?_⟩
      (repeat (first|with_reducible (first|exact i|exact KBq|refine KHq ?_|refine below_drewN ?_ _|refine KOq ?_ ?_ _|refine KNq ?_ ?_ _)|(focus (simp;first|done|omega))|omega))
     ·have E:(v==0)=false:=beq_eq_false_iff_ne.2 D
      clear b;go_enter Tryz.func232,Tryz.ntmps232;go_wp2
      go_region
      go_wp2;refine bodyPost_ret (v:=.tuple #[slot sl0,.bool false]) (by simp[results,Tryz.results232,go_sem]) rfl ⟨sl0,by rw[m.out],fun h=>(by rw[m.out]at h;cases h), ?_⟩
      (repeat (first|with_reducible (first|exact i|exact KBq|refine KHq ?_|refine below_drewN ?_ _|refine KOq ?_ ?_ _|refine KNq ?_ ?_ _)|(focus (simp;first|done|omega))|omega))
    ·have E:(p==0)=false:=beq_eq_false_iff_ne.2 h2
     clear b;go_enter Tryz.func232,Tryz.ntmps232;go_wp2
     go_region
     go_wp2;refine bodyPost_ret (v:=.tuple #[slot sl0,.bool false]) (by simp[results,Tryz.results232,go_sem]) rfl ⟨sl0,by rw[m.out],fun h=>(by rw[m.out]at h;cases h), ?_⟩
     (repeat (first|with_reducible (first|exact i|exact KBq|refine KHq ?_|refine below_drewN ?_ _|refine KOq ?_ ?_ _|refine KNq ?_ ?_ _)|(focus (simp;first|done|omega))|omega))
   ·have E:(a==0)=false:=beq_eq_false_iff_ne.2 C
    clear b;go_enter Tryz.func232,Tryz.ntmps232;go_wp2
    go_region
    go_wp2;refine bodyPost_ret (v:=.tuple #[slot sl0,.bool false]) (by simp[results,Tryz.results232,go_sem]) rfl ⟨sl0,by rw[m.out],fun h=>(by rw[m.out]at h;cases h), ?_⟩
    (repeat (first|with_reducible (first|exact i|exact KBq|refine KHq ?_|refine below_drewN ?_ _|refine KOq ?_ ?_ _|refine KNq ?_ ?_ _)|(focus (simp;first|done|omega))|omega))
 |true=>
  have G:=fun w=>Q0v a p w
  have H:=fun w=>Qc0 v t w
  have m:=Q00 (Qb8 (a:=a) (p:=p) (v:=v) (t:=t));generalize Q0g a p=F at *;generalize Q7O v t=L at *
  cases F with
  |false=>
   go_enter Tryz.func232,Tryz.ntmps232;go_wp2
   first|(go_region_with (first|(go_at_call 66;refine(G _).mono ?_;rintro e f ⟨rfl,c⟩;obtain⟨x,A⟩:=Q0F c;have j:w.heap.size < f.heap.size:=(by have b:=c.size;(try simp at b);omega);have k:w.heap.size+1 < f.heap.size:=(by have b:=c.size;(try simp at b);omega);have l:w.heap.size+1+1 < f.heap.size:=(by have b:=c.size;(try simp at b);omega);have i:Below w.heap.size w f:=(by refine Below.trans ?_ (c.mono (by have hs:=i.size;(try simp) <;> omega));(repeat (first|with_reducible (first|exact i|exact KBq|refine KHq ?_|refine below_drewN ?_ _|refine KOq ?_ ?_ _|refine KNq ?_ ?_ _)|(focus (simp;first|done|omega))|omega))))|(go_at_call 249;refine(H _).mono ?_;rintro e g ⟨rfl,d⟩;obtain⟨y,B⟩:=Q0F d;have n:w.heap.size < g.heap.size:=(by have b:=d.size;(try simp at b);omega);have q:w.heap.size+1 < g.heap.size:=(by have b:=d.size;(try simp at b);omega);have r:w.heap.size+1+1 < g.heap.size:=(by have b:=d.size;(try simp at b);omega);have i:Below w.heap.size w g:=(by refine Below.trans ?_ (d.mono (by have hs:=i.size;(try simp) <;> omega));(repeat (first|with_reducible (first|exact i|exact KBq|refine KHq ?_|refine below_drewN ?_ _|refine KOq ?_ ?_ _|refine KNq ?_ ?_ _)|(focus (simp;first|done|omega))|omega))))))|fail
   all_goals go_wp2
   all_goals refine bodyPost_ret (v:=.tuple #[slot ⟨true,a,p,v,t⟩,.bool false]) (by simp[results,Tryz.results232,go_sem,x,j,k,l]) rfl ⟨⟨true,a,p,v,t⟩,by rw[m.out];rfl,fun _=>rfl, ?_⟩
   all_goals ((repeat (first|with_reducible (first|exact i|exact KBq|refine KHq ?_|refine below_drewN ?_ _|refine KOq ?_ ?_ _|refine KNq ?_ ?_ _)|(focus (simp;first|done|omega))|omega)))
  |true=>
   cases L with
   |false=>
    go_enter Tryz.func232,Tryz.ntmps232;go_wp2
    first|(go_region_with (first|(go_at_call 66;refine(G _).mono ?_;rintro e f ⟨rfl,c⟩;obtain⟨x,A⟩:=Q0F c;have j:w.heap.size < f.heap.size:=(by have b:=c.size;(try simp at b);omega);have k:w.heap.size+1 < f.heap.size:=(by have b:=c.size;(try simp at b);omega);have l:w.heap.size+1+1 < f.heap.size:=(by have b:=c.size;(try simp at b);omega);have i:Below w.heap.size w f:=(by refine Below.trans ?_ (c.mono (by have hs:=i.size;(try simp) <;> omega));(repeat (first|with_reducible (first|exact i|exact KBq|refine KHq ?_|refine below_drewN ?_ _|refine KOq ?_ ?_ _|refine KNq ?_ ?_ _)|(focus (simp;first|done|omega))|omega))))|(go_at_call 249;refine(H _).mono ?_;rintro e g ⟨rfl,d⟩;obtain⟨y,B⟩:=Q0F d;have n:w.heap.size < g.heap.size:=(by have b:=d.size;(try simp at b);omega);have q:w.heap.size+1 < g.heap.size:=(by have b:=d.size;(try simp at b);omega);have r:w.heap.size+1+1 < g.heap.size:=(by have b:=d.size;(try simp at b);omega);have i:Below w.heap.size w g:=(by refine Below.trans ?_ (d.mono (by have hs:=i.size;(try simp) <;> omega));(repeat (first|with_reducible (first|exact i|exact KBq|refine KHq ?_|refine below_drewN ?_ _|refine KOq ?_ ?_ _|refine KNq ?_ ?_ _)|(focus (simp;first|done|omega))|omega))))))|fail
    all_goals go_wp2
    all_goals refine bodyPost_ret (v:=.tuple #[slot ⟨true,a,p,v,t⟩,.bool false]) (by simp[results,Tryz.results232,go_sem,x,j,k,l,y,n,q,r]) rfl ⟨⟨true,a,p,v,t⟩,by rw[m.out];rfl,fun _=>rfl, ?_⟩
    all_goals ((repeat (first|with_reducible (first|exact i|exact KBq|refine KHq ?_|refine below_drewN ?_ _|refine KOq ?_ ?_ _|refine KNq ?_ ?_ _)|(focus (simp;first|done|omega))|omega)))
   |true=>
    go_enter Tryz.func232,Tryz.ntmps232;go_wp2
    first|(go_region_with (first|(go_at_call 66;refine(G _).mono ?_;rintro e f ⟨rfl,c⟩;obtain⟨x,A⟩:=Q0F c;have j:w.heap.size < f.heap.size:=(by have b:=c.size;(try simp at b);omega);have k:w.heap.size+1 < f.heap.size:=(by have b:=c.size;(try simp at b);omega);have l:w.heap.size+1+1 < f.heap.size:=(by have b:=c.size;(try simp at b);omega);have i:Below w.heap.size w f:=(by refine Below.trans ?_ (c.mono (by have hs:=i.size;(try simp) <;> omega));(repeat (first|with_reducible (first|exact i|exact KBq|refine KHq ?_|refine below_drewN ?_ _|refine KOq ?_ ?_ _|refine KNq ?_ ?_ _)|(focus (simp;first|done|omega))|omega))))|(go_at_call 249;refine(H _).mono ?_;rintro e g ⟨rfl,d⟩;obtain⟨y,B⟩:=Q0F d;have n:w.heap.size < g.heap.size:=(by have b:=d.size;(try simp at b);omega);have q:w.heap.size+1 < g.heap.size:=(by have b:=d.size;(try simp at b);omega);have r:w.heap.size+1+1 < g.heap.size:=(by have b:=d.size;(try simp at b);omega);have i:Below w.heap.size w g:=(by refine Below.trans ?_ (d.mono (by have hs:=i.size;(try simp) <;> omega));(repeat (first|with_reducible (first|exact i|exact KBq|refine KHq ?_|refine below_drewN ?_ _|refine KOq ?_ ?_ _|refine KNq ?_ ?_ _)|(focus (simp;first|done|omega))|omega))))))|fail
    all_goals go_wp2
    all_goals refine bodyPost_ret (v:=.tuple #[slot ⟨true,a,p,v,t⟩,.bool true]) (by simp[results,Tryz.results232,go_sem,x,j,k,l,y,n,q,r]) rfl ⟨⟨true,a,p,v,t⟩,by rw[m.out];rfl,fun _=>rfl, ?_⟩
    all_goals ((repeat (first|with_reducible (first|exact i|exact KBq|refine KHq ?_|refine below_drewN ?_ _|refine KOq ?_ ?_ _|refine KNq ?_ ?_ _)|(focus (simp;first|done|omega))|omega)))
end Go.Proofs.YteffhdcankkfkaaGreat
