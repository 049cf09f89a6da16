/- Several texts in one: Bits, SHash. -/
import Derived.Laws.BitsAllLaws
import Derived.Test.YteffhdcankkfkaaGreatQListed01
namespace Go.Proofs.YteffhdcankkfkaaGreat
open Go.ChangeShapes Go.WideShapes Go.ChangeAt Go.RowKit Go.Joins
set_option linter.unusedVariables false
set_option linter.unusedSimpArgs false
set_option maxRecDepth 100000
set_option maxHeartbeats 40000000
theorem wrap_i64 (n:Int) (h0:0<=n) (h1:n < 9223372036854775808):IntKind.i64.wrap n=n:=by
 simp[IntKind.wrap,IntKind.bits,IntKind.signed];omega
def Q2u (x:Int):Int:=(x % 2147483647 * 48271+11) % 2147483647
theorem Q4A (x:Int):0<=Q2u x/\Q2u x < 2147483647:=by unfold Q2u;omega
def Q1w (k x:Int):Int:=Q2u (Q2u (Q2u (k+1)+x)+k)
theorem Q36 (k x:Int):0<=Q1w k x/\Q1w k x < 2147483647:=Q4A _
def Q1S (k:Int):Bool:=decide (0<=k) && decide (k < 1000000)
theorem Q3M {k:Int}:Q1S k=true↔0<=k/\k < 1000000:=by simp[Q1S]
theorem Qhy (k:Int):Q1S k=(decide (0<=k) && decide (k<=999999)):=by rw[Bool.eq_iff_iff];simp[Q1S];omega
def Q2n (k x:Int):Int:=if 0<=k/\k < 1000000/\0<=x/\x < 2147483647 then Q1w k x else -1
theorem Q6B (x:Int) (w:World) (b:0<=x) (c:x < 1000000000000):
  Calls Tryz.prog 209 #[.int .i64 x] w fun e a=>e=.returned (.int .i64 (Q2u x))/\w=a:=by
 have d:0<=x % 2147483647/\x % 2147483647 < 2147483647:=by omega
 go_enter Tryz.func209,Tryz.ntmps209;go_wp2;go_ret;exact⟨rfl,rfl⟩
theorem Q8R (x:Int) (w:World) (b:0<=x) (c:x < 1000000000000):
  Calls Tryz.prog 238 #[.int .i64 x] w fun e a=>e=.returned (.int .i64 (Q2u x))/\w=a:=by
 have d:0<=x % 2147483647/\x % 2147483647 < 2147483647:=by omega
 go_enter Tryz.func238,Tryz.ntmps238;go_wp2;go_ret;exact⟨rfl,rfl⟩
theorem Q53 (k x:Int) (w:World) (g:0<=k) (h:k < 1000000) (h2:0<=x) (i:x < 100000000000):
  Calls Tryz.prog 167 #[.int .i64 k,.int .i64 x] w fun e c=>e=.returned (.int .i64 (Q1w k x))/\w=c:=by
 have b:=Q00 (show Q2u (Q2u (Q2u (k+1)+x)+k)=Q1w k x from rfl);have d:=Q4A (k+1);have f:=Q4A (Q2u (k+1)+x);go_enter Tryz.func167,Tryz.ntmps167;go_wp2_with fail;refine(Q6B (k+1) _ (by omega) (by omega)).mono ?_;rintro e a ⟨rfl,rfl⟩;go_wp2_with fail;refine(Q6B (Q2u (k+1)+x) _ (by omega) (by omega)).mono ?_;rintro e a ⟨rfl,rfl⟩;go_wp2_with fail;refine(Q6B (Q2u (Q2u (k+1)+x)+k) _ (by omega) (by omega)).mono ?_;rintro e a ⟨rfl,rfl⟩;go_wp2;go_ret;exact⟨Q0O b.out,rfl⟩
theorem Q6I (k x:Int) (w:World) (g:0<=k) (h:k < 1000000) (h2:0<=x) (i:x < 100000000000):
  Calls Tryz.prog 213 #[.int .i64 k,.int .i64 x] w fun e c=>e=.returned (.int .i64 (Q1w k x))/\w=c:=by
 have b:=Q00 (show Q2u (Q2u (Q2u (k+1)+x)+k)=Q1w k x from rfl);have d:=Q4A (k+1);have f:=Q4A (Q2u (k+1)+x);go_enter Tryz.func213,Tryz.ntmps213;go_wp2_with fail;refine(Q8R (k+1) _ (by omega) (by omega)).mono ?_;rintro e a ⟨rfl,rfl⟩;go_wp2_with fail;refine(Q8R (Q2u (k+1)+x) _ (by omega) (by omega)).mono ?_;rintro e a ⟨rfl,rfl⟩;go_wp2_with fail;refine(Q8R (Q2u (Q2u (k+1)+x)+k) _ (by omega) (by omega)).mono ?_;rintro e a ⟨rfl,rfl⟩;go_wp2;go_ret;exact⟨Q0O b.out,rfl⟩
theorem Qar (k:Int) (w:World):Calls Tryz.prog 28 #[.int .i64 k] w fun e a=>e=.returned (.bool (Q1S k))/\w=a:=by
 go_enter Tryz.func28,Tryz.ntmps28;go_wp2
 all_goals go_ret
 all_goals refine⟨?_,rfl⟩
 all_goals first|(simp[Q1S, *];done)|(simp[Q1S];omega)
theorem Q0N (k:Int) (w:World):Calls Tryz.prog 133 #[.int .i64 k] w fun e a=>e=.returned (.bool (Q1S k))/\w=a:=by
 rw[Qhy];go_enter Tryz.func133,Tryz.ntmps133;go_wp2
 all_goals go_ret
 all_goals refine⟨?_,rfl⟩
 all_goals first|(simp[*];done)|(simp;omega)
theorem Q43 (k x:Int) (w:World):
  Calls Tryz.prog 212 #[.int .i64 k,.int .i64 x] w fun e h=>e=.returned (.int .i64 (Q2n k x))/\w=h:=by
 by_cases hk:Q1S k=true
 ·obtain⟨f,h2⟩:=Q3M.1 hk
  by_cases hx:0<=x/\x < 2147483647
  ·obtain⟨b,g⟩:=hx
   have a:=Q00 (show Q1w k x=Q2n k x by rw[Q2n,if_pos ⟨f,h2,b,g⟩]);go_enter Tryz.func212,Tryz.ntmps212;go_wp2_with (first|(go_at_call 133;refine(Q0N k _).mono ?_;rw[hk];rintro e c ⟨rfl,rfl⟩)|(go_at_call 213;refine(Q6I k x _ f h2 b (by omega)).mono ?_;rintro e c ⟨rfl,rfl⟩));go_ret;exact⟨Q0O a.out,rfl⟩
  ·have a:=Q00 (show -1=Q2n k x by rw[Q2n,if_neg (fun q=>hx q.2.2)])
   by_cases b:0<=x
   ·have g:¬x < 2147483647:=fun q=>hx ⟨b,q⟩
    go_enter Tryz.func212,Tryz.ntmps212;go_wp2_with (go_at_call 133;refine(Q0N k _).mono ?_;rw[hk];rintro e c ⟨rfl,rfl⟩);go_ret;exact⟨Q0O a.out,rfl⟩
   ·go_enter Tryz.func212,Tryz.ntmps212
    go_wp2_with (go_at_call 133;refine(Q0N k _).mono ?_;rw[hk];rintro e c ⟨rfl,rfl⟩);go_ret;exact⟨Q0O a.out,rfl⟩
 ·have a:=Q00 (show -1=Q2n k x by rw[Q2n,if_neg (fun q=>hk (Q3M.2 ⟨q.1,q.2.1⟩))])
  have d:Q1S k=false:=by simpa using hk
  go_enter Tryz.func212,Tryz.ntmps212;go_wp2_with (go_at_call 133;refine(Q0N k _).mono ?_;rw[d];rintro e c ⟨rfl,rfl⟩);go_ret;exact⟨Q0O a.out,rfl⟩
end Go.Proofs.YteffhdcankkfkaaGreat
