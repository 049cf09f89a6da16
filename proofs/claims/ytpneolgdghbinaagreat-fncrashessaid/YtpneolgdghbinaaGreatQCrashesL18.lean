/- Several texts in one: Bits, SHash. -/
import Derived.Laws.BitsAllLaws
import Derived.Test.YtpneolgdghbinaaGreatQCrashesL01
namespace Go.Proofs.YtpneolgdghbinaaGreat
open Go.ChangeShapes Go.WideShapes Go.ChangeAt Go.RowKit Go.Joins
set_option linter.unusedVariables false
set_option linter.unusedSimpArgs false
set_option maxRecDepth 100000
set_option maxHeartbeats 40000000
theorem wrap_i64 (n:Int) (h0:0<=n) (h1:n < 9223372036854775808):IntKind.i64.wrap n=n:=by
 simp[IntKind.wrap,IntKind.bits,IntKind.signed];omega
def Q31 (x:Int):Int:=(x % 2147483647 * 48271+11) % 2147483647
theorem Q5t (x:Int):0<=Q31 x/\Q31 x < 2147483647:=by unfold Q31;omega
def Q2p (k x:Int):Int:=Q31 (Q31 (Q31 (k+1)+x)+k)
theorem Q5M (k x:Int):0<=Q2p k x/\Q2p k x < 2147483647:=Q5t _
def Q1D (k:Int):Bool:=decide (0<=k) && decide (k < 1000000)
theorem Q4F {k:Int}:Q1D k=true↔0<=k/\k < 1000000:=by simp[Q1D]
theorem QhS (k:Int):Q1D k=(decide (0<=k) && decide (k<=999999)):=by rw[Bool.eq_iff_iff];simp[Q1D];omega
def Q2H (k x:Int):Int:=if 0<=k/\k < 1000000/\0<=x/\x < 2147483647 then Q2p k x else -1
theorem Q7K (x:Int) (w:World) (b:0<=x) (c:x < 1000000000000):
  Calls Tryz.prog 149 #[.int .i64 x] w fun e a=>e=.returned (.int .i64 (Q31 x))/\w=a:=by
 have hm:0<=x % 2147483647/\x % 2147483647 < 2147483647:=by omega
 go_enter Tryz.func149,Tryz.ntmps149;go_wp2;go_ret;exact⟨rfl,rfl⟩
theorem Q9l (x:Int) (w:World) (b:0<=x) (c:x < 1000000000000):
  Calls Tryz.prog 174 #[.int .i64 x] w fun e a=>e=.returned (.int .i64 (Q31 x))/\w=a:=by
 have hm:0<=x % 2147483647/\x % 2147483647 < 2147483647:=by omega
 go_enter Tryz.func174,Tryz.ntmps174;go_wp2;go_ret;exact⟨rfl,rfl⟩
theorem Qdg (k x:Int) (w:World) (g:0<=k) (h:k < 1000000) (h2:0<=x) (i:x < 100000000000):
  Calls Tryz.prog 100 #[.int .i64 k,.int .i64 x] w fun e c=>e=.returned (.int .i64 (Q2p k x))/\w=c:=by
 have b:=Q02 (show Q31 (Q31 (Q31 (k+1)+x)+k)=Q2p k x from rfl);have d:=Q5t (k+1);have f:=Q5t (Q31 (k+1)+x);go_enter Tryz.func100,Tryz.ntmps100;go_wp2_with fail;refine(Q7K (k+1) _ (by omega) (by omega)).mono ?_;rintro e a ⟨rfl,rfl⟩;go_wp2_with fail;refine(Q7K (Q31 (k+1)+x) _ (by omega) (by omega)).mono ?_;rintro e a ⟨rfl,rfl⟩;go_wp2_with fail;refine(Q7K (Q31 (Q31 (k+1)+x)+k) _ (by omega) (by omega)).mono ?_;rintro e a ⟨rfl,rfl⟩;go_wp2;go_ret;exact⟨Q0W b.out,rfl⟩
theorem Q7L (k x:Int) (w:World) (g:0<=k) (h:k < 1000000) (h2:0<=x) (i:x < 100000000000):
  Calls Tryz.prog 141 #[.int .i64 k,.int .i64 x] w fun e c=>e=.returned (.int .i64 (Q2p k x))/\w=c:=by
 have b:=Q02 (show Q31 (Q31 (Q31 (k+1)+x)+k)=Q2p k x from rfl);have d:=Q5t (k+1);have f:=Q5t (Q31 (k+1)+x);go_enter Tryz.func141,Tryz.ntmps141;go_wp2_with fail;refine(Q9l (k+1) _ (by omega) (by omega)).mono ?_;rintro e a ⟨rfl,rfl⟩;go_wp2_with fail;refine(Q9l (Q31 (k+1)+x) _ (by omega) (by omega)).mono ?_;rintro e a ⟨rfl,rfl⟩;go_wp2_with fail;refine(Q9l (Q31 (Q31 (k+1)+x)+k) _ (by omega) (by omega)).mono ?_;rintro e a ⟨rfl,rfl⟩;go_wp2;go_ret;exact⟨Q0W b.out,rfl⟩
theorem Qag (k:Int) (w:World):Calls Tryz.prog 48 #[.int .i64 k] w fun e a=>e=.returned (.bool (Q1D k))/\w=a:=by
 go_enter Tryz.func48,Tryz.ntmps48;go_wp2
 all_goals go_ret
 all_goals refine⟨?_,rfl⟩
 all_goals first|(simp[Q1D, *];done)|(simp[Q1D];omega)
theorem Q0T (k:Int) (w:World):Calls Tryz.prog 115 #[.int .i64 k] w fun e a=>e=.returned (.bool (Q1D k))/\w=a:=by
 rw[QhS];go_enter Tryz.func115,Tryz.ntmps115;go_wp2
 all_goals go_ret
 all_goals refine⟨?_,rfl⟩
 all_goals first|(simp[*];done)|(simp;omega)
theorem Q4Z (k x:Int) (w:World):
  Calls Tryz.prog 140 #[.int .i64 k,.int .i64 x] w fun e h=>e=.returned (.int .i64 (Q2H k x))/\w=h:=by
 by_cases hk:Q1D k=true
 ·obtain⟨f,h2⟩:=Q4F.1 hk
  by_cases hx:0<=x/\x < 2147483647
  ·obtain⟨b,g⟩:=hx
   have a:=Q02 (show Q2p k x=Q2H k x by rw[Q2H,if_pos ⟨f,h2,b,g⟩]);go_enter Tryz.func140,Tryz.ntmps140;go_wp2_with (first|(go_at_call 115;refine(Q0T k _).mono ?_;rw[hk];rintro e c ⟨rfl,rfl⟩)|(go_at_call 141;refine(Q7L k x _ f h2 b (by omega)).mono ?_;rintro e c ⟨rfl,rfl⟩));go_ret;exact⟨Q0W a.out,rfl⟩
  ·have a:=Q02 (show -1=Q2H k x by rw[Q2H,if_neg (fun q=>hx q.2.2)])
   by_cases b:0<=x
   ·have g:¬x < 2147483647:=fun q=>hx ⟨b,q⟩
    go_enter Tryz.func140,Tryz.ntmps140;go_wp2_with (go_at_call 115;refine(Q0T k _).mono ?_;rw[hk];rintro e c ⟨rfl,rfl⟩);go_ret;exact⟨Q0W a.out,rfl⟩
   ·go_enter Tryz.func140,Tryz.ntmps140
    go_wp2_with (go_at_call 115;refine(Q0T k _).mono ?_;rw[hk];rintro e c ⟨rfl,rfl⟩);go_ret;exact⟨Q0W a.out,rfl⟩
 ·have a:=Q02 (show -1=Q2H k x by rw[Q2H,if_neg (fun q=>hk (Q4F.2 ⟨q.1,q.2.1⟩))])
  have d:Q1D k=false:=by simpa using hk
  go_enter Tryz.func140,Tryz.ntmps140;go_wp2_with (go_at_call 115;refine(Q0T k _).mono ?_;rw[d];rintro e c ⟨rfl,rfl⟩);go_ret;exact⟨Q0W a.out,rfl⟩
end Go.Proofs.YtpneolgdghbinaaGreat
