/- Several texts in one: Bits, SHash. -/
import Derived.Laws.BitsAllLaws
import Derived.Test.YtpneolgdghbinaaGreatQRoutesL01
namespace Go.Proofs.YtpneolgdghbinaaGreat
open Go.ChangeShapes Go.WideShapes Go.ChangeAt Go.RowKit Go.Joins
set_option linter.unusedVariables false
set_option linter.unusedSimpArgs false
set_option maxRecDepth 100000
set_option maxHeartbeats 40000000
theorem wrap_i64 (n:Int) (h0:0≤n) (h1:n < 9223372036854775808):IntKind.i64.wrap n=n:=by
 simp [IntKind.wrap,IntKind.bits,IntKind.signed];omega
def Q3d (x:Int):Int:=(x % 2147483647 * 48271+11) % 2147483647
theorem Q5x (x:Int):0≤Q3d x∧Q3d x < 2147483647:=by unfold Q3d;omega
def Q1U (k x:Int):Int:=Q3d (Q3d (Q3d (k+1)+x)+k)
theorem Q48 (k x:Int):0≤Q1U k x∧Q1U k x < 2147483647:=Q5x _
def Q1u (k:Int):Bool:=decide (0≤k) && decide (k < 1000000)
theorem Q3m {k:Int}:Q1u k=true↔0≤k∧k < 1000000:=by simp [Q1u]
theorem Qhe (k:Int):Q1u k=(decide (0≤k) && decide (k≤999999)):=by rw [Bool.eq_iff_iff];simp [Q1u];omega
def Q2T (k x:Int):Int:=if 0≤k∧k < 1000000∧0≤x∧x < 2147483647 then Q1U k x else -1
theorem Q7E (x:Int) (w:World) (b:0≤x) (c:x < 1000000000000):
  Calls Tryz.prog 149 #[.int .i64 x] w fun e a=> e=.returned (.int .i64 (Q3d x))∧w=a:=by
 have hm:0≤x % 2147483647∧x % 2147483647 < 2147483647:=by omega
 go_enter Tryz.func149,Tryz.ntmps149;go_wp2;go_ret;exact ⟨rfl,rfl⟩
theorem Q97 (x:Int) (w:World) (b:0≤x) (c:x < 1000000000000):
  Calls Tryz.prog 174 #[.int .i64 x] w fun e a=> e=.returned (.int .i64 (Q3d x))∧w=a:=by
 have hm:0≤x % 2147483647∧x % 2147483647 < 2147483647:=by omega
 go_enter Tryz.func174,Tryz.ntmps174;go_wp2;go_ret;exact ⟨rfl,rfl⟩
theorem Q6p (k x:Int) (w:World) (g:0≤k) (h:k < 1000000) (h2:0≤x) (i:x < 100000000000):
  Calls Tryz.prog 100 #[.int .i64 k,.int .i64 x] w fun e c=> e=.returned (.int .i64 (Q1U k x))∧w=c:=by
 have b:=Q00 (show Q3d (Q3d (Q3d (k+1)+x)+k)=Q1U k x from rfl);have d:=Q5x (k+1);have f:=Q5x (Q3d (k+1)+x);go_enter Tryz.func100,Tryz.ntmps100;go_wp2_with fail;refine (Q7E (k+1) _ (by omega) (by omega)).mono ?_;rintro e a ⟨rfl,rfl⟩;go_wp2_with fail;refine (Q7E (Q3d (k+1)+x) _ (by omega) (by omega)).mono ?_;rintro e a ⟨rfl,rfl⟩;go_wp2_with fail;refine (Q7E (Q3d (Q3d (k+1)+x)+k) _ (by omega) (by omega)).mono ?_;rintro e a ⟨rfl,rfl⟩;go_wp2;go_ret;exact ⟨Q0R b.out,rfl⟩
theorem Q83 (k x:Int) (w:World) (g:0≤k) (h:k < 1000000) (h2:0≤x) (i:x < 100000000000):
  Calls Tryz.prog 141 #[.int .i64 k,.int .i64 x] w fun e c=> e=.returned (.int .i64 (Q1U k x))∧w=c:=by
 have b:=Q00 (show Q3d (Q3d (Q3d (k+1)+x)+k)=Q1U k x from rfl);have d:=Q5x (k+1);have f:=Q5x (Q3d (k+1)+x);go_enter Tryz.func141,Tryz.ntmps141;go_wp2_with fail;refine (Q97 (k+1) _ (by omega) (by omega)).mono ?_;rintro e a ⟨rfl,rfl⟩;go_wp2_with fail;refine (Q97 (Q3d (k+1)+x) _ (by omega) (by omega)).mono ?_;rintro e a ⟨rfl,rfl⟩;go_wp2_with fail;refine (Q97 (Q3d (Q3d (k+1)+x)+k) _ (by omega) (by omega)).mono ?_;rintro e a ⟨rfl,rfl⟩;go_wp2;go_ret;exact ⟨Q0R b.out,rfl⟩
theorem Q2a (k:Int) (w:World):Calls Tryz.prog 48 #[.int .i64 k] w fun e a=> e=.returned (.bool (Q1u k))∧w=a:=by
 go_enter Tryz.func48,Tryz.ntmps48;go_wp2
 all_goals go_ret
 all_goals refine ⟨?_,rfl⟩
 all_goals first|(simp [Q1u, *];done)|(simp [Q1u];omega)
theorem Q0Z (k:Int) (w:World):Calls Tryz.prog 115 #[.int .i64 k] w fun e a=> e=.returned (.bool (Q1u k))∧w=a:=by
 rw [Qhe];go_enter Tryz.func115,Tryz.ntmps115;go_wp2
 all_goals go_ret
 all_goals refine ⟨?_,rfl⟩
 all_goals first|(simp [*];done)|(simp;omega)
theorem Q55 (k x:Int) (w:World):
  Calls Tryz.prog 140 #[.int .i64 k,.int .i64 x] w fun e h=> e=.returned (.int .i64 (Q2T k x))∧w=h:=by
 by_cases hk:Q1u k=true
 ·obtain ⟨f,h2⟩:=Q3m.1 hk
  by_cases hx:0≤x∧x < 2147483647
  ·obtain ⟨b,g⟩:=hx
   have a:=Q00 (show Q1U k x=Q2T k x by rw [Q2T,if_pos ⟨f,h2,b,g⟩]);go_enter Tryz.func140,Tryz.ntmps140;go_wp2_with (first|(go_at_call 115;refine (Q0Z k _).mono ?_;rw [hk];rintro e c ⟨rfl,rfl⟩)|(go_at_call 141;refine (Q83 k x _ f h2 b (by omega)).mono ?_;rintro e c ⟨rfl,rfl⟩));go_ret;exact ⟨Q0R a.out,rfl⟩
  ·have a:=Q00 (show -1=Q2T k x by rw [Q2T,if_neg (fun q=> hx q.2.2)])
   by_cases b:0≤x
   ·have g:¬x < 2147483647:=fun q=> hx ⟨b,q⟩
    go_enter Tryz.func140,Tryz.ntmps140;go_wp2_with (go_at_call 115;refine (Q0Z k _).mono ?_;rw [hk];rintro e c ⟨rfl,rfl⟩);go_ret;exact ⟨Q0R a.out,rfl⟩
   ·go_enter Tryz.func140,Tryz.ntmps140
    go_wp2_with (go_at_call 115;refine (Q0Z k _).mono ?_;rw [hk];rintro e c ⟨rfl,rfl⟩);go_ret;exact ⟨Q0R a.out,rfl⟩
 ·have a:=Q00 (show -1=Q2T k x by rw [Q2T,if_neg (fun q=> hk (Q3m.2 ⟨q.1,q.2.1⟩))])
  have d:Q1u k=false:=by simpa using hk
  go_enter Tryz.func140,Tryz.ntmps140;go_wp2_with (go_at_call 115;refine (Q0Z k _).mono ?_;rw [d];rintro e c ⟨rfl,rfl⟩);go_ret;exact ⟨Q0R a.out,rfl⟩
end Go.Proofs.YtpneolgdghbinaaGreat
