/- Several texts in one: Bits, SHash. -/
import Derived.Laws.BitsAllLaws
import Derived.Test.YtpneolgdghbinaaGreatQSends01
namespace Go.Proofs.YtpneolgdghbinaaGreat
open Go.ChangeShapes Go.WideShapes Go.ChangeAt Go.RowKit Go.Joins
set_option linter.unusedVariables false
set_option linter.unusedSimpArgs false
set_option maxRecDepth 100000
set_option maxHeartbeats 40000000
theorem wrap_i64 (n:Int) (h0:0≤n) (h1:n < 9223372036854775808):IntKind.i64.wrap n=n:=by
 simp [IntKind.wrap,IntKind.bits,IntKind.signed];omega
def Q2S (x:Int):Int:=(x % 2147483647 * 48271+11) % 2147483647
theorem Q4X (x:Int):0≤Q2S x∧Q2S x < 2147483647:=by unfold Q2S;omega
def Q1R (k x:Int):Int:=Q2S (Q2S (Q2S (k+1)+x)+k)
theorem Q3w (k x:Int):0≤Q1R k x∧Q1R k x < 2147483647:=Q4X _
def Q1C (k:Int):Bool:=decide (0≤k) && decide (k < 1000000)
theorem Q2W {k:Int}:Q1C k=true↔0≤k∧k < 1000000:=by simp [Q1C]
theorem QgI (k:Int):Q1C k=(decide (0≤k) && decide (k≤999999)):=by rw [Bool.eq_iff_iff];simp [Q1C];omega
def Q2M (k x:Int):Int:=if 0≤k∧k < 1000000∧0≤x∧x < 2147483647 then Q1R k x else -1
theorem Q6y (x:Int) (w:World) (h0:0≤x) (h1:x < 1000000000000):
  Calls Tryz.prog 149 #[.int .i64 x] w fun e w'=> e=.returned (.int .i64 (Q2S x))∧w=w':=by
 have hm:0≤x % 2147483647∧x % 2147483647 < 2147483647:=by omega
 go_enter Tryz.func149,Tryz.ntmps149
 go_wp2
 go_ret
 exact ⟨rfl,rfl⟩
theorem Q8g (x:Int) (w:World) (h0:0≤x) (h1:x < 1000000000000):
  Calls Tryz.prog 174 #[.int .i64 x] w fun e w'=> e=.returned (.int .i64 (Q2S x))∧w=w':=by
 have hm:0≤x % 2147483647∧x % 2147483647 < 2147483647:=by omega
 go_enter Tryz.func174,Tryz.ntmps174
 go_wp2
 go_ret
 exact ⟨rfl,rfl⟩
theorem Q5N (k x:Int) (w:World) (h0:0≤k) (h1:k < 1000000) (h2:0≤x) (h3:x < 100000000000):
  Calls Tryz.prog 100 #[.int .i64 k,.int .i64 x] w fun e w'=> e=.returned (.int .i64 (Q1R k x))∧w=w':=by
 have HH:=Q02 (show Q2S (Q2S (Q2S (k+1)+x)+k)=Q1R k x from rfl);have b1:=Q4X (k+1);have b2:=Q4X (Q2S (k+1)+x)
 go_enter Tryz.func100,Tryz.ntmps100
 go_wp2_with fail
 refine (Q6y (k+1) _ (by omega) (by omega)).mono ?_
 rintro e w1 ⟨rfl,rfl⟩
 go_wp2_with fail
 refine (Q6y (Q2S (k+1)+x) _ (by omega) (by omega)).mono ?_
 rintro e w1 ⟨rfl,rfl⟩
 go_wp2_with fail
 refine (Q6y (Q2S (Q2S (k+1)+x)+k) _ (by omega) (by omega)).mono ?_
 rintro e w1 ⟨rfl,rfl⟩
 go_wp2
 go_ret
 exact ⟨Q0J HH.out,rfl⟩
theorem Q7e (k x:Int) (w:World) (h0:0≤k) (h1:k < 1000000) (h2:0≤x) (h3:x < 100000000000):
  Calls Tryz.prog 141 #[.int .i64 k,.int .i64 x] w fun e w'=> e=.returned (.int .i64 (Q1R k x))∧w=w':=by
 have HH:=Q02 (show Q2S (Q2S (Q2S (k+1)+x)+k)=Q1R k x from rfl);have b1:=Q4X (k+1);have b2:=Q4X (Q2S (k+1)+x)
 go_enter Tryz.func141,Tryz.ntmps141
 go_wp2_with fail
 refine (Q8g (k+1) _ (by omega) (by omega)).mono ?_
 rintro e w1 ⟨rfl,rfl⟩
 go_wp2_with fail
 refine (Q8g (Q2S (k+1)+x) _ (by omega) (by omega)).mono ?_
 rintro e w1 ⟨rfl,rfl⟩
 go_wp2_with fail
 refine (Q8g (Q2S (Q2S (k+1)+x)+k) _ (by omega) (by omega)).mono ?_
 rintro e w1 ⟨rfl,rfl⟩
 go_wp2
 go_ret
 exact ⟨Q0J HH.out,rfl⟩
theorem Q6T (k:Int) (w:World):Calls Tryz.prog 48 #[.int .i64 k] w fun e w'=> e=.returned (.bool (Q1C k))∧w=w':=by
 go_enter Tryz.func48,Tryz.ntmps48
 go_wp2
 all_goals go_ret
 all_goals refine ⟨?_,rfl⟩
 all_goals first|(simp [Q1C, *];done)|(simp [Q1C];omega)
theorem Q0S (k:Int) (w:World):Calls Tryz.prog 115 #[.int .i64 k] w fun e w'=> e=.returned (.bool (Q1C k))∧w=w':=by
 rw [QgI]
 go_enter Tryz.func115,Tryz.ntmps115
 go_wp2
 all_goals go_ret
 all_goals refine ⟨?_,rfl⟩
 all_goals first|(simp [*];done)|(simp;omega)
theorem Q4r (k x:Int) (w:World):
  Calls Tryz.prog 140 #[.int .i64 k,.int .i64 x] w fun e w'=> e=.returned (.int .i64 (Q2M k x))∧w=w':=by
 by_cases hk:Q1C k=true
 ·obtain ⟨h1,h2⟩:=Q2W.1 hk
  by_cases hx:0≤x∧x < 2147483647
  ·obtain ⟨h3,h4⟩:=hx
   have HE:=Q02 (show Q1R k x=Q2M k x by rw [Q2M,if_pos ⟨h1,h2,h3,h4⟩])
   go_enter Tryz.func140,Tryz.ntmps140
   go_wp2_with (first|(go_at_call 115;refine (Q0S k _).mono ?_;rw [hk];rintro e w1 ⟨rfl,rfl⟩)|(go_at_call 141;refine (Q7e k x _ h1 h2 h3 (by omega)).mono ?_;rintro e w1 ⟨rfl,rfl⟩))
   go_ret
   exact ⟨Q0J HE.out,rfl⟩
  ·have HE:=Q02 (show -1=Q2M k x by rw [Q2M,if_neg (fun q=> hx q.2.2)])
   by_cases h3:0≤x
   ·have h4:¬x < 2147483647:=fun q=> hx ⟨h3,q⟩
    go_enter Tryz.func140,Tryz.ntmps140
    go_wp2_with (go_at_call 115;refine (Q0S k _).mono ?_;rw [hk];rintro e w1 ⟨rfl,rfl⟩)
    go_ret
    exact ⟨Q0J HE.out,rfl⟩
   ·go_enter Tryz.func140,Tryz.ntmps140
    go_wp2_with (go_at_call 115;refine (Q0S k _).mono ?_;rw [hk];rintro e w1 ⟨rfl,rfl⟩)
    go_ret
    exact ⟨Q0J HE.out,rfl⟩
 ·have HE:=Q02 (show -1=Q2M k x by rw [Q2M,if_neg (fun q=> hk (Q2W.2 ⟨q.1,q.2.1⟩))])
  have hk':Q1C k=false:=by simpa using hk
  go_enter Tryz.func140,Tryz.ntmps140
  go_wp2_with (go_at_call 115;refine (Q0S k _).mono ?_;rw [hk'];rintro e w1 ⟨rfl,rfl⟩)
  go_ret
  exact ⟨Q0J HE.out,rfl⟩
end Go.Proofs.YtpneolgdghbinaaGreat
