/- Several texts in one: Bits, SHash. -/
import Derived.Laws.BitsAllLaws
import Derived.Test.YtgplppfbinfelaaGreatQLoadOf01
namespace Go.Proofs.YtgplppfbinfelaaGreat
open Go.ChangeShapes Go.WideShapes Go.ChangeAt Go.RowKit Go.Joins
set_option linter.unusedVariables false
set_option linter.unusedSimpArgs false
set_option maxRecDepth 100000
set_option maxHeartbeats 40000000
theorem wrap_i64 (n:Int) (h0:0≤n) (h1:n < 9223372036854775808):IntKind.i64.wrap n=n:=by
 simp [IntKind.wrap,IntKind.bits,IntKind.signed];omega
def Q28 (x:Int):Int:=(x % 2147483647 * 48271+11) % 2147483647
theorem Q4c (x:Int):0≤Q28 x∧Q28 x < 2147483647:=by unfold Q28;omega
def Q30 (k x:Int):Int:=Q28 (Q28 (Q28 (k+1)+x)+k)
theorem Q82 (k x:Int):0≤Q30 k x∧Q30 k x < 2147483647:=Q4c _
def Q2u (k:Int):Bool:=decide (0≤k) && decide (k < 1000000)
theorem Q5t {k:Int}:Q2u k=true↔0≤k∧k < 1000000:=by simp [Q2u]
theorem QfO (k:Int):Q2u k=(decide (0≤k) && decide (k≤999999)):=by rw [Bool.eq_iff_iff];simp [Q2u];omega
def Q2G (k x:Int):Int:=if 0≤k∧k < 1000000∧0≤x∧x < 2147483647 then Q30 k x else -1
theorem Q5I (x:Int) (w:World) (h0:0≤x) (h1:x < 1000000000000):
  Calls Tryz.prog 264 #[.int .i64 x] w fun e w'=> e=.returned (.int .i64 (Q28 x))∧w=w':=by
 have hm:0≤x % 2147483647∧x % 2147483647 < 2147483647:=by omega
 go_enter Tryz.func264,Tryz.ntmps264
 go_wp2
 go_ret
 exact ⟨rfl,rfl⟩
theorem Q8t (x:Int) (w:World) (h0:0≤x) (h1:x < 1000000000000):
  Calls Tryz.prog 275 #[.int .i64 x] w fun e w'=> e=.returned (.int .i64 (Q28 x))∧w=w':=by
 have hm:0≤x % 2147483647∧x % 2147483647 < 2147483647:=by omega
 go_enter Tryz.func275,Tryz.ntmps275
 go_wp2
 go_ret
 exact ⟨rfl,rfl⟩
theorem QbS (k x:Int) (w:World) (h0:0≤k) (h1:k < 1000000) (h2:0≤x) (h3:x < 100000000000):
  Calls Tryz.prog 254 #[.int .i64 k,.int .i64 x] w fun e w'=> e=.returned (.int .i64 (Q30 k x))∧w=w':=by
 have HH:=Q00 (show Q28 (Q28 (Q28 (k+1)+x)+k)=Q30 k x from rfl)
 have b1:=Q4c (k+1)
 have b2:=Q4c (Q28 (k+1)+x)
 go_enter Tryz.func254,Tryz.ntmps254
 go_wp2_with fail
 refine (Q5I (k+1) _ (by omega) (by omega)).mono ?_
 rintro e w1 ⟨rfl,rfl⟩
 go_wp2_with fail
 refine (Q5I (Q28 (k+1)+x) _ (by omega) (by omega)).mono ?_
 rintro e w1 ⟨rfl,rfl⟩
 go_wp2_with fail
 refine (Q5I (Q28 (Q28 (k+1)+x)+k) _ (by omega) (by omega)).mono ?_
 rintro e w1 ⟨rfl,rfl⟩
 go_wp2
 go_ret
 exact ⟨Q17 HH.out,rfl⟩
theorem Qau (k x:Int) (w:World) (h0:0≤k) (h1:k < 1000000) (h2:0≤x) (h3:x < 100000000000):
  Calls Tryz.prog 274 #[.int .i64 k,.int .i64 x] w fun e w'=> e=.returned (.int .i64 (Q30 k x))∧w=w':=by
 have HH:=Q00 (show Q28 (Q28 (Q28 (k+1)+x)+k)=Q30 k x from rfl)
 have b1:=Q4c (k+1)
 have b2:=Q4c (Q28 (k+1)+x)
 go_enter Tryz.func274,Tryz.ntmps274
 go_wp2_with fail
 refine (Q8t (k+1) _ (by omega) (by omega)).mono ?_
 rintro e w1 ⟨rfl,rfl⟩
 go_wp2_with fail
 refine (Q8t (Q28 (k+1)+x) _ (by omega) (by omega)).mono ?_
 rintro e w1 ⟨rfl,rfl⟩
 go_wp2_with fail
 refine (Q8t (Q28 (Q28 (k+1)+x)+k) _ (by omega) (by omega)).mono ?_
 rintro e w1 ⟨rfl,rfl⟩
 go_wp2
 go_ret
 exact ⟨Q17 HH.out,rfl⟩
theorem Q8U (k:Int) (w:World):Calls Tryz.prog 54 #[.int .i64 k] w fun e w'=> e=.returned (.bool (Q2u k))∧w=w':=by
 go_enter Tryz.func54,Tryz.ntmps54
 go_wp2
 all_goals go_ret
 all_goals refine ⟨?_,rfl⟩
 all_goals first|(simp [Q2u, *];done)|(simp [Q2u];omega)
theorem Q14 (k:Int) (w:World):Calls Tryz.prog 173 #[.int .i64 k] w fun e w'=> e=.returned (.bool (Q2u k))∧w=w':=by
 rw [QfO]
 go_enter Tryz.func173,Tryz.ntmps173
 go_wp2
 all_goals go_ret
 all_goals refine ⟨?_,rfl⟩
 all_goals first|(simp [*];done)|(simp;omega)
theorem Q6J (k x:Int) (w:World):
  Calls Tryz.prog 273 #[.int .i64 k,.int .i64 x] w fun e w'=> e=.returned (.int .i64 (Q2G k x))∧w=w':=by
 by_cases hk:Q2u k=true
 ·obtain ⟨h1,h2⟩:=Q5t.1 hk
  by_cases hx:0≤x∧x < 2147483647
  ·obtain ⟨h3,h4⟩:=hx
   have HE:=Q00 (show Q30 k x=Q2G k x by rw [Q2G,if_pos ⟨h1,h2,h3,h4⟩])
   go_enter Tryz.func273,Tryz.ntmps273
   go_wp2_with (first|(go_at_call 173;refine (Q14 k _).mono ?_;rw [hk];rintro e w1 ⟨rfl,rfl⟩)|(go_at_call 274;refine (Qau k x _ h1 h2 h3 (by omega)).mono ?_;rintro e w1 ⟨rfl,rfl⟩))
   go_ret
   exact ⟨Q17 HE.out,rfl⟩
  ·have HE:=Q00 (show -1=Q2G k x by rw [Q2G,if_neg (fun q=> hx q.2.2)])
   by_cases h3:0≤x
   ·have h4:¬x < 2147483647:=fun q=> hx ⟨h3,q⟩
    go_enter Tryz.func273,Tryz.ntmps273
    go_wp2_with (go_at_call 173;refine (Q14 k _).mono ?_;rw [hk];rintro e w1 ⟨rfl,rfl⟩)
    go_ret
    exact ⟨Q17 HE.out,rfl⟩
   ·go_enter Tryz.func273,Tryz.ntmps273
    go_wp2_with (go_at_call 173;refine (Q14 k _).mono ?_;rw [hk];rintro e w1 ⟨rfl,rfl⟩)
    go_ret
    exact ⟨Q17 HE.out,rfl⟩
 ·have HE:=Q00 (show -1=Q2G k x by rw [Q2G,if_neg (fun q=> hk (Q5t.2 ⟨q.1,q.2.1⟩))])
  have hk':Q2u k=false:=by simpa using hk
  go_enter Tryz.func273,Tryz.ntmps273
  go_wp2_with (go_at_call 173;refine (Q14 k _).mono ?_;rw [hk'];rintro e w1 ⟨rfl,rfl⟩)
  go_ret
  exact ⟨Q17 HE.out,rfl⟩
end Go.Proofs.YtgplppfbinfelaaGreat
