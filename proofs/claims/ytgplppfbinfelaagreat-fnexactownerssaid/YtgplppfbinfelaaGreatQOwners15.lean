/- Several texts in one: Bits, SHash. -/
import Derived.Laws.BitsAllLaws
import Derived.Test.YtgplppfbinfelaaGreatQOwners01
namespace Go.Proofs.YtgplppfbinfelaaGreat
open Go.ChangeShapes Go.WideShapes Go.ChangeAt Go.RowKit Go.Joins
set_option linter.unusedVariables false
set_option linter.unusedSimpArgs false
set_option maxRecDepth 100000
set_option maxHeartbeats 40000000
theorem wrap_i64 (n:Int) (h0:0≤n) (h1:n < 9223372036854775808):IntKind.i64.wrap n=n:=by
 simp [IntKind.wrap,IntKind.bits,IntKind.signed];omega
def Q28 (x:Int):Int:=(x % 2147483647 * 48271+11) % 2147483647
theorem Q42 (x:Int):0≤Q28 x∧Q28 x < 2147483647:=by unfold Q28;omega
def Q2X (k x:Int):Int:=Q28 (Q28 (Q28 (k+1)+x)+k)
theorem Q8d (k x:Int):0≤Q2X k x∧Q2X k x < 2147483647:=Q42 _
def Q2p (k:Int):Bool:=decide (0≤k) && decide (k < 1000000)
theorem Q5w {k:Int}:Q2p k=true↔0≤k∧k < 1000000:=by simp [Q2p]
theorem Qg0 (k:Int):Q2p k=(decide (0≤k) && decide (k≤999999)):=by rw [Bool.eq_iff_iff];simp [Q2p];omega
def Q2J (k x:Int):Int:=if 0≤k∧k < 1000000∧0≤x∧x < 2147483647 then Q2X k x else -1
theorem Q64 (x:Int) (w:World) (h0:0≤x) (h1:x < 1000000000000):
  Calls Tryz.prog 264 #[.int .i64 x] w fun e w'=> e=.returned (.int .i64 (Q28 x))∧w=w':=by
 have hm:0≤x % 2147483647∧x % 2147483647 < 2147483647:=by omega
 go_enter Tryz.func264,Tryz.ntmps264
 go_wp2
 go_ret
 exact ⟨rfl,rfl⟩
theorem Q7Y (x:Int) (w:World) (h0:0≤x) (h1:x < 1000000000000):
  Calls Tryz.prog 275 #[.int .i64 x] w fun e w'=> e=.returned (.int .i64 (Q28 x))∧w=w':=by
 have hm:0≤x % 2147483647∧x % 2147483647 < 2147483647:=by omega
 go_enter Tryz.func275,Tryz.ntmps275
 go_wp2
 go_ret
 exact ⟨rfl,rfl⟩
theorem Qco (k x:Int) (w:World) (h0:0≤k) (h1:k < 1000000) (h2:0≤x) (h3:x < 100000000000):
  Calls Tryz.prog 254 #[.int .i64 k,.int .i64 x] w fun e w'=> e=.returned (.int .i64 (Q2X k x))∧w=w':=by
 have HH:=Q00 (show Q28 (Q28 (Q28 (k+1)+x)+k)=Q2X k x from rfl)
 have b1:=Q42 (k+1)
 have b2:=Q42 (Q28 (k+1)+x)
 go_enter Tryz.func254,Tryz.ntmps254
 go_wp2_with fail
 refine (Q64 (k+1) _ (by omega) (by omega)).mono ?_
 rintro e w1 ⟨rfl,rfl⟩
 go_wp2_with fail
 refine (Q64 (Q28 (k+1)+x) _ (by omega) (by omega)).mono ?_
 rintro e w1 ⟨rfl,rfl⟩
 go_wp2_with fail
 refine (Q64 (Q28 (Q28 (k+1)+x)+k) _ (by omega) (by omega)).mono ?_
 rintro e w1 ⟨rfl,rfl⟩
 go_wp2
 go_ret
 exact ⟨Q17 HH.out,rfl⟩
theorem QaW (k x:Int) (w:World) (h0:0≤k) (h1:k < 1000000) (h2:0≤x) (h3:x < 100000000000):
  Calls Tryz.prog 274 #[.int .i64 k,.int .i64 x] w fun e w'=> e=.returned (.int .i64 (Q2X k x))∧w=w':=by
 have HH:=Q00 (show Q28 (Q28 (Q28 (k+1)+x)+k)=Q2X k x from rfl)
 have b1:=Q42 (k+1)
 have b2:=Q42 (Q28 (k+1)+x)
 go_enter Tryz.func274,Tryz.ntmps274
 go_wp2_with fail
 refine (Q7Y (k+1) _ (by omega) (by omega)).mono ?_
 rintro e w1 ⟨rfl,rfl⟩
 go_wp2_with fail
 refine (Q7Y (Q28 (k+1)+x) _ (by omega) (by omega)).mono ?_
 rintro e w1 ⟨rfl,rfl⟩
 go_wp2_with fail
 refine (Q7Y (Q28 (Q28 (k+1)+x)+k) _ (by omega) (by omega)).mono ?_
 rintro e w1 ⟨rfl,rfl⟩
 go_wp2
 go_ret
 exact ⟨Q17 HH.out,rfl⟩
theorem Q9x (k:Int) (w:World):Calls Tryz.prog 54 #[.int .i64 k] w fun e w'=> e=.returned (.bool (Q2p k))∧w=w':=by
 go_enter Tryz.func54,Tryz.ntmps54
 go_wp2
 all_goals go_ret
 all_goals refine ⟨?_,rfl⟩
 all_goals first|(simp [Q2p, *];done)|(simp [Q2p];omega)
theorem Q13 (k:Int) (w:World):Calls Tryz.prog 173 #[.int .i64 k] w fun e w'=> e=.returned (.bool (Q2p k))∧w=w':=by
 rw [Qg0]
 go_enter Tryz.func173,Tryz.ntmps173
 go_wp2
 all_goals go_ret
 all_goals refine ⟨?_,rfl⟩
 all_goals first|(simp [*];done)|(simp;omega)
theorem Q6U (k x:Int) (w:World):
  Calls Tryz.prog 273 #[.int .i64 k,.int .i64 x] w fun e w'=> e=.returned (.int .i64 (Q2J k x))∧w=w':=by
 by_cases hk:Q2p k=true
 ·obtain ⟨h1,h2⟩:=Q5w.1 hk
  by_cases hx:0≤x∧x < 2147483647
  ·obtain ⟨h3,h4⟩:=hx
   have HE:=Q00 (show Q2X k x=Q2J k x by rw [Q2J,if_pos ⟨h1,h2,h3,h4⟩])
   go_enter Tryz.func273,Tryz.ntmps273
   go_wp2_with (first|(go_at_call 173;refine (Q13 k _).mono ?_;rw [hk];rintro e w1 ⟨rfl,rfl⟩)|(go_at_call 274;refine (QaW k x _ h1 h2 h3 (by omega)).mono ?_;rintro e w1 ⟨rfl,rfl⟩))
   go_ret
   exact ⟨Q17 HE.out,rfl⟩
  ·have HE:=Q00 (show -1=Q2J k x by rw [Q2J,if_neg (fun q=> hx q.2.2)])
   by_cases h3:0≤x
   ·have h4:¬x < 2147483647:=fun q=> hx ⟨h3,q⟩
    go_enter Tryz.func273,Tryz.ntmps273
    go_wp2_with (go_at_call 173;refine (Q13 k _).mono ?_;rw [hk];rintro e w1 ⟨rfl,rfl⟩)
    go_ret
    exact ⟨Q17 HE.out,rfl⟩
   ·go_enter Tryz.func273,Tryz.ntmps273
    go_wp2_with (go_at_call 173;refine (Q13 k _).mono ?_;rw [hk];rintro e w1 ⟨rfl,rfl⟩)
    go_ret
    exact ⟨Q17 HE.out,rfl⟩
 ·have HE:=Q00 (show -1=Q2J k x by rw [Q2J,if_neg (fun q=> hk (Q5w.2 ⟨q.1,q.2.1⟩))])
  have hk':Q2p k=false:=by simpa using hk
  go_enter Tryz.func273,Tryz.ntmps273
  go_wp2_with (go_at_call 173;refine (Q13 k _).mono ?_;rw [hk'];rintro e w1 ⟨rfl,rfl⟩)
  go_ret
  exact ⟨Q17 HE.out,rfl⟩
end Go.Proofs.YtgplppfbinfelaaGreat
