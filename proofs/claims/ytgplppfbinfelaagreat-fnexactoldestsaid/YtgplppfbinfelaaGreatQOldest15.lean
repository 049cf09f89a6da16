/- Several texts in one: Bits, SHash. -/
import Derived.Laws.BitsAllLaws
import Derived.Test.YtgplppfbinfelaaGreatQOldest01
namespace Go.Proofs.YtgplppfbinfelaaGreat
open Go.ChangeShapes Go.WideShapes Go.ChangeAt Go.RowKit Go.Joins
set_option linter.unusedVariables false
set_option linter.unusedSimpArgs false
set_option maxRecDepth 100000
set_option maxHeartbeats 40000000
theorem wrap_i64 (n:Int) (h0:0≤n) (h1:n < 9223372036854775808):IntKind.i64.wrap n=n:=by
 simp [IntKind.wrap,IntKind.bits,IntKind.signed];omega
def stirI (x:Int):Int:=(x % 2147483647 * 48271+11) % 2147483647
theorem stirI_bd (x:Int):0≤stirI x∧stirI x < 2147483647:=by unfold stirI;omega
def hashI (k x:Int):Int:=stirI (stirI (stirI (k+1)+x)+k)
theorem hashI_bd (k x:Int):0≤hashI k x∧hashI k x < 2147483647:=stirI_bd _
def keyB (k:Int):Bool:=decide (0≤k) && decide (k < 1000000)
theorem keyB_iff {k:Int}:keyB k=true↔0≤k∧k < 1000000:=by simp [keyB]
theorem keyB_le (k:Int):keyB k=(decide (0≤k) && decide (k≤999999)):=by rw [Bool.eq_iff_iff];simp [keyB];omega
def hashOfI (k x:Int):Int:=if 0≤k∧k < 1000000∧0≤x∧x < 2147483647 then hashI k x else -1
theorem l3mix_any (x:Int) (w:World) (h0:0≤x) (h1:x < 1000000000000):
  Calls Tryz.prog 264 #[.int .i64 x] w fun e w'=> e=.returned (.int .i64 (stirI x))∧w=w':=by
 have hm:0≤x % 2147483647∧x % 2147483647 < 2147483647:=by omega
 go_enter Tryz.func264,Tryz.ntmps264
 go_wp2
 go_ret
 exact ⟨rfl,rfl⟩
theorem stir_any (x:Int) (w:World) (h0:0≤x) (h1:x < 1000000000000):
  Calls Tryz.prog 275 #[.int .i64 x] w fun e w'=> e=.returned (.int .i64 (stirI x))∧w=w':=by
 have hm:0≤x % 2147483647∧x % 2147483647 < 2147483647:=by omega
 go_enter Tryz.func275,Tryz.ntmps275
 go_wp2
 go_ret
 exact ⟨rfl,rfl⟩
theorem l3hash_any (k x:Int) (w:World) (h0:0≤k) (h1:k < 1000000) (h2:0≤x) (h3:x < 100000000000):
  Calls Tryz.prog 254 #[.int .i64 k,.int .i64 x] w fun e w'=> e=.returned (.int .i64 (hashI k x))∧w=w':=by
 have HH:=hide (show stirI (stirI (stirI (k+1)+x)+k)=hashI k x from rfl)
 have b1:=stirI_bd (k+1)
 have b2:=stirI_bd (stirI (k+1)+x)
 go_enter Tryz.func254,Tryz.ntmps254
 go_wp2_with fail
 refine (l3mix_any (k+1) _ (by omega) (by omega)).mono ?_
 rintro e w1 ⟨rfl,rfl⟩
 go_wp2_with fail
 refine (l3mix_any (stirI (k+1)+x) _ (by omega) (by omega)).mono ?_
 rintro e w1 ⟨rfl,rfl⟩
 go_wp2_with fail
 refine (l3mix_any (stirI (stirI (k+1)+x)+k) _ (by omega) (by omega)).mono ?_
 rintro e w1 ⟨rfl,rfl⟩
 go_wp2
 go_ret
 exact ⟨ret_int HH.out,rfl⟩
theorem hashAny_any (k x:Int) (w:World) (h0:0≤k) (h1:k < 1000000) (h2:0≤x) (h3:x < 100000000000):
  Calls Tryz.prog 274 #[.int .i64 k,.int .i64 x] w fun e w'=> e=.returned (.int .i64 (hashI k x))∧w=w':=by
 have HH:=hide (show stirI (stirI (stirI (k+1)+x)+k)=hashI k x from rfl)
 have b1:=stirI_bd (k+1)
 have b2:=stirI_bd (stirI (k+1)+x)
 go_enter Tryz.func274,Tryz.ntmps274
 go_wp2_with fail
 refine (stir_any (k+1) _ (by omega) (by omega)).mono ?_
 rintro e w1 ⟨rfl,rfl⟩
 go_wp2_with fail
 refine (stir_any (stirI (k+1)+x) _ (by omega) (by omega)).mono ?_
 rintro e w1 ⟨rfl,rfl⟩
 go_wp2_with fail
 refine (stir_any (stirI (stirI (k+1)+x)+k) _ (by omega) (by omega)).mono ?_
 rintro e w1 ⟨rfl,rfl⟩
 go_wp2
 go_ret
 exact ⟨ret_int HH.out,rfl⟩
theorem l3key_any (k:Int) (w:World):Calls Tryz.prog 54 #[.int .i64 k] w fun e w'=> e=.returned (.bool (keyB k))∧w=w':=by
 go_enter Tryz.func54,Tryz.ntmps54
 go_wp2
 all_goals go_ret
 all_goals refine ⟨?_,rfl⟩
 all_goals first|(simp [keyB, *];done)|(simp [keyB];omega)
theorem isKey_any (k:Int) (w:World):Calls Tryz.prog 173 #[.int .i64 k] w fun e w'=> e=.returned (.bool (keyB k))∧w=w':=by
 rw [keyB_le]
 go_enter Tryz.func173,Tryz.ntmps173
 go_wp2
 all_goals go_ret
 all_goals refine ⟨?_,rfl⟩
 all_goals first|(simp [*];done)|(simp;omega)
theorem implHashOf_any (k x:Int) (w:World):
  Calls Tryz.prog 273 #[.int .i64 k,.int .i64 x] w fun e w'=> e=.returned (.int .i64 (hashOfI k x))∧w=w':=by
 by_cases hk:keyB k=true
 ·obtain ⟨h1,h2⟩:=keyB_iff.1 hk
  by_cases hx:0≤x∧x < 2147483647
  ·obtain ⟨h3,h4⟩:=hx
   have HE:=hide (show hashI k x=hashOfI k x by rw [hashOfI,if_pos ⟨h1,h2,h3,h4⟩])
   go_enter Tryz.func273,Tryz.ntmps273
   go_wp2_with (first|(go_at_call 173;refine (isKey_any k _).mono ?_;rw [hk];rintro e w1 ⟨rfl,rfl⟩)|(go_at_call 274;refine (hashAny_any k x _ h1 h2 h3 (by omega)).mono ?_;rintro e w1 ⟨rfl,rfl⟩))
   go_ret
   exact ⟨ret_int HE.out,rfl⟩
  ·have HE:=hide (show -1=hashOfI k x by rw [hashOfI,if_neg (fun q=> hx q.2.2)])
   by_cases h3:0≤x
   ·have h4:¬x < 2147483647:=fun q=> hx ⟨h3,q⟩
    go_enter Tryz.func273,Tryz.ntmps273
    go_wp2_with (go_at_call 173;refine (isKey_any k _).mono ?_;rw [hk];rintro e w1 ⟨rfl,rfl⟩)
    go_ret
    exact ⟨ret_int HE.out,rfl⟩
   ·go_enter Tryz.func273,Tryz.ntmps273
    go_wp2_with (go_at_call 173;refine (isKey_any k _).mono ?_;rw [hk];rintro e w1 ⟨rfl,rfl⟩)
    go_ret
    exact ⟨ret_int HE.out,rfl⟩
 ·have HE:=hide (show -1=hashOfI k x by rw [hashOfI,if_neg (fun q=> hk (keyB_iff.2 ⟨q.1,q.2.1⟩))])
  have hk':keyB k=false:=by simpa using hk
  go_enter Tryz.func273,Tryz.ntmps273
  go_wp2_with (go_at_call 173;refine (isKey_any k _).mono ?_;rw [hk'];rintro e w1 ⟨rfl,rfl⟩)
  go_ret
  exact ⟨ret_int HE.out,rfl⟩
end Go.Proofs.YtgplppfbinfelaaGreat
