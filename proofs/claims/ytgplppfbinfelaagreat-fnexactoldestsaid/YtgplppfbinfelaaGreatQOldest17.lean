/- Score on both sides. -/
import Derived.Test.YtgplppfbinfelaaGreatQOldest14
import Derived.Test.YtgplppfbinfelaaGreatQOldest16
namespace Go.Proofs.YtgplppfbinfelaaGreat
open Go.ChangeShapes Go.WideShapes Go.ChangeAt Go.RowKit Go.Joins
set_option linter.unusedVariables false
set_option linter.unusedSimpArgs false
set_option maxRecDepth 100000
set_option maxHeartbeats 40000000
def scoreI (k b i g:Int):Int:=hashI k (b * 64+i) / 128 * g
theorem scoreI_bd (k b i g:Int) (h:0≤g) (h2:g≤100):0≤scoreI k b i g∧scoreI k b i g≤1677721600:=by
 have hh:=hashI_bd k (b * 64+i)
 unfold scoreI
 generalize hq:hashI k (b * 64+i) / 128=q
 have q0:0≤q:=by omega
 have q1:q≤16777215:=by omega
 constructor
 ·exact Int.mul_nonneg q0 h
 ·have:=Int.mul_le_mul q1 h2 h (by decide)
  omega
def scoreOfI (k b i g:Int):Int:=if keyB k=true∧(0≤b∧b < 8)∧backB i g=true then scoreI k b i g else -1
theorem isBucket_any (n:Int) (w:World):Calls Tryz.prog 261 #[.int .i64 n] w fun e w'=> e=.returned (.bool (decide (0≤n) && decide (n < 8)))∧w=w':=by
 go_enter Tryz.func261,Tryz.ntmps261
 go_wp2
 all_goals go_ret
 all_goals refine ⟨?_,rfl⟩
 all_goals first|(simp [*];done)|(simp;omega)
theorem l3score_any (k b i g:Int) (d:Bool) (w:World) (h1:0≤k) (h2:k < 1000000) (b0:0≤b) (b1:b < 8) (i0:0≤i) (i1:i < 6) (g0:0≤g) (g1:g≤100):
  Calls Tryz.prog 238 #[.int .i64 k,.int .i64 b,back i g d] w fun e w'=> e=.returned (.int .i64 (scoreI k b i g))∧Below w.heap.size w w':=by
 have hB:Below w.heap.size w w:=Below.refl _ _
 have hh:=hashI_bd k (b * 64+i)
 have hs:=scoreI_bd k b i g g0 g1
 have HS:=hide (show hashI k (b * 64+i) / 128 * g=scoreI k b i g from rfl)
 have hs':0≤hashI k (b * 64+i) / 128 * g∧hashI k (b * 64+i) / 128 * g≤1677721600:=hs
 clear hs
 go_enter Tryz.func238,Tryz.ntmps238
 go_wp2_with fail
 go_quiet (exact quiet_eq (l3hash_any k (b * 64+i) _ h1 h2 (by omega) (by omega)))
 go_wp2
 go_ret
 exact ⟨ret_int HS.out,by (repeat (first|with_reducible (first|exact hB|exact Below.refl _ _|refine Below.drew ?_|refine below_drewN ?_ _|refine Below.alloc ?_ ?_ _|refine Below.setCell ?_ ?_ _)|(focus (simp;first|done|omega))|omega))⟩
theorem implScore_any (k b i g:Int) (d:Bool) (w:World):
  Calls Tryz.prog 269 #[.int .i64 k,.int .i64 b,back i g d] w fun e w'=> e=.returned (.int .i64 (scoreOfI k b i g))∧Below w.heap.size w w':=by
 have hB:Below w.heap.size w w:=Below.refl _ _
 by_cases hk:keyB k=true
 ·by_cases hb:0≤b∧b < 8
  ·have hb':(decide (0≤b) && decide (b < 8))=true:=by simp [hb]
   by_cases hg:backB i g=true
   ·obtain ⟨i0,i1,g0,g1⟩:=backB_iff.1 hg
    obtain ⟨h1,h2⟩:=keyB_iff.1 hk
    have hh:=hashI_bd k (64 * b+i)
    have hs:=scoreI_bd k b i g (by omega) g1
    have ho:hashOfI k (64 * b+i)=hashI k (64 * b+i):=by rw [hashOfI,if_pos ⟨h1,h2,by omega,by omega⟩]
    have HS:=hide (show hashI k (64 * b+i) / 128 * g=scoreOfI k b i g by rw [scoreOfI,if_pos ⟨hk,hb,hg⟩,scoreI,Int.mul_comm b 64])
    have hs':0≤hashI k (64 * b+i) / 128 * g∧hashI k (64 * b+i) / 128 * g≤1677721600:=by have:=hs;rw [scoreI,Int.mul_comm b 64] at this;exact this
    clear hs
    go_enter Tryz.func269,Tryz.ntmps269
    go_wp2_with (first|(go_at_call 173;refine (isKey_any k _).mono ?_;rw [hk];rintro e w1 ⟨rfl,rfl⟩)|(go_at_call 261;refine (isBucket_any b _).mono ?_;rw [hb'];rintro e w1 ⟨rfl,rfl⟩)|(go_at_call 260;refine (hg ▸ backOk_any i g d _).mono ?_;rintro e w1 ⟨rfl,hb⟩;obtain ⟨hc,hf⟩:=bcell hb;have hz0:w.heap.size < w1.heap.size:=(by have hz:=hb.size;(try simp at hz);omega);have hB:Below w.heap.size w w1:=(by refine Below.trans ?_ (hb.mono (by have hs:=hB.size;(try simp) <;> omega));(repeat (first|with_reducible (first|exact hB|exact Below.refl _ _|refine Below.drew ?_|refine below_drewN ?_ _|refine Below.alloc ?_ ?_ _|refine Below.setCell ?_ ?_ _)|(focus (simp;first|done|omega))|omega)))))
    go_quiet (exact quiet_eq (ho ▸ implHashOf_any k (64 * b+i) _))
    go_wp2
    go_ret
    exact ⟨ret_int HS.out,by (repeat (first|with_reducible (first|exact hB|exact Below.refl _ _|refine Below.drew ?_|refine below_drewN ?_ _|refine Below.alloc ?_ ?_ _|refine Below.setCell ?_ ?_ _)|(focus (simp;first|done|omega))|omega))⟩
   ·have hg':backB i g=false:=by simpa using hg
    have HS:=hide (show -1=scoreOfI k b i g by rw [scoreOfI,if_neg (fun q=> hg q.2.2)])
    go_enter Tryz.func269,Tryz.ntmps269
    go_wp2_with (first|(go_at_call 173;refine (isKey_any k _).mono ?_;rw [hk];rintro e w1 ⟨rfl,rfl⟩)|(go_at_call 261;refine (isBucket_any b _).mono ?_;rw [hb'];rintro e w1 ⟨rfl,rfl⟩)|(go_at_call 260;refine (hg' ▸ backOk_any i g d _).mono ?_;rintro e w1 ⟨rfl,hb⟩;obtain ⟨hc,hf⟩:=bcell hb;have hz0:w.heap.size < w1.heap.size:=(by have hz:=hb.size;(try simp at hz);omega);have hB:Below w.heap.size w w1:=(by refine Below.trans ?_ (hb.mono (by have hs:=hB.size;(try simp) <;> omega));(repeat (first|with_reducible (first|exact hB|exact Below.refl _ _|refine Below.drew ?_|refine below_drewN ?_ _|refine Below.alloc ?_ ?_ _|refine Below.setCell ?_ ?_ _)|(focus (simp;first|done|omega))|omega)))))
    go_ret
    exact ⟨ret_int HS.out,by (repeat (first|with_reducible (first|exact hB|exact Below.refl _ _|refine Below.drew ?_|refine below_drewN ?_ _|refine Below.alloc ?_ ?_ _|refine Below.setCell ?_ ?_ _)|(focus (simp;first|done|omega))|omega))⟩
  ·have hb':(decide (0≤b) && decide (b < 8))=false:=by simpa using hb
   have HS:=hide (show -1=scoreOfI k b i g by rw [scoreOfI,if_neg (fun q=> hb q.2.1)])
   go_enter Tryz.func269,Tryz.ntmps269
   go_wp2_with (first|(go_at_call 173;refine (isKey_any k _).mono ?_;rw [hk];rintro e w1 ⟨rfl,rfl⟩)|(go_at_call 261;refine (isBucket_any b _).mono ?_;rw [hb'];rintro e w1 ⟨rfl,rfl⟩))
   go_ret
   exact ⟨ret_int HS.out,by (repeat (first|with_reducible (first|exact hB|exact Below.refl _ _|refine Below.drew ?_|refine below_drewN ?_ _|refine Below.alloc ?_ ?_ _|refine Below.setCell ?_ ?_ _)|(focus (simp;first|done|omega))|omega))⟩
 ·have hk':keyB k=false:=by simpa using hk
  have HS:=hide (show -1=scoreOfI k b i g by rw [scoreOfI,if_neg (fun q=> hk q.1)])
  go_enter Tryz.func269,Tryz.ntmps269
  go_wp2_with (first|(go_at_call 173;refine (isKey_any k _).mono ?_;rw [hk'];rintro e w1 ⟨rfl,rfl⟩))
  go_ret
  exact ⟨ret_int HS.out,by (repeat (first|with_reducible (first|exact hB|exact Below.refl _ _|refine Below.drew ?_|refine below_drewN ?_ _|refine Below.alloc ?_ ?_ _|refine Below.setCell ?_ ?_ _)|(focus (simp;first|done|omega))|omega))⟩
end Go.Proofs.YtgplppfbinfelaaGreat
