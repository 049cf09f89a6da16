/- Score on both sides. -/
import Derived.Test.YtgplppfbinfelaaGreatQLoadOf14
import Derived.Test.YtgplppfbinfelaaGreatQLoadOf16
namespace Go.Proofs.YtgplppfbinfelaaGreat
open Go.ChangeShapes Go.WideShapes Go.ChangeAt Go.RowKit Go.Joins
set_option linter.unusedVariables false
set_option linter.unusedSimpArgs false
set_option maxRecDepth 100000
set_option maxHeartbeats 40000000
def Q1C (k b i g:Int):Int:=Q30 k (b * 64+i) / 128 * g
theorem Q94 (k b i g:Int) (h:0≤g) (h2:g≤100):0≤Q1C k b i g∧Q1C k b i g≤1677721600:=by
 have hh:=Q82 k (b * 64+i)
 unfold Q1C
 generalize hq:Q30 k (b * 64+i) / 128=q
 have q0:0≤q:=by omega
 have q1:q≤16777215:=by omega
 constructor
 ·exact Int.mul_nonneg q0 h
 ·have:=Int.mul_le_mul q1 h2 h (by decide)
  omega
def Q1y (k b i g:Int):Int:=if Q2u k=true∧(0≤b∧b < 8)∧Q2B i g=true then Q1C k b i g else -1
theorem Q2b (n:Int) (w:World):Calls Tryz.prog 261 #[.int .i64 n] w fun e w'=> e=.returned (.bool (decide (0≤n) && decide (n < 8)))∧w=w':=by
 go_enter Tryz.func261,Tryz.ntmps261
 go_wp2
 all_goals go_ret
 all_goals refine ⟨?_,rfl⟩
 all_goals first|(simp [*];done)|(simp;omega)
theorem QaY (k b i g:Int) (d:Bool) (w:World) (h1:0≤k) (h2:k < 1000000) (b0:0≤b) (b1:b < 8) (i0:0≤i) (i1:i < 6) (g0:0≤g) (g1:g≤100):
  Calls Tryz.prog 238 #[.int .i64 k,.int .i64 b,back i g d] w fun e w'=> e=.returned (.int .i64 (Q1C k b i g))∧Below w.heap.size w w':=by
 have hB:Below w.heap.size w w:=Below.refl _ _
 have hh:=Q82 k (b * 64+i)
 have hs:=Q94 k b i g g0 g1
 have HS:=Q00 (show Q30 k (b * 64+i) / 128 * g=Q1C k b i g from rfl)
 have hs':0≤Q30 k (b * 64+i) / 128 * g∧Q30 k (b * 64+i) / 128 * g≤1677721600:=hs
 clear hs
 go_enter Tryz.func238,Tryz.ntmps238
 go_wp2_with fail
 go_quiet (exact Qbf (QbS k (b * 64+i) _ h1 h2 (by omega) (by omega)))
 go_wp2
 go_ret
 exact ⟨Q17 HS.out,by (repeat (first|with_reducible (first|exact hB|exact Below.refl _ _|refine Below.drew ?_|refine below_drewN ?_ _|refine Below.alloc ?_ ?_ _|refine Below.setCell ?_ ?_ _)|(focus (simp;first|done|omega))|omega))⟩
theorem Q89 (k b i g:Int) (d:Bool) (w:World):
  Calls Tryz.prog 269 #[.int .i64 k,.int .i64 b,back i g d] w fun e w'=> e=.returned (.int .i64 (Q1y k b i g))∧Below w.heap.size w w':=by
 have hB:Below w.heap.size w w:=Below.refl _ _
 by_cases hk:Q2u k=true
 ·by_cases hb:0≤b∧b < 8
  ·have hb':(decide (0≤b) && decide (b < 8))=true:=by simp [hb]
   by_cases hg:Q2B i g=true
   ·obtain ⟨i0,i1,g0,g1⟩:=Q4h.1 hg
    obtain ⟨h1,h2⟩:=Q5t.1 hk
    have hh:=Q82 k (64 * b+i)
    have hs:=Q94 k b i g (by omega) g1
    have ho:Q2G k (64 * b+i)=Q30 k (64 * b+i):=by rw [Q2G,if_pos ⟨h1,h2,by omega,by omega⟩]
    have HS:=Q00 (show Q30 k (64 * b+i) / 128 * g=Q1y k b i g by rw [Q1y,if_pos ⟨hk,hb,hg⟩,Q1C,Int.mul_comm b 64])
    have hs':0≤Q30 k (64 * b+i) / 128 * g∧Q30 k (64 * b+i) / 128 * g≤1677721600:=by have:=hs;rw [Q1C,Int.mul_comm b 64] at this;exact this
    clear hs
    go_enter Tryz.func269,Tryz.ntmps269
    go_wp2_with (first|(go_at_call 173;refine (Q14 k _).mono ?_;rw [hk];rintro e w1 ⟨rfl,rfl⟩)|(go_at_call 261;refine (Q2b b _).mono ?_;rw [hb'];rintro e w1 ⟨rfl,rfl⟩)|(go_at_call 260;refine (hg ▸ Q1H i g d _).mono ?_;rintro e w1 ⟨rfl,hb⟩;obtain ⟨hc,hf⟩:=Q0B hb;have hz0:w.heap.size < w1.heap.size:=(by have hz:=hb.size;(try simp at hz);omega);have hB:Below w.heap.size w w1:=(by refine Below.trans ?_ (hb.mono (by have hs:=hB.size;(try simp) <;> omega));(repeat (first|with_reducible (first|exact hB|exact Below.refl _ _|refine Below.drew ?_|refine below_drewN ?_ _|refine Below.alloc ?_ ?_ _|refine Below.setCell ?_ ?_ _)|(focus (simp;first|done|omega))|omega)))))
    go_quiet (exact Qbf (ho ▸ Q6J k (64 * b+i) _))
    go_wp2
    go_ret
    exact ⟨Q17 HS.out,by (repeat (first|with_reducible (first|exact hB|exact Below.refl _ _|refine Below.drew ?_|refine below_drewN ?_ _|refine Below.alloc ?_ ?_ _|refine Below.setCell ?_ ?_ _)|(focus (simp;first|done|omega))|omega))⟩
   ·have hg':Q2B i g=false:=by simpa using hg
    have HS:=Q00 (show -1=Q1y k b i g by rw [Q1y,if_neg (fun q=> hg q.2.2)])
    go_enter Tryz.func269,Tryz.ntmps269
    go_wp2_with (first|(go_at_call 173;refine (Q14 k _).mono ?_;rw [hk];rintro e w1 ⟨rfl,rfl⟩)|(go_at_call 261;refine (Q2b b _).mono ?_;rw [hb'];rintro e w1 ⟨rfl,rfl⟩)|(go_at_call 260;refine (hg' ▸ Q1H i g d _).mono ?_;rintro e w1 ⟨rfl,hb⟩;obtain ⟨hc,hf⟩:=Q0B hb;have hz0:w.heap.size < w1.heap.size:=(by have hz:=hb.size;(try simp at hz);omega);have hB:Below w.heap.size w w1:=(by refine Below.trans ?_ (hb.mono (by have hs:=hB.size;(try simp) <;> omega));(repeat (first|with_reducible (first|exact hB|exact Below.refl _ _|refine Below.drew ?_|refine below_drewN ?_ _|refine Below.alloc ?_ ?_ _|refine Below.setCell ?_ ?_ _)|(focus (simp;first|done|omega))|omega)))))
    go_ret
    exact ⟨Q17 HS.out,by (repeat (first|with_reducible (first|exact hB|exact Below.refl _ _|refine Below.drew ?_|refine below_drewN ?_ _|refine Below.alloc ?_ ?_ _|refine Below.setCell ?_ ?_ _)|(focus (simp;first|done|omega))|omega))⟩
  ·have hb':(decide (0≤b) && decide (b < 8))=false:=by simpa using hb
   have HS:=Q00 (show -1=Q1y k b i g by rw [Q1y,if_neg (fun q=> hb q.2.1)])
   go_enter Tryz.func269,Tryz.ntmps269
   go_wp2_with (first|(go_at_call 173;refine (Q14 k _).mono ?_;rw [hk];rintro e w1 ⟨rfl,rfl⟩)|(go_at_call 261;refine (Q2b b _).mono ?_;rw [hb'];rintro e w1 ⟨rfl,rfl⟩))
   go_ret
   exact ⟨Q17 HS.out,by (repeat (first|with_reducible (first|exact hB|exact Below.refl _ _|refine Below.drew ?_|refine below_drewN ?_ _|refine Below.alloc ?_ ?_ _|refine Below.setCell ?_ ?_ _)|(focus (simp;first|done|omega))|omega))⟩
 ·have hk':Q2u k=false:=by simpa using hk
  have HS:=Q00 (show -1=Q1y k b i g by rw [Q1y,if_neg (fun q=> hk q.1)])
  go_enter Tryz.func269,Tryz.ntmps269
  go_wp2_with (first|(go_at_call 173;refine (Q14 k _).mono ?_;rw [hk'];rintro e w1 ⟨rfl,rfl⟩))
  go_ret
  exact ⟨Q17 HS.out,by (repeat (first|with_reducible (first|exact hB|exact Below.refl _ _|refine Below.drew ?_|refine below_drewN ?_ _|refine Below.alloc ?_ ?_ _|refine Below.setCell ?_ ?_ _)|(focus (simp;first|done|omega))|omega))⟩
end Go.Proofs.YtgplppfbinfelaaGreat
