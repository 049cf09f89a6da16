/- A flow's bucket, on both sides. -/
import Derived.Deep.QuietTactic
import Derived.BigQuiet
import Derived.Deep.RegionWith
import Derived.Test.YtpneolgdghbinaaGreatQSends18
namespace Go.Proofs.YtpneolgdghbinaaGreat
open Go.ChangeShapes Go.WideShapes Go.ChangeAt Go.RowKit Go.Joins
set_option linter.unusedVariables false
set_option linter.unusedSimpArgs false
set_option maxRecDepth 100000
set_option maxHeartbeats 40000000
theorem Q5j {P:Program} {f:FuncId} {args:Array Value} {w:World} {n:Nat} {v:Value}
  (h:Calls P f args (w.drewN n) fun e w'=> e=.returned v∧w.drewN n=w'):Calls P f args (w.drewN n) fun e w''=> e=.returned v∧∃m,w''=w.drewN m:=
 h.mono fun _ _ ⟨he,hm⟩=> ⟨he,n,hm.symm⟩
theorem Qar (a b:Nat) (ha:a < 9223372036854775808) (hb:b < 9223372036854775808):bits .xor .i64 (a:Int) (b:Int)=((a ^^^ b:Nat):Int):=by
 have hx:a ^^^ b < 2 ^ 63:=Nat.xor_lt_two_pow (by omega) (by omega)
 show IntKind.i64.wrap ((BitVec.ofInt 64 (a:Int) ^^^ BitVec.ofInt 64 (b:Int)).toNat:Int)=_
 rw [BitVec.toNat_xor,ofInt_u64 a (by omega),ofInt_u64 b (by omega),wrap_i64 _ (by omega) (by omega)]
theorem Qg9 (h p:Int) (h0:0≤h) (h1:h < 2147483647) (p0:0≤p) (p1:p < 65536):0≤bits .xor .i64 h p∧bits .xor .i64 h p < 2147483648:=by
 obtain ⟨a,rfl⟩:=Int.eq_ofNat_of_zero_le h0;obtain ⟨b,rfl⟩:=Int.eq_ofNat_of_zero_le p0
 rw [Qar a b (by omega) (by omega)]
 have hx:a ^^^ b < 2 ^ 31:=Nat.xor_lt_two_pow (by omega) (by omega)
 omega
def Q24 (k a p:Int):Int:=Q1R k (bits .xor .i64 (Q1R k a) p) / 7 % 8
def Q0V (k a p:Int):Int:=if 0≤k∧k < 1000000∧Q0f a p=true then Q24 k a p else -1
theorem Q9C (k a p:Int) (w:World) (h1:0≤k) (h2:k < 1000000) (a0:0≤a) (a1:a < 65536) (p0:0≤p) (p1:p < 65536):
  Calls Tryz.prog 49 #[.int .i64 k,.agg #[.int .i64 a,.int .i64 p]] w fun e w'=> e=.returned (.int .i64 (Q24 k a p))∧Below w.heap.size w w':=by
 have hB:Below w.heap.size w w:=Below.refl _ _;have hh:=Q3w k a;have hx:=Qg9 (Q1R k a) p hh.1 hh.2 p0 p1;have hh2:=Q3w k (bits .xor .i64 (Q1R k a) p);have HE:=Q02 (show Q1R k (bits .xor .i64 (Q1R k a) p) / 7 % 8=Q24 k a p from rfl)
 go_enter Tryz.func49,Tryz.ntmps49
 go_wp2_with fail
 go_quiet (first|(go_at_call_of 100 (bits .xor .i64 (Q1R k a) p);exact Q5j (Q5N k (bits .xor .i64 (Q1R k a) p) _ h1 h2 hx.1 (by omega)))|(go_at_call_of 100 (Value.int .i64 a);exact Q5j (Q5N k a _ h1 h2 a0 (by omega))))
 go_wp2
 go_ret
 exact ⟨Q0J HE.out,by (repeat (first|with_reducible (first|exact hB|exact Below.refl _ _|refine Below.drew ?_|refine below_drewN ?_ _|refine Below.alloc ?_ ?_ _|refine Below.setCell ?_ ?_ _)|(focus (simp;first|done|omega))|omega))⟩
theorem QcD (k a p:Int) (w:World):
  Calls Tryz.prog 12 #[.int .i64 k,.agg #[.int .i64 a,.int .i64 p]] w fun e w'=> e=.returned (.int .i64 (Q0V k a p))∧Below w.heap.size w w':=by
 have hB:Below w.heap.size w w:=Below.refl _ _
 by_cases hk:Q1C k=true
 ·obtain ⟨h1,h2⟩:=Q2W.1 hk
  by_cases hf:Q0f a p=true
  ·obtain ⟨a0,a1,p0,p1⟩:=Q0Y.1 hf
   have HE:=Q02 (show Q24 k a p=Q0V k a p by rw [Q0V,if_pos ⟨h1,h2,hf⟩])
   go_enter Tryz.func12,Tryz.ntmps12
   go_wp2_with (first|(go_at_call 48;refine (Q6T k _).mono ?_;rw [hk];rintro e w1 ⟨rfl,rfl⟩)|(go_at_call 44;refine (hf ▸ Q0L a p _).mono ?_;rintro e w1 ⟨rfl,hb⟩;obtain ⟨hc,hf⟩:=Q1z hb;have hz0:w.heap.size < w1.heap.size:=(by have hz:=hb.size;(try simp at hz);omega);have hB:Below w.heap.size w w1:=(by refine Below.trans ?_ (hb.mono (by have hs:=hB.size;(try simp) <;> omega));(repeat (first|with_reducible (first|exact hB|exact Below.refl _ _|refine Below.drew ?_|refine below_drewN ?_ _|refine Below.alloc ?_ ?_ _|refine Below.setCell ?_ ?_ _)|(focus (simp;first|done|omega))|omega))))|(go_at_call 49;refine (Q9C k a p _ h1 h2 a0 a1 p0 p1).mono ?_;rintro e w1b ⟨rfl,hbb⟩;obtain ⟨hcb,hfb⟩:=Q1z hbb;have hz0b:w.heap.size < w1b.heap.size:=(by have hz:=hbb.size;(try simp at hz);omega);have hB:Below w.heap.size w w1b:=(by refine Below.trans ?_ (hbb.mono (by have hs:=hB.size;(try simp) <;> omega));(repeat (first|with_reducible (first|exact hB|exact Below.refl _ _|refine Below.drew ?_|refine below_drewN ?_ _|refine Below.alloc ?_ ?_ _|refine Below.setCell ?_ ?_ _)|(focus (simp;first|done|omega))|omega)))))
   go_ret
   exact ⟨Q0J HE.out,by (repeat (first|with_reducible (first|exact hB|exact Below.refl _ _|refine Below.drew ?_|refine below_drewN ?_ _|refine Below.alloc ?_ ?_ _|refine Below.setCell ?_ ?_ _)|(focus (simp;first|done|omega))|omega))⟩
  ·have HE:=Q02 (show -1=Q0V k a p by rw [Q0V,if_neg (fun q=> hf q.2.2)])
   have hf':Q0f a p=false:=by simpa using hf
   go_enter Tryz.func12,Tryz.ntmps12
   go_wp2_with (first|(go_at_call 48;refine (Q6T k _).mono ?_;rw [hk];rintro e w1 ⟨rfl,rfl⟩)|(go_at_call 44;refine (hf' ▸ Q0L a p _).mono ?_;rintro e w1 ⟨rfl,hb⟩;obtain ⟨hc,hf⟩:=Q1z hb;have hz0:w.heap.size < w1.heap.size:=(by have hz:=hb.size;(try simp at hz);omega);have hB:Below w.heap.size w w1:=(by refine Below.trans ?_ (hb.mono (by have hs:=hB.size;(try simp) <;> omega));(repeat (first|with_reducible (first|exact hB|exact Below.refl _ _|refine Below.drew ?_|refine below_drewN ?_ _|refine Below.alloc ?_ ?_ _|refine Below.setCell ?_ ?_ _)|(focus (simp;first|done|omega))|omega)))))
   go_ret
   exact ⟨Q0J HE.out,by (repeat (first|with_reducible (first|exact hB|exact Below.refl _ _|refine Below.drew ?_|refine below_drewN ?_ _|refine Below.alloc ?_ ?_ _|refine Below.setCell ?_ ?_ _)|(focus (simp;first|done|omega))|omega))⟩
 ·have HE:=Q02 (show -1=Q0V k a p by rw [Q0V,if_neg (fun q=> hk (Q2W.2 ⟨q.1,q.2.1⟩))])
  have hk':Q1C k=false:=by simpa using hk
  go_enter Tryz.func12,Tryz.ntmps12
  go_wp2_with (go_at_call 48;refine (Q6T k _).mono ?_;rw [hk'];rintro e w1 ⟨rfl,rfl⟩)
  go_ret
  exact ⟨Q0J HE.out,by (repeat (first|with_reducible (first|exact hB|exact Below.refl _ _|refine Below.drew ?_|refine below_drewN ?_ _|refine Below.alloc ?_ ?_ _|refine Below.setCell ?_ ?_ _)|(focus (simp;first|done|omega))|omega))⟩
theorem Q6g (k a p:Int) (w:World):
  Calls Tryz.prog 91 #[.int .i64 k,.agg #[.int .i64 a,.int .i64 p]] w fun e w'=> e=.returned (.int .i64 (Q0V k a p))∧Below w.heap.size w w':=by
 have hB:Below w.heap.size w w:=Below.refl _ _
 by_cases hk:Q1C k=true
 ·obtain ⟨h1,h2⟩:=Q2W.1 hk
  by_cases hf:Q0f a p=true
  ·obtain ⟨a0,a1,p0,p1⟩:=Q0Y.1 hf
   have hh:=Q3w k a;have hx:=Qg9 (Q1R k a) p hh.1 hh.2 p0 p1;have hh2:=Q3w k (bits .xor .i64 (Q1R k a) p)
   have HE:=Q02 (show Q1R k (bits .xor .i64 (Q1R k a) p) / 7 % 8=Q0V k a p by rw [Q0V,if_pos ⟨h1,h2,hf⟩];rfl)
   have ho:Q2M k a=Q1R k a:=by rw [Q2M,if_pos ⟨h1,h2,a0,by omega⟩]
   go_enter Tryz.func91,Tryz.ntmps91
   go_wp2_with (first|(go_at_call 115;refine (Q0S k _).mono ?_;rw [hk];rintro e w1 ⟨rfl,rfl⟩)|(go_at_call 53;refine (hf ▸ Q0K a p _).mono ?_;rintro e w1 ⟨rfl,hb⟩;obtain ⟨hc,hf⟩:=Q1z hb;have hz0:w.heap.size < w1.heap.size:=(by have hz:=hb.size;(try simp at hz);omega);have hB:Below w.heap.size w w1:=(by refine Below.trans ?_ (hb.mono (by have hs:=hB.size;(try simp) <;> omega));(repeat (first|with_reducible (first|exact hB|exact Below.refl _ _|refine Below.drew ?_|refine below_drewN ?_ _|refine Below.alloc ?_ ?_ _|refine Below.setCell ?_ ?_ _)|(focus (simp;first|done|omega))|omega)))))
   go_quiet (exact Q5j (ho ▸ Q4r k a _))
   go_wp2_with (go_at_call 141;refine (Q7e k (bits .xor .i64 (Q1R k a) p) _ h1 h2 hx.1 (by omega)).mono ?_;rintro e w1b ⟨rfl,rfl⟩)
   go_ret
   exact ⟨Q0J HE.out,by (repeat (first|with_reducible (first|exact hB|exact Below.refl _ _|refine Below.drew ?_|refine below_drewN ?_ _|refine Below.alloc ?_ ?_ _|refine Below.setCell ?_ ?_ _)|(focus (simp;first|done|omega))|omega))⟩
  ·have HE:=Q02 (show -1=Q0V k a p by rw [Q0V,if_neg (fun q=> hf q.2.2)])
   have hf':Q0f a p=false:=by simpa using hf
   go_enter Tryz.func91,Tryz.ntmps91
   go_wp2_with (first|(go_at_call 115;refine (Q0S k _).mono ?_;rw [hk];rintro e w1 ⟨rfl,rfl⟩)|(go_at_call 53;refine (hf' ▸ Q0K a p _).mono ?_;rintro e w1 ⟨rfl,hb⟩;obtain ⟨hc,hf⟩:=Q1z hb;have hz0:w.heap.size < w1.heap.size:=(by have hz:=hb.size;(try simp at hz);omega);have hB:Below w.heap.size w w1:=(by refine Below.trans ?_ (hb.mono (by have hs:=hB.size;(try simp) <;> omega));(repeat (first|with_reducible (first|exact hB|exact Below.refl _ _|refine Below.drew ?_|refine below_drewN ?_ _|refine Below.alloc ?_ ?_ _|refine Below.setCell ?_ ?_ _)|(focus (simp;first|done|omega))|omega)))))
   go_ret
   exact ⟨Q0J HE.out,by (repeat (first|with_reducible (first|exact hB|exact Below.refl _ _|refine Below.drew ?_|refine below_drewN ?_ _|refine Below.alloc ?_ ?_ _|refine Below.setCell ?_ ?_ _)|(focus (simp;first|done|omega))|omega))⟩
 ·have HE:=Q02 (show -1=Q0V k a p by rw [Q0V,if_neg (fun q=> hk (Q2W.2 ⟨q.1,q.2.1⟩))])
  have hk':Q1C k=false:=by simpa using hk
  go_enter Tryz.func91,Tryz.ntmps91
  go_wp2_with (go_at_call 115;refine (Q0S k _).mono ?_;rw [hk'];rintro e w1 ⟨rfl,rfl⟩)
  go_ret
  exact ⟨Q0J HE.out,by (repeat (first|with_reducible (first|exact hB|exact Below.refl _ _|refine Below.drew ?_|refine below_drewN ?_ _|refine Below.alloc ?_ ?_ _|refine Below.setCell ?_ ?_ _)|(focus (simp;first|done|omega))|omega))⟩
end Go.Proofs.YtpneolgdghbinaaGreat
