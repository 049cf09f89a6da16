/- A flow's bucket, on both sides. -/
import Derived.Deep.QuietTactic
import Derived.BigQuiet
import Derived.Deep.RegionWith
import Derived.Test.YteffhdcankkfkaaGreatQListed13
namespace Go.Proofs.YteffhdcankkfkaaGreat
open Go.ChangeShapes Go.WideShapes Go.ChangeAt Go.RowKit Go.Joins
set_option linter.unusedVariables false
set_option linter.unusedSimpArgs false
set_option maxRecDepth 100000
set_option maxHeartbeats 40000000
theorem Q4R {P:Program} {f:FuncId} {args:Array Value} {w:World} {n:Nat} {v:Value}
  (h:Calls P f args (w.drewN n) fun e d=>e=.returned v/\w.drewN n=d):Calls P f args (w.drewN n) fun e a=>e=.returned v/\∃m,a=w.drewN m:=
 h.mono fun _ _ ⟨b,c⟩=>⟨b,n,c.symm⟩
theorem Qbn (a b:Nat) (c:a < 9223372036854775808) (d:b < 9223372036854775808):bits .xor .i64 (a:Int) (b:Int)=((a ^^^ b:Nat):Int):=by
 have f:a ^^^ b < 2 ^ 63:=Nat.xor_lt_two_pow (by omega) (by omega)
 show IntKind.i64.wrap ((BitVec.ofInt 64 (a:Int) ^^^ BitVec.ofInt 64 (b:Int)).toNat:Int)=_
 rw[BitVec.toNat_xor,ofInt_u64 a (by omega),ofInt_u64 b (by omega),wrap_i64 _ (by omega) (by omega)]
theorem Qh2 (h p:Int) (c:0<=h) (f:h < 2147483647) (d:0<=p) (i:p < 65536):0<=bits .xor .i64 h p/\bits .xor .i64 h p < 2147483648:=by
 obtain⟨a,rfl⟩:=Int.eq_ofNat_of_zero_le c;obtain⟨b,rfl⟩:=Int.eq_ofNat_of_zero_le d;rw[Qbn a b (by omega) (by omega)];have g:a ^^^ b < 2 ^ 31:=Nat.xor_lt_two_pow (by omega) (by omega);omega
def Q22 (k a p:Int):Int:=Q1w k (bits .xor .i64 (Q1w k a) p) / 7 % 8
def Q1M (k a p:Int):Int:=if 0<=k/\k < 1000000/\Q0g a p=true then Q22 k a p else -1
theorem Qa7 (k a p:Int) (w:World) (b:0<=k) (h2:k < 1000000) (f:0<=a) (n:a < 65536) (j:0<=p) (l:p < 65536):
  Calls Tryz.prog 118 #[.int .i64 k,.agg #[.int .i64 a,.int .i64 p]] w fun e m=>e=.returned (.int .i64 (Q22 k a p))/\Below w.heap.size w m:=by
 have g:Below w.heap.size w w:=KBq;have c:=Q36 k a;have i:=Qh2 (Q1w k a) p c.1 c.2 j l;have h:=Q36 k (bits .xor .i64 (Q1w k a) p);have d:=Q00 (show Q1w k (bits .xor .i64 (Q1w k a) p) / 7 % 8=Q22 k a p from rfl);go_enter Tryz.func118,Tryz.ntmps118;go_wp2_with fail
 go_quiet (first|(go_at_call_of 167 (bits .xor .i64 (Q1w k a) p);exact Q4R (Q53 k (bits .xor .i64 (Q1w k a) p) _ b h2 i.1 (by omega)))|(go_at_call_of 167 (Value.int .i64 a);exact Q4R (Q53 k a _ b h2 f (by omega))))
 go_wp2;go_ret;exact⟨Q0O d.out,by(repeat (first|with_reducible (first|exact g|exact KBq|refine KHq ?_|refine below_drewN ?_ _|refine KOq ?_ ?_ _|refine KNq ?_ ?_ _)|(focus (simp;first|done|omega))|omega))⟩
theorem Q5U (k a p:Int) (w:World):
  Calls Tryz.prog 172 #[.int .i64 k,.agg #[.int .i64 a,.int .i64 p]] w fun e z=>e=.returned (.int .i64 (Q1M k a p))/\Below w.heap.size w z:=by
 have b:Below w.heap.size w w:=KBq
 by_cases hk:Q1S k=true
 ·obtain⟨h,h2⟩:=Q3M.1 hk
  by_cases f:Q0g a p=true
  ·obtain⟨r,B,x,y⟩:=Q2t.1 f
   have n:=Q36 k a;have v:=Qh2 (Q1w k a) p n.1 n.2 x y;have t:=Q36 k (bits .xor .i64 (Q1w k a) p);have g:=Q00 (show Q1w k (bits .xor .i64 (Q1w k a) p) / 7 % 8=Q1M k a p by rw[Q1M,if_pos ⟨h,h2,f⟩];rfl)
   have u:Q2n k a=Q1w k a:=by rw[Q2n,if_pos ⟨h,h2,r,by omega⟩]
   go_enter Tryz.func172,Tryz.ntmps172
   go_wp2_with (first|(go_at_call 133;refine(Q0N k _).mono ?_;rw[hk];rintro e c ⟨rfl,rfl⟩)|(go_at_call 66;refine(f ▸ Q0v a p _).mono ?_;rintro e c ⟨rfl,d⟩;obtain⟨s,f⟩:=Q0F d;have m:w.heap.size < c.heap.size:=(by have l:=d.size;(try simp at l);omega);have b:Below w.heap.size w c:=(by refine Below.trans ?_ (d.mono (by have hs:=b.size;(try simp) <;> omega));(repeat (first|with_reducible (first|exact b|exact KBq|refine KHq ?_|refine below_drewN ?_ _|refine KOq ?_ ?_ _|refine KNq ?_ ?_ _)|(focus (simp;first|done|omega))|omega)))))
   go_quiet (exact Q4R (u ▸ Q43 k a _))
   go_wp2_with (go_at_call 213;refine(Q6I k (bits .xor .i64 (Q1w k a) p) _ h h2 v.1 (by omega)).mono ?_;rintro e A ⟨rfl,rfl⟩);go_ret;exact⟨Q0O g.out,by(repeat (first|with_reducible (first|exact b|exact KBq|refine KHq ?_|refine below_drewN ?_ _|refine KOq ?_ ?_ _|refine KNq ?_ ?_ _)|(focus (simp;first|done|omega))|omega))⟩
  ·have g:=Q00 (show -1=Q1M k a p by rw[Q1M,if_neg (fun q=>f q.2.2)])
   have i:Q0g a p=false:=by simpa using f
   go_enter Tryz.func172,Tryz.ntmps172
   go_wp2_with (first|(go_at_call 133;refine(Q0N k _).mono ?_;rw[hk];rintro e c ⟨rfl,rfl⟩)|(go_at_call 66;refine(i ▸ Q0v a p _).mono ?_;rintro e c ⟨rfl,d⟩;obtain⟨s,f⟩:=Q0F d;have m:w.heap.size < c.heap.size:=(by have l:=d.size;(try simp at l);omega);have b:Below w.heap.size w c:=(by refine Below.trans ?_ (d.mono (by have hs:=b.size;(try simp) <;> omega));(repeat (first|with_reducible (first|exact b|exact KBq|refine KHq ?_|refine below_drewN ?_ _|refine KOq ?_ ?_ _|refine KNq ?_ ?_ _)|(focus (simp;first|done|omega))|omega)))));go_ret
   exact⟨Q0O g.out,by(repeat (first|with_reducible (first|exact b|exact KBq|refine KHq ?_|refine below_drewN ?_ _|refine KOq ?_ ?_ _|refine KNq ?_ ?_ _)|(focus (simp;first|done|omega))|omega))⟩
 ·have g:=Q00 (show -1=Q1M k a p by rw[Q1M,if_neg (fun q=>hk (Q3M.2 ⟨q.1,q.2.1⟩))])
  have j:Q1S k=false:=by simpa using hk
  go_enter Tryz.func172,Tryz.ntmps172;go_wp2_with (go_at_call 133;refine(Q0N k _).mono ?_;rw[j];rintro e c ⟨rfl,rfl⟩);go_ret;exact⟨Q0O g.out,by(repeat (first|with_reducible (first|exact b|exact KBq|refine KHq ?_|refine below_drewN ?_ _|refine KOq ?_ ?_ _|refine KNq ?_ ?_ _)|(focus (simp;first|done|omega))|omega))⟩
end Go.Proofs.YteffhdcankkfkaaGreat
