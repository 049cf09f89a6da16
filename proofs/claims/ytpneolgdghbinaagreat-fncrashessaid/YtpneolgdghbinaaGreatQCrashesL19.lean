/- A flow's bucket, on both sides. -/
import Derived.Deep.QuietTactic
import Derived.BigQuiet
import Derived.Deep.RegionWith
import Derived.Test.YtpneolgdghbinaaGreatQCrashesL18
namespace Go.Proofs.YtpneolgdghbinaaGreat
open Go.ChangeShapes Go.WideShapes Go.ChangeAt Go.RowKit Go.Joins
set_option linter.unusedVariables false
set_option linter.unusedSimpArgs false
set_option maxRecDepth 100000
set_option maxHeartbeats 40000000
theorem Q9K {P:Program} {f:FuncId} {args:Array Value} {w:World} {n:Nat} {v:Value}
  (h:Calls P f args (w.drewN n) fun e c=>e=.returned v/\w.drewN n=c):Calls P f args (w.drewN n) fun e a=>e=.returned v/\∃m,a=w.drewN m:=
 h.mono fun _ _ ⟨b,hm⟩=>⟨b,n,hm.symm⟩
theorem Qb5 (a b:Nat) (c:a < 9223372036854775808) (d:b < 9223372036854775808):bits .xor .i64 (a:Int) (b:Int)=((a ^^^ b:Nat):Int):=by
 have f:a ^^^ b < 2 ^ 63:=Nat.xor_lt_two_pow (by omega) (by omega)
 show IntKind.i64.wrap ((BitVec.ofInt 64 (a:Int) ^^^ BitVec.ofInt 64 (b:Int)).toNat:Int)=_
 rw[BitVec.toNat_xor,ofInt_u64 a (by omega),ofInt_u64 b (by omega),wrap_i64 _ (by omega) (by omega)]
theorem Qit (h p:Int) (c:0<=h) (f:h < 2147483647) (d:0<=p) (i:p < 65536):0<=bits .xor .i64 h p/\bits .xor .i64 h p < 2147483648:=by
 obtain⟨a,rfl⟩:=Int.eq_ofNat_of_zero_le c;obtain⟨b,rfl⟩:=Int.eq_ofNat_of_zero_le d;rw[Qb5 a b (by omega) (by omega)];have g:a ^^^ b < 2 ^ 31:=Nat.xor_lt_two_pow (by omega) (by omega);omega
def Q3a (k a p:Int):Int:=Q2p k (bits .xor .i64 (Q2p k a) p) / 7 % 8
def Q1V (k a p:Int):Int:=if 0<=k/\k < 1000000/\Q0o a p=true then Q3a k a p else -1
theorem Q6I (k a p:Int) (w:World):
  Calls Tryz.prog 91 #[.int .i64 k,.agg #[.int .i64 a,.int .i64 p]] w fun e z=>e=.returned (.int .i64 (Q1V k a p))/\Below w.heap.size w z:=by
 have b:Below w.heap.size w w:=KBq
 by_cases hk:Q1D k=true
 ·obtain⟨h,h2⟩:=Q4F.1 hk
  by_cases f:Q0o a p=true
  ·obtain⟨r,B,x,y⟩:=Q2K.1 f
   have n:=Q5M k a;have v:=Qit (Q2p k a) p n.1 n.2 x y;have t:=Q5M k (bits .xor .i64 (Q2p k a) p);have g:=Q02 (show Q2p k (bits .xor .i64 (Q2p k a) p) / 7 % 8=Q1V k a p by rw[Q1V,if_pos ⟨h,h2,f⟩];rfl)
   have u:Q2H k a=Q2p k a:=by rw[Q2H,if_pos ⟨h,h2,r,by omega⟩]
   go_enter Tryz.func91,Tryz.ntmps91
   go_wp2_with (first|(go_at_call 115;refine(Q0T k _).mono ?_;rw[hk];rintro e c ⟨rfl,rfl⟩)|(go_at_call 53;refine(f ▸ Q0Z a p _).mono ?_;rintro e c ⟨rfl,d⟩;obtain⟨s,f⟩:=Q3L d;have m:w.heap.size < c.heap.size:=(by have l:=d.size;(try simp at l);omega);have b:Below w.heap.size w c:=(by refine Below.trans ?_ (d.mono (by have hs:=b.size;(try simp) <;> omega));(repeat (first|with_reducible (first|exact b|exact KBq|refine KHq ?_|refine below_drewN ?_ _|refine KOq ?_ ?_ _|refine KNq ?_ ?_ _)|(focus (simp;first|done|omega))|omega)))))
   go_quiet (exact Q9K (u ▸ Q4Z k a _))
   go_wp2_with (go_at_call 141;refine(Q7L k (bits .xor .i64 (Q2p k a) p) _ h h2 v.1 (by omega)).mono ?_;rintro e A ⟨rfl,rfl⟩);go_ret;exact⟨Q0W g.out,by(repeat (first|with_reducible (first|exact b|exact KBq|refine KHq ?_|refine below_drewN ?_ _|refine KOq ?_ ?_ _|refine KNq ?_ ?_ _)|(focus (simp;first|done|omega))|omega))⟩
  ·have g:=Q02 (show -1=Q1V k a p by rw[Q1V,if_neg (fun q=>f q.2.2)])
   have i:Q0o a p=false:=by simpa using f
   go_enter Tryz.func91,Tryz.ntmps91
   go_wp2_with (first|(go_at_call 115;refine(Q0T k _).mono ?_;rw[hk];rintro e c ⟨rfl,rfl⟩)|(go_at_call 53;refine(i ▸ Q0Z a p _).mono ?_;rintro e c ⟨rfl,d⟩;obtain⟨s,f⟩:=Q3L d;have m:w.heap.size < c.heap.size:=(by have l:=d.size;(try simp at l);omega);have b:Below w.heap.size w c:=(by refine Below.trans ?_ (d.mono (by have hs:=b.size;(try simp) <;> omega));(repeat (first|with_reducible (first|exact b|exact KBq|refine KHq ?_|refine below_drewN ?_ _|refine KOq ?_ ?_ _|refine KNq ?_ ?_ _)|(focus (simp;first|done|omega))|omega)))));go_ret
   exact⟨Q0W g.out,by(repeat (first|with_reducible (first|exact b|exact KBq|refine KHq ?_|refine below_drewN ?_ _|refine KOq ?_ ?_ _|refine KNq ?_ ?_ _)|(focus (simp;first|done|omega))|omega))⟩
 ·have g:=Q02 (show -1=Q1V k a p by rw[Q1V,if_neg (fun q=>hk (Q4F.2 ⟨q.1,q.2.1⟩))])
  have j:Q1D k=false:=by simpa using hk
  go_enter Tryz.func91,Tryz.ntmps91;go_wp2_with (go_at_call 115;refine(Q0T k _).mono ?_;rw[j];rintro e c ⟨rfl,rfl⟩);go_ret;exact⟨Q0W g.out,by(repeat (first|with_reducible (first|exact b|exact KBq|refine KHq ?_|refine below_drewN ?_ _|refine KOq ?_ ?_ _|refine KNq ?_ ?_ _)|(focus (simp;first|done|omega))|omega))⟩
end Go.Proofs.YtpneolgdghbinaaGreat
