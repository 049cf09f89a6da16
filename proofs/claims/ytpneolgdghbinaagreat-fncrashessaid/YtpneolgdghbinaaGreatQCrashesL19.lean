/- A flow's bucket, on both sides. -/
import Derived.Deep.QuietTactic
import Derived.BigQuiet
import Derived.Deep.RegionWith
import Derived.Test.YtpneolgdghbinaaGreatQCrashesL18
namespace Go.Proofs.YtpneolgdghbinaaGreat
open Go.ChangeShapes Go.WideShapes Go.ChangeAt Go.RowKit Go.Joins
set_option linter.unusedVariables false
set_option linter.unusedSimpArgs false
set_option maxRecDepth 100000
set_option maxHeartbeats 40000000
theorem Q5z {P:Program} {f:FuncId} {args:Array Value} {w:World} {n:Nat} {v:Value}
  (h:Calls P f args (w.drewN n) fun e c=>e=.returned v/\w.drewN n=c):Calls P f args (w.drewN n) fun e a=>e=.returned v/\∃m,a=w.drewN m:=
 h.mono fun _ _ ⟨b,hm⟩=>⟨b,n,hm.symm⟩
theorem QbO (a b:Nat) (c:a < 9223372036854775808) (d:b < 9223372036854775808):bits .xor .i64 (a:Int) (b:Int)=((a ^^^ b:Nat):Int):=by
 have f:a ^^^ b < 2 ^ 63:=Nat.xor_lt_two_pow (by omega) (by omega)
 show IntKind.i64.wrap ((BitVec.ofInt 64 (a:Int) ^^^ BitVec.ofInt 64 (b:Int)).toNat:Int)=_
 rw[BitVec.toNat_xor,ofInt_u64 a (by omega),ofInt_u64 b (by omega),wrap_i64 _ (by omega) (by omega)]
theorem Qht (h p:Int) (c:0<=h) (f:h < 2147483647) (d:0<=p) (i:p < 65536):0<=bits .xor .i64 h p/\bits .xor .i64 h p < 2147483648:=by
 obtain⟨a,rfl⟩:=Int.eq_ofNat_of_zero_le c;obtain⟨b,rfl⟩:=Int.eq_ofNat_of_zero_le d;rw[QbO a b (by omega) (by omega)];have g:a ^^^ b < 2 ^ 31:=Nat.xor_lt_two_pow (by omega) (by omega);omega
def Q2i (k a p:Int):Int:=Q20 k (bits .xor .i64 (Q20 k a) p) / 7 % 8
def Q11 (k a p:Int):Int:=if 0<=k/\k < 1000000/\Q0p a p=true then Q2i k a p else -1
theorem Qb2 (k a p:Int) (w:World) (b:0<=k) (h2:k < 1000000) (f:0<=a) (n:a < 65536) (j:0<=p) (l:p < 65536):
  Calls Tryz.prog 49 #[.int .i64 k,.agg #[.int .i64 a,.int .i64 p]] w fun e m=>e=.returned (.int .i64 (Q2i k a p))/\Below w.heap.size w m:=by
 have g:Below w.heap.size w w:=KBq;have c:=Q40 k a;have i:=Qht (Q20 k a) p c.1 c.2 j l;have h:=Q40 k (bits .xor .i64 (Q20 k a) p);have d:=Q02 (show Q20 k (bits .xor .i64 (Q20 k a) p) / 7 % 8=Q2i k a p from rfl);go_enter Tryz.func49,Tryz.ntmps49;go_wp2_with fail
 go_quiet (first|(go_at_call_of 100 (bits .xor .i64 (Q20 k a) p);exact Q5z (Q61 k (bits .xor .i64 (Q20 k a) p) _ b h2 i.1 (by omega)))|(go_at_call_of 100 (Value.int .i64 a);exact Q5z (Q61 k a _ b h2 f (by omega))))
 go_wp2;go_ret;exact⟨Q0T d.out,by(repeat (first|with_reducible (first|exact g|exact KBq|refine KHq ?_|refine below_drewN ?_ _|refine KOq ?_ ?_ _|refine KNq ?_ ?_ _)|(focus (simp;first|done|omega))|omega))⟩
theorem QdW (k a p:Int) (w:World):
  Calls Tryz.prog 12 #[.int .i64 k,.agg #[.int .i64 a,.int .i64 p]] w fun e B=>e=.returned (.int .i64 (Q11 k a p))/\Below w.heap.size w B:=by
 have b:Below w.heap.size w w:=KBq
 by_cases hk:Q1D k=true
 ·obtain⟨r,h2⟩:=Q3h.1 hk
  by_cases g:Q0p a p=true
  ·obtain⟨t,u,z,A⟩:=Q2k.1 g
   have h:=Q02 (show Q2i k a p=Q11 k a p by rw[Q11,if_pos ⟨r,h2,g⟩]);go_enter Tryz.func12,Tryz.ntmps12
   go_wp2_with (first|(go_at_call 48;refine(Q4f k _).mono ?_;rw[hk];rintro e c ⟨rfl,rfl⟩)|(go_at_call 44;refine(g ▸ Q0N a p _).mono ?_;rintro e c ⟨rfl,d⟩;obtain⟨v,g⟩:=Q24 d;have n:w.heap.size < c.heap.size:=(by have i:=d.size;(try simp at i);omega);have b:Below w.heap.size w c:=(by refine Below.trans ?_ (d.mono (by have hs:=b.size;(try simp) <;> omega));(repeat (first|with_reducible (first|exact b|exact KBq|refine KHq ?_|refine below_drewN ?_ _|refine KOq ?_ ?_ _|refine KNq ?_ ?_ _)|(focus (simp;first|done|omega))|omega))))|(go_at_call 49;refine(Qb2 k a p _ r h2 t u z A).mono ?_;rintro e j ⟨rfl,f⟩;obtain⟨x,y⟩:=Q24 f;have s:w.heap.size < j.heap.size:=(by have i:=f.size;(try simp at i);omega);have b:Below w.heap.size w j:=(by refine Below.trans ?_ (f.mono (by have hs:=b.size;(try simp) <;> omega));(repeat (first|with_reducible (first|exact b|exact KBq|refine KHq ?_|refine below_drewN ?_ _|refine KOq ?_ ?_ _|refine KNq ?_ ?_ _)|(focus (simp;first|done|omega))|omega)))))
   go_ret;exact⟨Q0T h.out,by(repeat (first|with_reducible (first|exact b|exact KBq|refine KHq ?_|refine below_drewN ?_ _|refine KOq ?_ ?_ _|refine KNq ?_ ?_ _)|(focus (simp;first|done|omega))|omega))⟩
  ·have h:=Q02 (show -1=Q11 k a p by rw[Q11,if_neg (fun q=>g q.2.2)])
   have l:Q0p a p=false:=by simpa using g
   go_enter Tryz.func12,Tryz.ntmps12
   go_wp2_with (first|(go_at_call 48;refine(Q4f k _).mono ?_;rw[hk];rintro e c ⟨rfl,rfl⟩)|(go_at_call 44;refine(l ▸ Q0N a p _).mono ?_;rintro e c ⟨rfl,d⟩;obtain⟨v,g⟩:=Q24 d;have n:w.heap.size < c.heap.size:=(by have i:=d.size;(try simp at i);omega);have b:Below w.heap.size w c:=(by refine Below.trans ?_ (d.mono (by have hs:=b.size;(try simp) <;> omega));(repeat (first|with_reducible (first|exact b|exact KBq|refine KHq ?_|refine below_drewN ?_ _|refine KOq ?_ ?_ _|refine KNq ?_ ?_ _)|(focus (simp;first|done|omega))|omega)))));go_ret
   exact⟨Q0T h.out,by(repeat (first|with_reducible (first|exact b|exact KBq|refine KHq ?_|refine below_drewN ?_ _|refine KOq ?_ ?_ _|refine KNq ?_ ?_ _)|(focus (simp;first|done|omega))|omega))⟩
 ·have h:=Q02 (show -1=Q11 k a p by rw[Q11,if_neg (fun q=>hk (Q3h.2 ⟨q.1,q.2.1⟩))])
  have m:Q1D k=false:=by simpa using hk
  go_enter Tryz.func12,Tryz.ntmps12;go_wp2_with (go_at_call 48;refine(Q4f k _).mono ?_;rw[m];rintro e c ⟨rfl,rfl⟩);go_ret;exact⟨Q0T h.out,by(repeat (first|with_reducible (first|exact b|exact KBq|refine KHq ?_|refine below_drewN ?_ _|refine KOq ?_ ?_ _|refine KNq ?_ ?_ _)|(focus (simp;first|done|omega))|omega))⟩
theorem Q6V (k a p:Int) (w:World):
  Calls Tryz.prog 91 #[.int .i64 k,.agg #[.int .i64 a,.int .i64 p]] w fun e z=>e=.returned (.int .i64 (Q11 k a p))/\Below w.heap.size w z:=by
 have b:Below w.heap.size w w:=KBq
 by_cases hk:Q1D k=true
 ·obtain⟨h,h2⟩:=Q3h.1 hk
  by_cases f:Q0p a p=true
  ·obtain⟨r,B,x,y⟩:=Q2k.1 f
   have n:=Q40 k a;have v:=Qht (Q20 k a) p n.1 n.2 x y;have t:=Q40 k (bits .xor .i64 (Q20 k a) p);have g:=Q02 (show Q20 k (bits .xor .i64 (Q20 k a) p) / 7 % 8=Q11 k a p by rw[Q11,if_pos ⟨h,h2,f⟩];rfl)
   have u:Q36 k a=Q20 k a:=by rw[Q36,if_pos ⟨h,h2,r,by omega⟩]
   go_enter Tryz.func91,Tryz.ntmps91
   go_wp2_with (first|(go_at_call 115;refine(Q0Z k _).mono ?_;rw[hk];rintro e c ⟨rfl,rfl⟩)|(go_at_call 53;refine(f ▸ Q14 a p _).mono ?_;rintro e c ⟨rfl,d⟩;obtain⟨s,f⟩:=Q24 d;have m:w.heap.size < c.heap.size:=(by have l:=d.size;(try simp at l);omega);have b:Below w.heap.size w c:=(by refine Below.trans ?_ (d.mono (by have hs:=b.size;(try simp) <;> omega));(repeat (first|with_reducible (first|exact b|exact KBq|refine KHq ?_|refine below_drewN ?_ _|refine KOq ?_ ?_ _|refine KNq ?_ ?_ _)|(focus (simp;first|done|omega))|omega)))))
   go_quiet (exact Q5z (u ▸ Q4Y k a _))
   go_wp2_with (go_at_call 141;refine(Q82 k (bits .xor .i64 (Q20 k a) p) _ h h2 v.1 (by omega)).mono ?_;rintro e A ⟨rfl,rfl⟩);go_ret;exact⟨Q0T g.out,by(repeat (first|with_reducible (first|exact b|exact KBq|refine KHq ?_|refine below_drewN ?_ _|refine KOq ?_ ?_ _|refine KNq ?_ ?_ _)|(focus (simp;first|done|omega))|omega))⟩
  ·have g:=Q02 (show -1=Q11 k a p by rw[Q11,if_neg (fun q=>f q.2.2)])
   have i:Q0p a p=false:=by simpa using f
   go_enter Tryz.func91,Tryz.ntmps91
   go_wp2_with (first|(go_at_call 115;refine(Q0Z k _).mono ?_;rw[hk];rintro e c ⟨rfl,rfl⟩)|(go_at_call 53;refine(i ▸ Q14 a p _).mono ?_;rintro e c ⟨rfl,d⟩;obtain⟨s,f⟩:=Q24 d;have m:w.heap.size < c.heap.size:=(by have l:=d.size;(try simp at l);omega);have b:Below w.heap.size w c:=(by refine Below.trans ?_ (d.mono (by have hs:=b.size;(try simp) <;> omega));(repeat (first|with_reducible (first|exact b|exact KBq|refine KHq ?_|refine below_drewN ?_ _|refine KOq ?_ ?_ _|refine KNq ?_ ?_ _)|(focus (simp;first|done|omega))|omega)))));go_ret
   exact⟨Q0T g.out,by(repeat (first|with_reducible (first|exact b|exact KBq|refine KHq ?_|refine below_drewN ?_ _|refine KOq ?_ ?_ _|refine KNq ?_ ?_ _)|(focus (simp;first|done|omega))|omega))⟩
 ·have g:=Q02 (show -1=Q11 k a p by rw[Q11,if_neg (fun q=>hk (Q3h.2 ⟨q.1,q.2.1⟩))])
  have j:Q1D k=false:=by simpa using hk
  go_enter Tryz.func91,Tryz.ntmps91;go_wp2_with (go_at_call 115;refine(Q0Z k _).mono ?_;rw[j];rintro e c ⟨rfl,rfl⟩);go_ret;exact⟨Q0T g.out,by(repeat (first|with_reducible (first|exact b|exact KBq|refine KHq ?_|refine below_drewN ?_ _|refine KOq ?_ ?_ _|refine KNq ?_ ?_ _)|(focus (simp;first|done|omega))|omega))⟩
end Go.Proofs.YtpneolgdghbinaaGreat
