/- A flow's bucket, on both sides. -/
import Derived.Deep.QuietTactic
import Derived.BigQuiet
import Derived.Deep.RegionWith
import Derived.Test.YtpneolgdghbinaaGreatQLearnsL18
namespace Go.Proofs.YtpneolgdghbinaaGreat
open Go.ChangeShapes Go.WideShapes Go.ChangeAt Go.RowKit Go.Joins
set_option linter.unusedVariables false
set_option linter.unusedSimpArgs false
set_option maxRecDepth 100000
set_option maxHeartbeats 40000000
theorem Q5E {P:Program} {f:FuncId} {args:Array Value} {w:World} {n:Nat} {v:Value}
  (h:Calls P f args (w.drewN n) fun e b=> e=.returned v∧w.drewN n=b):Calls P f args (w.drewN n) fun e a=> e=.returned v∧∃m,a=w.drewN m:=
 h.mono fun _ _ ⟨c,hm⟩=> ⟨c,n,hm.symm⟩
theorem Qbe (a b:Nat) (f:a < 9223372036854775808) (c:b < 9223372036854775808):bits .xor .i64 (a:Int) (b:Int)=((a ^^^ b:Nat):Int):=by
 have d:a ^^^ b < 2 ^ 63:=Nat.xor_lt_two_pow (by omega) (by omega)
 show IntKind.i64.wrap ((BitVec.ofInt 64 (a:Int) ^^^ BitVec.ofInt 64 (b:Int)).toNat:Int)=_
 rw [BitVec.toNat_xor,ofInt_u64 a (by omega),ofInt_u64 b (by omega),wrap_i64 _ (by omega) (by omega)]
theorem Qht (h p:Int) (d:0≤h) (i:h < 2147483647) (c:0≤p) (g:p < 65536):0≤bits .xor .i64 h p∧bits .xor .i64 h p < 2147483648:=by
 obtain ⟨a,rfl⟩:=Int.eq_ofNat_of_zero_le d;obtain ⟨b,rfl⟩:=Int.eq_ofNat_of_zero_le c;rw [Qbe a b (by omega) (by omega)];have f:a ^^^ b < 2 ^ 31:=Nat.xor_lt_two_pow (by omega) (by omega);omega
def Q2n (k a p:Int):Int:=Q1W k (bits .xor .i64 (Q1W k a) p) / 7 % 8
def Q12 (k a p:Int):Int:=if 0≤k∧k < 1000000∧Q0h a p=true then Q2n k a p else -1
theorem Qb0 (k a p:Int) (w:World) (c:0≤k) (h2:k < 1000000) (g:0≤a) (n:a < 65536) (h:0≤p) (m:p < 65536):
  Calls Tryz.prog 49 #[.int .i64 k,.agg #[.int .i64 a,.int .i64 p]] w fun e l=> e=.returned (.int .i64 (Q2n k a p))∧Below w.heap.size w l:=by
 have f:Below w.heap.size w w:=Below.refl _ _;have b:=Q3T k a;have j:=Qht (Q1W k a) p b.1 b.2 h m;have i:=Q3T k (bits .xor .i64 (Q1W k a) p);have d:=Q01 (show Q1W k (bits .xor .i64 (Q1W k a) p) / 7 % 8=Q2n k a p from rfl);go_enter Tryz.func49,Tryz.ntmps49;go_wp2_with fail
 go_quiet (first|(go_at_call_of 100 (bits .xor .i64 (Q1W k a) p);exact Q5E (Q61 k (bits .xor .i64 (Q1W k a) p) _ c h2 j.1 (by omega)))|(go_at_call_of 100 (Value.int .i64 a);exact Q5E (Q61 k a _ c h2 g (by omega))))
 go_wp2;go_ret;exact ⟨Q0L d.out,by (repeat (first|with_reducible (first|exact f|exact Below.refl _ _|refine Below.drew ?_|refine below_drewN ?_ _|refine Below.alloc ?_ ?_ _|refine Below.setCell ?_ ?_ _)|(focus (simp;first|done|omega))|omega))⟩
theorem QdR (k a p:Int) (w:World):
  Calls Tryz.prog 12 #[.int .i64 k,.agg #[.int .i64 a,.int .i64 p]] w fun e B=> e=.returned (.int .i64 (Q12 k a p))∧Below w.heap.size w B:=by
 have b:Below w.heap.size w w:=Below.refl _ _
 by_cases hk:Q1P k=true
 ·obtain ⟨s,h2⟩:=Q3g.1 hk
  by_cases d:Q0h a p=true
  ·obtain ⟨t,z,u,A⟩:=Q2l.1 d
   have i:=Q01 (show Q2n k a p=Q12 k a p by rw [Q12,if_pos ⟨s,h2,d⟩]);go_enter Tryz.func12,Tryz.ntmps12
   go_wp2_with (first|(go_at_call 48;refine (Q7x k _).mono ?_;rw [hk];rintro e c ⟨rfl,rfl⟩)|(go_at_call 44;refine (d ▸ Q0O a p _).mono ?_;rintro e c ⟨rfl,g⟩;obtain ⟨x,d⟩:=Q23 g;have l:w.heap.size < c.heap.size:=(by have j:=g.size;(try simp at j);omega);have b:Below w.heap.size w c:=(by refine Below.trans ?_ (g.mono (by have hs:=b.size;(try simp) <;> omega));(repeat (first|with_reducible (first|exact b|exact Below.refl _ _|refine Below.drew ?_|refine below_drewN ?_ _|refine Below.alloc ?_ ?_ _|refine Below.setCell ?_ ?_ _)|(focus (simp;first|done|omega))|omega))))|(go_at_call 49;refine (Qb0 k a p _ s h2 t z u A).mono ?_;rintro e h ⟨rfl,f⟩;obtain ⟨v,y⟩:=Q23 f;have r:w.heap.size < h.heap.size:=(by have j:=f.size;(try simp at j);omega);have b:Below w.heap.size w h:=(by refine Below.trans ?_ (f.mono (by have hs:=b.size;(try simp) <;> omega));(repeat (first|with_reducible (first|exact b|exact Below.refl _ _|refine Below.drew ?_|refine below_drewN ?_ _|refine Below.alloc ?_ ?_ _|refine Below.setCell ?_ ?_ _)|(focus (simp;first|done|omega))|omega)))))
   go_ret;exact ⟨Q0L i.out,by (repeat (first|with_reducible (first|exact b|exact Below.refl _ _|refine Below.drew ?_|refine below_drewN ?_ _|refine Below.alloc ?_ ?_ _|refine Below.setCell ?_ ?_ _)|(focus (simp;first|done|omega))|omega))⟩
  ·have i:=Q01 (show -1=Q12 k a p by rw [Q12,if_neg (fun q=> d q.2.2)])
   have m:Q0h a p=false:=by simpa using d
   go_enter Tryz.func12,Tryz.ntmps12
   go_wp2_with (first|(go_at_call 48;refine (Q7x k _).mono ?_;rw [hk];rintro e c ⟨rfl,rfl⟩)|(go_at_call 44;refine (m ▸ Q0O a p _).mono ?_;rintro e c ⟨rfl,g⟩;obtain ⟨x,d⟩:=Q23 g;have l:w.heap.size < c.heap.size:=(by have j:=g.size;(try simp at j);omega);have b:Below w.heap.size w c:=(by refine Below.trans ?_ (g.mono (by have hs:=b.size;(try simp) <;> omega));(repeat (first|with_reducible (first|exact b|exact Below.refl _ _|refine Below.drew ?_|refine below_drewN ?_ _|refine Below.alloc ?_ ?_ _|refine Below.setCell ?_ ?_ _)|(focus (simp;first|done|omega))|omega)))));go_ret
   exact ⟨Q0L i.out,by (repeat (first|with_reducible (first|exact b|exact Below.refl _ _|refine Below.drew ?_|refine below_drewN ?_ _|refine Below.alloc ?_ ?_ _|refine Below.setCell ?_ ?_ _)|(focus (simp;first|done|omega))|omega))⟩
 ·have i:=Q01 (show -1=Q12 k a p by rw [Q12,if_neg (fun q=> hk (Q3g.2 ⟨q.1,q.2.1⟩))])
  have n:Q1P k=false:=by simpa using hk
  go_enter Tryz.func12,Tryz.ntmps12;go_wp2_with (go_at_call 48;refine (Q7x k _).mono ?_;rw [n];rintro e c ⟨rfl,rfl⟩);go_ret;exact ⟨Q0L i.out,by (repeat (first|with_reducible (first|exact b|exact Below.refl _ _|refine Below.drew ?_|refine below_drewN ?_ _|refine Below.alloc ?_ ?_ _|refine Below.setCell ?_ ?_ _)|(focus (simp;first|done|omega))|omega))⟩
theorem Q6H (k a p:Int) (w:World):
  Calls Tryz.prog 91 #[.int .i64 k,.agg #[.int .i64 a,.int .i64 p]] w fun e A=> e=.returned (.int .i64 (Q12 k a p))∧Below w.heap.size w A:=by
 have b:Below w.heap.size w w:=Below.refl _ _
 by_cases hk:Q1P k=true
 ·obtain ⟨m,h2⟩:=Q3g.1 hk
  by_cases d:Q0h a p=true
  ·obtain ⟨r,B,s,v⟩:=Q2l.1 d
   have n:=Q3T k a;have z:=Qht (Q1W k a) p n.1 n.2 s v;have y:=Q3T k (bits .xor .i64 (Q1W k a) p);have g:=Q01 (show Q1W k (bits .xor .i64 (Q1W k a) p) / 7 % 8=Q12 k a p by rw [Q12,if_pos ⟨m,h2,d⟩];rfl)
   have x:Q2S k a=Q1W k a:=by rw [Q2S,if_pos ⟨m,h2,r,by omega⟩]
   go_enter Tryz.func91,Tryz.ntmps91
   go_wp2_with (first|(go_at_call 115;refine (Q10 k _).mono ?_;rw [hk];rintro e c ⟨rfl,rfl⟩)|(go_at_call 53;refine (d ▸ Q0N a p _).mono ?_;rintro e c ⟨rfl,f⟩;obtain ⟨u,d⟩:=Q23 f;have h:w.heap.size < c.heap.size:=(by have j:=f.size;(try simp at j);omega);have b:Below w.heap.size w c:=(by refine Below.trans ?_ (f.mono (by have hs:=b.size;(try simp) <;> omega));(repeat (first|with_reducible (first|exact b|exact Below.refl _ _|refine Below.drew ?_|refine below_drewN ?_ _|refine Below.alloc ?_ ?_ _|refine Below.setCell ?_ ?_ _)|(focus (simp;first|done|omega))|omega)))))
   go_quiet (exact Q5E (x ▸ Q52 k a _))
   go_wp2_with (go_at_call 141;refine (Q7u k (bits .xor .i64 (Q1W k a) p) _ m h2 z.1 (by omega)).mono ?_;rintro e t ⟨rfl,rfl⟩);go_ret;exact ⟨Q0L g.out,by (repeat (first|with_reducible (first|exact b|exact Below.refl _ _|refine Below.drew ?_|refine below_drewN ?_ _|refine Below.alloc ?_ ?_ _|refine Below.setCell ?_ ?_ _)|(focus (simp;first|done|omega))|omega))⟩
  ·have g:=Q01 (show -1=Q12 k a p by rw [Q12,if_neg (fun q=> d q.2.2)])
   have i:Q0h a p=false:=by simpa using d
   go_enter Tryz.func91,Tryz.ntmps91
   go_wp2_with (first|(go_at_call 115;refine (Q10 k _).mono ?_;rw [hk];rintro e c ⟨rfl,rfl⟩)|(go_at_call 53;refine (i ▸ Q0N a p _).mono ?_;rintro e c ⟨rfl,f⟩;obtain ⟨u,d⟩:=Q23 f;have h:w.heap.size < c.heap.size:=(by have j:=f.size;(try simp at j);omega);have b:Below w.heap.size w c:=(by refine Below.trans ?_ (f.mono (by have hs:=b.size;(try simp) <;> omega));(repeat (first|with_reducible (first|exact b|exact Below.refl _ _|refine Below.drew ?_|refine below_drewN ?_ _|refine Below.alloc ?_ ?_ _|refine Below.setCell ?_ ?_ _)|(focus (simp;first|done|omega))|omega)))));go_ret
   exact ⟨Q0L g.out,by (repeat (first|with_reducible (first|exact b|exact Below.refl _ _|refine Below.drew ?_|refine below_drewN ?_ _|refine Below.alloc ?_ ?_ _|refine Below.setCell ?_ ?_ _)|(focus (simp;first|done|omega))|omega))⟩
 ·have g:=Q01 (show -1=Q12 k a p by rw [Q12,if_neg (fun q=> hk (Q3g.2 ⟨q.1,q.2.1⟩))])
  have l:Q1P k=false:=by simpa using hk
  go_enter Tryz.func91,Tryz.ntmps91;go_wp2_with (go_at_call 115;refine (Q10 k _).mono ?_;rw [l];rintro e c ⟨rfl,rfl⟩);go_ret;exact ⟨Q0L g.out,by (repeat (first|with_reducible (first|exact b|exact Below.refl _ _|refine Below.drew ?_|refine below_drewN ?_ _|refine Below.alloc ?_ ?_ _|refine Below.setCell ?_ ?_ _)|(focus (simp;first|done|omega))|omega))⟩
end Go.Proofs.YtpneolgdghbinaaGreat
