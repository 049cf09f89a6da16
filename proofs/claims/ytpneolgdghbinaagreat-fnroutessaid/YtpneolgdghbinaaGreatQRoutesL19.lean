/- A flow's bucket, on both sides. -/
import Derived.Deep.QuietTactic
import Derived.BigQuiet
import Derived.Deep.RegionWith
import Derived.Test.YtpneolgdghbinaaGreatQRoutesL18
namespace Go.Proofs.YtpneolgdghbinaaGreat
open Go.ChangeShapes Go.WideShapes Go.ChangeAt Go.RowKit Go.Joins
set_option linter.unusedVariables false
set_option linter.unusedSimpArgs false
set_option maxRecDepth 100000
set_option maxHeartbeats 40000000
theorem Q5P {P:Program} {f:FuncId} {args:Array Value} {w:World} {n:Nat} {v:Value}
  (h:Calls P f args (w.drewN n) fun e c=> e=.returned v∧w.drewN n=c):Calls P f args (w.drewN n) fun e a=> e=.returned v∧∃m,a=w.drewN m:=
 h.mono fun _ _ ⟨b,hm⟩=> ⟨b,n,hm.symm⟩
theorem Qb3 (a b:Nat) (c:a < 9223372036854775808) (d:b < 9223372036854775808):bits .xor .i64 (a:Int) (b:Int)=((a ^^^ b:Nat):Int):=by
 have f:a ^^^ b < 2 ^ 63:=Nat.xor_lt_two_pow (by omega) (by omega)
 show IntKind.i64.wrap ((BitVec.ofInt 64 (a:Int) ^^^ BitVec.ofInt 64 (b:Int)).toNat:Int)=_
 rw [BitVec.toNat_xor,ofInt_u64 a (by omega),ofInt_u64 b (by omega),wrap_i64 _ (by omega) (by omega)]
theorem QgH (h p:Int) (c:0≤h) (f:h < 2147483647) (d:0≤p) (i:p < 65536):0≤bits .xor .i64 h p∧bits .xor .i64 h p < 2147483648:=by
 obtain ⟨a,rfl⟩:=Int.eq_ofNat_of_zero_le c;obtain ⟨b,rfl⟩:=Int.eq_ofNat_of_zero_le d;rw [Qb3 a b (by omega) (by omega)];have g:a ^^^ b < 2 ^ 31:=Nat.xor_lt_two_pow (by omega) (by omega);omega
def Q2p (k a p:Int):Int:=Q1U k (bits .xor .i64 (Q1U k a) p) / 7 % 8
def Q0S (k a p:Int):Int:=if 0≤k∧k < 1000000∧Q0n a p=true then Q2p k a p else -1
theorem Qai (k a p:Int) (w:World) (b:0≤k) (h2:k < 1000000) (f:0≤a) (n:a < 65536) (j:0≤p) (l:p < 65536):
  Calls Tryz.prog 49 #[.int .i64 k,.agg #[.int .i64 a,.int .i64 p]] w fun e m=> e=.returned (.int .i64 (Q2p k a p))∧Below w.heap.size w m:=by
 have g:Below w.heap.size w w:=Below.refl _ _;have c:=Q45 k a;have i:=QgH (Q1U k a) p c.1 c.2 j l;have h:=Q45 k (bits .xor .i64 (Q1U k a) p);have d:=Q01 (show Q1U k (bits .xor .i64 (Q1U k a) p) / 7 % 8=Q2p k a p from rfl);go_enter Tryz.func49,Tryz.ntmps49;go_wp2_with fail
 go_quiet (first|(go_at_call_of 100 (bits .xor .i64 (Q1U k a) p);exact Q5P (Q67 k (bits .xor .i64 (Q1U k a) p) _ b h2 i.1 (by omega)))|(go_at_call_of 100 (Value.int .i64 a);exact Q5P (Q67 k a _ b h2 f (by omega))))
 go_wp2;go_ret;exact ⟨Q0Q d.out,by (repeat (first|with_reducible (first|exact g|exact Below.refl _ _|refine Below.drew ?_|refine below_drewN ?_ _|refine Below.alloc ?_ ?_ _|refine Below.setCell ?_ ?_ _)|(focus (simp;first|done|omega))|omega))⟩
theorem Q6O (k a p:Int) (w:World):
  Calls Tryz.prog 12 #[.int .i64 k,.agg #[.int .i64 a,.int .i64 p]] w fun e B=> e=.returned (.int .i64 (Q0S k a p))∧Below w.heap.size w B:=by
 have b:Below w.heap.size w w:=Below.refl _ _
 by_cases hk:Q1A k=true
 ·obtain ⟨r,h2⟩:=Q3i.1 hk
  by_cases g:Q0n a p=true
  ·obtain ⟨t,u,z,A⟩:=Q2k.1 g
   have h:=Q01 (show Q2p k a p=Q0S k a p by rw [Q0S,if_pos ⟨r,h2,g⟩]);go_enter Tryz.func12,Tryz.ntmps12
   go_wp2_with (first|(go_at_call 48;refine (Q32 k _).mono ?_;rw [hk];rintro e c ⟨rfl,rfl⟩)|(go_at_call 44;refine (g ▸ Q0O a p _).mono ?_;rintro e c ⟨rfl,d⟩;obtain ⟨v,g⟩:=Q21 d;have n:w.heap.size < c.heap.size:=(by have i:=d.size;(try simp at i);omega);have b:Below w.heap.size w c:=(by refine Below.trans ?_ (d.mono (by have hs:=b.size;(try simp) <;> omega));(repeat (first|with_reducible (first|exact b|exact Below.refl _ _|refine Below.drew ?_|refine below_drewN ?_ _|refine Below.alloc ?_ ?_ _|refine Below.setCell ?_ ?_ _)|(focus (simp;first|done|omega))|omega))))|(go_at_call 49;refine (Qai k a p _ r h2 t u z A).mono ?_;rintro e j ⟨rfl,f⟩;obtain ⟨x,y⟩:=Q21 f;have s:w.heap.size < j.heap.size:=(by have i:=f.size;(try simp at i);omega);have b:Below w.heap.size w j:=(by refine Below.trans ?_ (f.mono (by have hs:=b.size;(try simp) <;> omega));(repeat (first|with_reducible (first|exact b|exact Below.refl _ _|refine Below.drew ?_|refine below_drewN ?_ _|refine Below.alloc ?_ ?_ _|refine Below.setCell ?_ ?_ _)|(focus (simp;first|done|omega))|omega)))))
   go_ret;exact ⟨Q0Q h.out,by (repeat (first|with_reducible (first|exact b|exact Below.refl _ _|refine Below.drew ?_|refine below_drewN ?_ _|refine Below.alloc ?_ ?_ _|refine Below.setCell ?_ ?_ _)|(focus (simp;first|done|omega))|omega))⟩
  ·have h:=Q01 (show -1=Q0S k a p by rw [Q0S,if_neg (fun q=> g q.2.2)])
   have l:Q0n a p=false:=by simpa using g
   go_enter Tryz.func12,Tryz.ntmps12
   go_wp2_with (first|(go_at_call 48;refine (Q32 k _).mono ?_;rw [hk];rintro e c ⟨rfl,rfl⟩)|(go_at_call 44;refine (l ▸ Q0O a p _).mono ?_;rintro e c ⟨rfl,d⟩;obtain ⟨v,g⟩:=Q21 d;have n:w.heap.size < c.heap.size:=(by have i:=d.size;(try simp at i);omega);have b:Below w.heap.size w c:=(by refine Below.trans ?_ (d.mono (by have hs:=b.size;(try simp) <;> omega));(repeat (first|with_reducible (first|exact b|exact Below.refl _ _|refine Below.drew ?_|refine below_drewN ?_ _|refine Below.alloc ?_ ?_ _|refine Below.setCell ?_ ?_ _)|(focus (simp;first|done|omega))|omega)))));go_ret
   exact ⟨Q0Q h.out,by (repeat (first|with_reducible (first|exact b|exact Below.refl _ _|refine Below.drew ?_|refine below_drewN ?_ _|refine Below.alloc ?_ ?_ _|refine Below.setCell ?_ ?_ _)|(focus (simp;first|done|omega))|omega))⟩
 ·have h:=Q01 (show -1=Q0S k a p by rw [Q0S,if_neg (fun q=> hk (Q3i.2 ⟨q.1,q.2.1⟩))])
  have m:Q1A k=false:=by simpa using hk
  go_enter Tryz.func12,Tryz.ntmps12;go_wp2_with (go_at_call 48;refine (Q32 k _).mono ?_;rw [m];rintro e c ⟨rfl,rfl⟩);go_ret;exact ⟨Q0Q h.out,by (repeat (first|with_reducible (first|exact b|exact Below.refl _ _|refine Below.drew ?_|refine below_drewN ?_ _|refine Below.alloc ?_ ?_ _|refine Below.setCell ?_ ?_ _)|(focus (simp;first|done|omega))|omega))⟩
theorem Q6K (k a p:Int) (w:World):
  Calls Tryz.prog 91 #[.int .i64 k,.agg #[.int .i64 a,.int .i64 p]] w fun e z=> e=.returned (.int .i64 (Q0S k a p))∧Below w.heap.size w z:=by
 have b:Below w.heap.size w w:=Below.refl _ _
 by_cases hk:Q1A k=true
 ·obtain ⟨h,h2⟩:=Q3i.1 hk
  by_cases f:Q0n a p=true
  ·obtain ⟨r,B,x,y⟩:=Q2k.1 f
   have n:=Q45 k a;have v:=QgH (Q1U k a) p n.1 n.2 x y;have t:=Q45 k (bits .xor .i64 (Q1U k a) p);have g:=Q01 (show Q1U k (bits .xor .i64 (Q1U k a) p) / 7 % 8=Q0S k a p by rw [Q0S,if_pos ⟨h,h2,f⟩];rfl)
   have u:Q2W k a=Q1U k a:=by rw [Q2W,if_pos ⟨h,h2,r,by omega⟩]
   go_enter Tryz.func91,Tryz.ntmps91
   go_wp2_with (first|(go_at_call 115;refine (Q0X k _).mono ?_;rw [hk];rintro e c ⟨rfl,rfl⟩)|(go_at_call 53;refine (f ▸ Q0R a p _).mono ?_;rintro e c ⟨rfl,d⟩;obtain ⟨s,f⟩:=Q21 d;have m:w.heap.size < c.heap.size:=(by have l:=d.size;(try simp at l);omega);have b:Below w.heap.size w c:=(by refine Below.trans ?_ (d.mono (by have hs:=b.size;(try simp) <;> omega));(repeat (first|with_reducible (first|exact b|exact Below.refl _ _|refine Below.drew ?_|refine below_drewN ?_ _|refine Below.alloc ?_ ?_ _|refine Below.setCell ?_ ?_ _)|(focus (simp;first|done|omega))|omega)))))
   go_quiet (exact Q5P (u ▸ Q4W k a _))
   go_wp2_with (go_at_call 141;refine (Q7c k (bits .xor .i64 (Q1U k a) p) _ h h2 v.1 (by omega)).mono ?_;rintro e A ⟨rfl,rfl⟩);go_ret;exact ⟨Q0Q g.out,by (repeat (first|with_reducible (first|exact b|exact Below.refl _ _|refine Below.drew ?_|refine below_drewN ?_ _|refine Below.alloc ?_ ?_ _|refine Below.setCell ?_ ?_ _)|(focus (simp;first|done|omega))|omega))⟩
  ·have g:=Q01 (show -1=Q0S k a p by rw [Q0S,if_neg (fun q=> f q.2.2)])
   have i:Q0n a p=false:=by simpa using f
   go_enter Tryz.func91,Tryz.ntmps91
   go_wp2_with (first|(go_at_call 115;refine (Q0X k _).mono ?_;rw [hk];rintro e c ⟨rfl,rfl⟩)|(go_at_call 53;refine (i ▸ Q0R a p _).mono ?_;rintro e c ⟨rfl,d⟩;obtain ⟨s,f⟩:=Q21 d;have m:w.heap.size < c.heap.size:=(by have l:=d.size;(try simp at l);omega);have b:Below w.heap.size w c:=(by refine Below.trans ?_ (d.mono (by have hs:=b.size;(try simp) <;> omega));(repeat (first|with_reducible (first|exact b|exact Below.refl _ _|refine Below.drew ?_|refine below_drewN ?_ _|refine Below.alloc ?_ ?_ _|refine Below.setCell ?_ ?_ _)|(focus (simp;first|done|omega))|omega)))));go_ret
   exact ⟨Q0Q g.out,by (repeat (first|with_reducible (first|exact b|exact Below.refl _ _|refine Below.drew ?_|refine below_drewN ?_ _|refine Below.alloc ?_ ?_ _|refine Below.setCell ?_ ?_ _)|(focus (simp;first|done|omega))|omega))⟩
 ·have g:=Q01 (show -1=Q0S k a p by rw [Q0S,if_neg (fun q=> hk (Q3i.2 ⟨q.1,q.2.1⟩))])
  have j:Q1A k=false:=by simpa using hk
  go_enter Tryz.func91,Tryz.ntmps91;go_wp2_with (go_at_call 115;refine (Q0X k _).mono ?_;rw [j];rintro e c ⟨rfl,rfl⟩);go_ret;exact ⟨Q0Q g.out,by (repeat (first|with_reducible (first|exact b|exact Below.refl _ _|refine Below.drew ?_|refine below_drewN ?_ _|refine Below.alloc ?_ ?_ _|refine Below.setCell ?_ ?_ _)|(focus (simp;first|done|omega))|omega))⟩
end Go.Proofs.YtpneolgdghbinaaGreat
