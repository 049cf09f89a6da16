/- Several texts in one: SScore, SDraw. -/
import Derived.Test.YtpneolgdghbinaaGreatQLearnsL10
import Derived.Test.YtpneolgdghbinaaGreatQLearnsL19
namespace Go.Proofs.YtpneolgdghbinaaGreat
open Go.ChangeShapes Go.WideShapes Go.ChangeAt Go.RowKit Go.Joins
set_option linter.unusedVariables false
set_option linter.unusedSimpArgs false
set_option maxRecDepth 100000
set_option maxHeartbeats 40000000
def Q2a (k b i g:Int):Int:=Q1W k (b * 64+i) / 128 * g
theorem QaU (k b i g:Int) (h:0≤g) (h2:g≤100):0≤Q2a k b i g∧Q2a k b i g≤1677721600:=by
 have d:=Q3T k (b * 64+i);unfold Q2a;generalize hq:Q1W k (b * 64+i) / 128=q
 have a:0≤q:=by omega
 have c:q≤16777215:=by omega
 constructor
 ·exact Int.mul_nonneg a h
 ·have:=Int.mul_le_mul c h2 h (by decide)
  omega
def Q2f (k b i g:Int):Int:=if Q1P k=true∧(0≤b∧b < 8)∧Q3X i g=true then Q2a k b i g else -1
theorem Q2y (n:Int) (w:World):Calls Tryz.prog 143 #[.int .i64 n] w fun e a=> e=.returned (.bool (decide (0≤n) && decide (n < 8)))∧w=a:=by
 go_enter Tryz.func143,Tryz.ntmps143;go_wp2
 all_goals go_ret
 all_goals refine ⟨?_,rfl⟩
 all_goals first|(simp [*];done)|(simp;omega)
theorem Qbl (k b i g:Int) (d:Bool) (w:World) (m:0≤k) (h2:k < 1000000) (b0:0≤b) (r:b < 8) (n:0≤i) (p:i < 6) (a:0≤g) (l:g≤100):
  Calls Tryz.prog 177 #[.int .i64 k,.int .i64 b,back i g d] w fun e f=> e=.returned (.int .i64 (Q2a k b i g))∧Below w.heap.size w f:=by
 have c:Below w.heap.size w w:=Below.refl _ _;have q:=Q3T k (b * 64+i);have hs:=QaU k b i g a l;have h:=Q01 (show Q1W k (b * 64+i) / 128 * g=Q2a k b i g from rfl);have j:0≤Q1W k (b * 64+i) / 128 * g∧Q1W k (b * 64+i) / 128 * g≤1677721600:=hs;clear hs;go_enter Tryz.func177,Tryz.ntmps177;go_wp2_with fail
 go_quiet (exact Q5E (Q61 k (b * 64+i) _ m h2 (by omega) (by omega)))
 go_wp2;go_ret;exact ⟨Q0L h.out,by (repeat (first|with_reducible (first|exact c|exact Below.refl _ _|refine Below.drew ?_|refine below_drewN ?_ _|refine Below.alloc ?_ ?_ _|refine Below.setCell ?_ ?_ _)|(focus (simp;first|done|omega))|omega))⟩
theorem Q8X (k b i g:Int) (d:Bool) (w:World):
  Calls Tryz.prog 192 #[.int .i64 k,.int .i64 b,back i g d] w fun e y=> e=.returned (.int .i64 (Q2f k b i g))∧Below w.heap.size w y:=by
 have f:Below w.heap.size w w:=Below.refl _ _
 by_cases hk:Q1P k=true
 ·by_cases c:0≤b∧b < 8
  ·have h:(decide (0≤b) && decide (b < 8))=true:=by simp [c]
   by_cases hg:Q3X i g=true
   ·obtain ⟨z,A,B,x⟩:=Q5m.1 hg
    obtain ⟨r,h2⟩:=Q3g.1 hk;have C:=Q3T k (64 * b+i);have hs:=QaU k b i g (by omega) x
    have u:Q2S k (64 * b+i)=Q1W k (64 * b+i):=by rw [Q2S,if_pos ⟨r,h2,by omega,by omega⟩]
    have j:=Q01 (show Q1W k (64 * b+i) / 128 * g=Q2f k b i g by rw [Q2f,if_pos ⟨hk,c,hg⟩,Q2a,Int.mul_comm b 64])
    have v:0≤Q1W k (64 * b+i) / 128 * g∧Q1W k (64 * b+i) / 128 * g≤1677721600:=by have:=hs;rw [Q2a,Int.mul_comm b 64] at this;exact this
    clear hs;go_enter Tryz.func192,Tryz.ntmps192
    go_wp2_with (first|(go_at_call 115;refine (Q10 k _).mono ?_;rw [hk];rintro e a ⟨rfl,rfl⟩)|(go_at_call 143;refine (Q2y b _).mono ?_;rw [h];rintro e a ⟨rfl,rfl⟩)|(go_at_call 186;refine (hg ▸ Q2q i g d _).mono ?_;rintro e a ⟨rfl,c⟩;obtain ⟨t,s⟩:=Q23 c;have l:w.heap.size < a.heap.size:=(by have m:=c.size;(try simp at m);omega);have f:Below w.heap.size w a:=(by refine Below.trans ?_ (c.mono (by have hs:=f.size;(try simp) <;> omega));(repeat (first|with_reducible (first|exact f|exact Below.refl _ _|refine Below.drew ?_|refine below_drewN ?_ _|refine Below.alloc ?_ ?_ _|refine Below.setCell ?_ ?_ _)|(focus (simp;first|done|omega))|omega)))))
    go_quiet (exact Q5E (u ▸ Q52 k (64 * b+i) _))
    go_wp2;go_ret;exact ⟨Q0L j.out,by (repeat (first|with_reducible (first|exact f|exact Below.refl _ _|refine Below.drew ?_|refine below_drewN ?_ _|refine Below.alloc ?_ ?_ _|refine Below.setCell ?_ ?_ _)|(focus (simp;first|done|omega))|omega))⟩
   ·have p:Q3X i g=false:=by simpa using hg
    have j:=Q01 (show -1=Q2f k b i g by rw [Q2f,if_neg (fun q=> hg q.2.2)]);go_enter Tryz.func192,Tryz.ntmps192
    go_wp2_with (first|(go_at_call 115;refine (Q10 k _).mono ?_;rw [hk];rintro e a ⟨rfl,rfl⟩)|(go_at_call 143;refine (Q2y b _).mono ?_;rw [h];rintro e a ⟨rfl,rfl⟩)|(go_at_call 186;refine (p ▸ Q2q i g d _).mono ?_;rintro e a ⟨rfl,c⟩;obtain ⟨t,s⟩:=Q23 c;have l:w.heap.size < a.heap.size:=(by have m:=c.size;(try simp at m);omega);have f:Below w.heap.size w a:=(by refine Below.trans ?_ (c.mono (by have hs:=f.size;(try simp) <;> omega));(repeat (first|with_reducible (first|exact f|exact Below.refl _ _|refine Below.drew ?_|refine below_drewN ?_ _|refine Below.alloc ?_ ?_ _|refine Below.setCell ?_ ?_ _)|(focus (simp;first|done|omega))|omega)))))
    go_ret;exact ⟨Q0L j.out,by (repeat (first|with_reducible (first|exact f|exact Below.refl _ _|refine Below.drew ?_|refine below_drewN ?_ _|refine Below.alloc ?_ ?_ _|refine Below.setCell ?_ ?_ _)|(focus (simp;first|done|omega))|omega))⟩
  ·have h:(decide (0≤b) && decide (b < 8))=false:=by simpa using c
   have j:=Q01 (show -1=Q2f k b i g by rw [Q2f,if_neg (fun q=> c q.2.1)]);go_enter Tryz.func192,Tryz.ntmps192;go_wp2_with (first|(go_at_call 115;refine (Q10 k _).mono ?_;rw [hk];rintro e a ⟨rfl,rfl⟩)|(go_at_call 143;refine (Q2y b _).mono ?_;rw [h];rintro e a ⟨rfl,rfl⟩));go_ret;exact ⟨Q0L j.out,by (repeat (first|with_reducible (first|exact f|exact Below.refl _ _|refine Below.drew ?_|refine below_drewN ?_ _|refine Below.alloc ?_ ?_ _|refine Below.setCell ?_ ?_ _)|(focus (simp;first|done|omega))|omega))⟩
 ·have n:Q1P k=false:=by simpa using hk
  have j:=Q01 (show -1=Q2f k b i g by rw [Q2f,if_neg (fun q=> hk q.1)]);go_enter Tryz.func192,Tryz.ntmps192;go_wp2_with (first|(go_at_call 115;refine (Q10 k _).mono ?_;rw [n];rintro e a ⟨rfl,rfl⟩));go_ret;exact ⟨Q0L j.out,by (repeat (first|with_reducible (first|exact f|exact Below.refl _ _|refine Below.drew ?_|refine below_drewN ?_ _|refine Below.alloc ?_ ?_ _|refine Below.setCell ?_ ?_ _)|(focus (simp;first|done|omega))|omega))⟩
structure Cur (k:Nat) (w:World) (o:Option Addr) (cap:Nat) (l:List Int) (i h:Int):Prop where
 c0:w.cell? ⟨k,0,none⟩=some (.slice o l.length cap)
 c1:w.cell? ⟨k,1,none⟩=some (.int .i64 i)
 c2:w.cell? ⟨k,2,none⟩=some (.int .i64 h)
 f1:w.frozen? ⟨k,1,none⟩=false
 f2:w.frozen? ⟨k,2,none⟩=false
 ml:l.length≤maxLen
 rd:RdB k w o l
 b8:isB l
 i0:0≤i
 i1:i≤l.length
def isCur (k:Nat) (w:World):Prop:=∃o cap l i h,Cur k w o cap l i h
theorem QfJ (n:Int):0≤bits .and .i64 n 255∧bits .and .i64 n 255≤255:=by
 have a:(BitVec.ofInt 64 255).toNat=2 ^ 8 - 1:=by decide
 have key:(BitVec.ofInt 64 n &&& BitVec.ofInt 64 255).toNat=(n % ((2 ^ 64:Nat):Int)).toNat % 2 ^ 8:=by
  rw [BitVec.toNat_and,BitVec.toNat_ofInt,a,Nat.and_two_pow_sub_one_eq_mod]
 have e:bits .and .i64 n 255=IntKind.i64.wrap ((BitVec.ofInt 64 n &&& BitVec.ofInt 64 255).toNat:Nat):=rfl;rw [e,key,wrap_i64 _ (by omega) (by omega)];omega
theorem Cur.set2 {k:Nat} {w:World} {o:Option Addr} {cap:Nat} {l:List Int} {i h:Int} (c:Cur k w o cap l i h) (a:Int):Cur k (w.setCell ⟨k,2,none⟩ (.int .i64 a)) o cap l i a∧w.grownBy (w.setCell ⟨k,2,none⟩ (.int .i64 a)) (some k):=by
 have d:Below k w (w.setCell ⟨k,2,none⟩ (.int .i64 a)):=Below.setCell (p:=⟨k,2,none⟩) (Below.refl _ _) (Kaq _) _;refine ⟨⟨?_, ?_,World.cell?_setCell_same w _ _ c.c2, ?_, ?_,c.ml,c.rd.kept d (Kaq _),c.b8,c.i0,c.i1⟩, ?_⟩
 ·exact (World.cell?_setCell_other w _ _ _ (by simp)).trans c.c0
 ·exact (World.cell?_setCell_other w _ _ _ (by simp)).trans c.c1
 ·simpa using c.f1
 ·simpa using c.f2
 ·exact ⟨rfl,rfl,rfl,by simp,fun j _ b=> Below.heap_setCell w _ _ j (fun e=> b (by simp [e]))⟩
theorem Cur.set1 {k:Nat} {w:World} {o:Option Addr} {cap:Nat} {l:List Int} {i h:Int} (c:Cur k w o cap l i h) (a:Int) (d:0≤a) (g:a≤l.length):Cur k (w.setCell ⟨k,1,none⟩ (.int .i64 a)) o cap l a h∧w.grownBy (w.setCell ⟨k,1,none⟩ (.int .i64 a)) (some k):=by
 have f:Below k w (w.setCell ⟨k,1,none⟩ (.int .i64 a)):=Below.setCell (p:=⟨k,1,none⟩) (Below.refl _ _) (Kaq _) _;refine ⟨⟨?_,World.cell?_setCell_same w _ _ c.c1, ?_, ?_, ?_,c.ml,c.rd.kept f (Kaq _),c.b8,d,g⟩, ?_⟩
 ·exact (World.cell?_setCell_other w _ _ _ (by simp)).trans c.c0
 ·exact (World.cell?_setCell_other w _ _ _ (by simp)).trans c.c2
 ·simpa using c.f1
 ·simpa using c.f2
 ·exact ⟨rfl,rfl,rfl,by simp,fun j _ b=> Below.heap_setCell w _ _ j (fun e=> b (by simp [e]))⟩
theorem Cur.drewN {k:Nat} {w:World} {o:Option Addr} {cap:Nat} {l:List Int} {i h:Int} (c:Cur k w o cap l i h) (n:Nat):Cur k (w.drewN n) o cap l i h:=⟨c.c0,c.c1,c.c2,c.f1,c.f2,c.ml,c.rd,c.b8,c.i0,c.i1⟩
theorem Q49 {w w':World} {r:Option Nat} (h:w.grownBy w' r) (n:Nat):w.grownBy (w'.drewN n) r:=⟨h.os,h.tape,h.output,h.size,h.block⟩
theorem Q05 {a b c:World} {r:Option Nat} (h:a.grownBy b r) (k:b.grownBy c r):a.grownBy c r:=
 ⟨k.os.trans h.os,k.tape.trans h.tape,k.output.trans h.output,Kdq h.size k.size,fun i hi d=> (k.block i (Kbq hi h.size) d).trans (h.block i hi d)⟩
theorem Q2H (k:Nat) (w:World) (A:isCur k w):
  Calls Tryz.prog 132 #[.pointer (some ⟨k,0,none⟩)] w fun e v=> ∃x:Int,e=.returned (.int .i64 x)∧0≤x∧x≤255∧isCur k v∧w.grownBy v (some k):=by
 obtain ⟨o,cap,l,i,h,c⟩:=A;have z:=c.c0;have r:=c.c1;have c2:=c.c2;have s:=c.f1;have u:=c.f2;go_enter Tryz.func132,Tryz.ntmps132;go_wp2;generalize wrap64 (wrap64 (h * 6364136223846793005)+1442695040888963407)=h1 at *;obtain ⟨d,g⟩:=c.set2 h1;clear c z r c2 s u;generalize w.setCell ⟨k,2,none⟩ (.int .i64 h1)=w1 at *;have z:=d.c0;have r:=d.c1;have c2:=d.c2;have s:=d.f1;have u:=d.f2;have n:=Q01 d;have t:=Q01 g;have B:=d.i0;have G:=d.i1;have C:=d.ml;unfold maxLen at C;clear d g;obtain ⟨j,rfl⟩:=Int.eq_ofNat_of_zero_le B
 by_cases hlt:j < l.length
 ·rcases n.out.rd with D|⟨b,off,rfl,E,a⟩
  ·subst D;simp at hlt
  have A:=a j hlt;have F:=n.out.b8.get j;generalize l.getD j 0=y at *
  have p:(j:Int) < (l.length:Int):=by omega
  clear a
  go_quiet (fail)
  go_wp2;have q:=QfJ (bits .xor .i64 (h1 / 8589934592) (h1 / 35184372088832));generalize bits .and .i64 (bits .xor .i64 (h1 / 8589934592) (h1 / 35184372088832)) 255=x0 at *
  go_quiet (fail)
  go_wp2
  go_quiet (fail)
  go_wp2;have f:=QfJ (x0+y);go_ret
  have m:(j:Int)+1≤(l.length:Int):=by omega
  refine ⟨_,rfl,f.1,f.2, ?_, ?_⟩
  ·exact ⟨_,_,_,_,_,(Cur.set1 (n.out.drewN _) ((j:Int)+1) (by omega) m).1⟩
  ·exact Q05 (Q49 t.out _) (Cur.set1 (n.out.drewN _) ((j:Int)+1) (by omega) m).2
 ·have p:¬(j:Int) < (l.length:Int):=by omega
  go_quiet (fail)
  go_wp2;have q:=QfJ (bits .xor .i64 (h1 / 8589934592) (h1 / 35184372088832));generalize bits .and .i64 (bits .xor .i64 (h1 / 8589934592) (h1 / 35184372088832)) 255=x0 at *
  go_quiet (fail)
  go_wp2;go_ret;refine ⟨_,rfl,q.1,q.2, ?_, ?_⟩
  ·exact ⟨_,_,_,_,_,(n.out.drewN _).drewN _⟩
  ·exact Q49 (Q49 t.out _) _
theorem Q0p (k:Nat) (n:Int) (w:World) (j:isCur k w) (r:0 < n) (I:n≤1073741824):
  Calls Tryz.prog 80 #[.pointer (some ⟨k,0,none⟩),.int .i64 n] w fun e s=> ∃x:Int,e=.returned (.int .i64 x)∧0≤x∧x < n∧isCur k s∧w.grownBy s (some k):=by
 by_cases hn:n≤256
 ·go_enter Tryz.func80,Tryz.ntmps80
  go_wp2_with fail;refine (Q2H k _ j).mono ?_;rintro e B ⟨x,rfl,q,p,a,b⟩;have m:=Q01 a;have l:=Q01 b;clear j a b;go_wp2;go_ret;exact ⟨_,rfl,Int.emod_nonneg _ (by omega),Int.emod_lt_of_pos _ r,m.out,l.out⟩
 ·go_enter Tryz.func80,Tryz.ntmps80
  go_wp2_with fail;refine (Q2H k _ j).mono ?_;rintro e B ⟨x,rfl,q,p,a,b⟩;go_wp2_with fail;refine (Q2H k _ a).mono ?_;rintro e F ⟨y,rfl,u,D,h,i⟩;go_wp2_with fail;refine (Q2H k _ h).mono ?_;rintro e G ⟨z,rfl,v,A,d,g⟩;go_wp2_with fail;refine (Q2H k _ d).mono ?_;rintro e H ⟨t,rfl,C,E,f,c⟩;have m:=Q01 f;have l:=Q01 (Q05 (Q05 (Q05 b i) g) c);clear j a h d f b i g c;go_wp2;go_ret;exact ⟨_,rfl,Int.emod_nonneg _ (by omega),Int.emod_lt_of_pos _ r,m.out,l.out⟩
theorem Qfr (o:Option Addr) (cap:Nat) (l:List Int) (n:Int) (w:World) (e:TypeId) (b:Rd w o l) (a:isB l) (hm:l.length≤maxLen):isCur w.heap.size (w.alloc (.cells #[.slice o l.length cap,.int .i64 0,.int .i64 n] e)):=
 ⟨o,cap,l,0,n,⟨by simp,by simp,by simp,by simp,by simp,hm,b.toB.kept ((Below.refl w.heap.size w).alloc (Kaq _) _) (Kaq _),a,by omega,by omega⟩⟩
theorem QdU (o:Option Addr) (cap:Nat) (l:List Int) (w:World) (d:Rd w o l) (c:isB l) (hm:l.length≤maxLen):
  Calls Tryz.prog 34 #[.slice o l.length cap] w fun e f=> e=.returned (.pointer (some ⟨w.heap.size,0,none⟩))∧isCur w.heap.size f∧Below w.heap.size w f∧w.heap.size < f.heap.size:=by
 have g:=Q01 hm;unfold maxLen at hm;go_enter Tryz.func34,Tryz.ntmps34;go_wp2
 go_loop [3,4] (fun h i=> ∃(n:Int) (j:Nat),j≤l.length∧i=.int .i64 j∧h=.int .i64 n)
  (fun _ i=> l.length - (intOf i).toNat)
 case atStart=> exact ⟨_,0,Kcq _,rfl,rfl⟩
 case round=>
  obtain ⟨n,j,p,rfl,rfl⟩:=hrel
  by_cases hlt:j < l.length
  ·by_cases h4:j < 4000
   ·rcases d with d|⟨b,off,rfl,k,a⟩
    ·subst d;simp at hlt
    have q:=a j hlt;have m:=c.get j;generalize l.getD j 0=y at *;clear a;go_wp2
    go_round
    case rel=> exact ⟨_,j+1,by omega,by go_num,rfl⟩
    case measure=> simp [intOf];omega
   ·go_wp2
    go_ret;exact ⟨rfl,Qfr o cap l _ w _ d c g.out,(Below.refl _ _).alloc (Kaq _) _,by simp⟩
  ·go_wp2
   go_ret;exact ⟨rfl,Qfr o cap l _ w _ d c g.out,(Below.refl _ _).alloc (Kaq _) _,by simp⟩
end Go.Proofs.YtpneolgdghbinaaGreat
