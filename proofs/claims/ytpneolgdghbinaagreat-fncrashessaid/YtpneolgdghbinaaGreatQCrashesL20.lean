/- Several texts in one: SScore, SDraw. -/
import Derived.Test.YtpneolgdghbinaaGreatQCrashesL10
import Derived.Test.YtpneolgdghbinaaGreatQCrashesL19
namespace Go.Proofs.YtpneolgdghbinaaGreat
open Go.ChangeShapes Go.WideShapes Go.ChangeAt Go.RowKit Go.Joins
set_option linter.unusedVariables false
set_option linter.unusedSimpArgs false
set_option maxRecDepth 100000
set_option maxHeartbeats 40000000
def Q1Y (k b i g:Int):Int:=Q2p k (b * 64+i) / 128 * g
theorem QaN (k b i g:Int) (h:0<=g) (h2:g<=100):0<=Q1Y k b i g/\Q1Y k b i g<=1677721600:=by
 have d:=Q5M k (b * 64+i);unfold Q1Y;generalize hq:Q2p k (b * 64+i) / 128=q
 have a:0<=q:=by omega
 have c:q<=16777215:=by omega
 constructor
 ·exact Int.mul_nonneg a h
 ·have:=Int.mul_le_mul c h2 h (by decide)
  omega
def Q1X (k b i g:Int):Int:=if Q1D k=true/\(0<=b/\b < 8)/\Q3K i g=true then Q1Y k b i g else -1
theorem Q2l (n:Int) (w:World):Calls Tryz.prog 143 #[.int .i64 n] w fun e a=>e=.returned (.bool (decide (0<=n) && decide (n < 8)))/\w=a:=by
 go_enter Tryz.func143,Tryz.ntmps143;go_wp2
 all_goals go_ret
 all_goals refine⟨?_,rfl⟩
 all_goals first|(simp[*];done)|(simp;omega)
theorem Qb4 (k b i g:Int) (d:Bool) (w:World) (h:0<=k) (h2:k < 1000000) (b0:0<=b) (n:b < 8) (q:0<=i) (r:i < 6) (c:0<=g) (f:g<=100):
  Calls Tryz.prog 177 #[.int .i64 k,.int .i64 b,back i g d] w fun e m=>e=.returned (.int .i64 (Q1Y k b i g))/\Below w.heap.size w m:=by
 have j:Below w.heap.size w w:=KBq;have p:=Q5M k (b * 64+i);have hs:=QaN k b i g c f;have a:=Q02 (show Q2p k (b * 64+i) / 128 * g=Q1Y k b i g from rfl);have l:0<=Q2p k (b * 64+i) / 128 * g/\Q2p k (b * 64+i) / 128 * g<=1677721600:=hs;clear hs;go_enter Tryz.func177,Tryz.ntmps177;go_wp2_with fail
 go_quiet (exact Q9K (Qdg k (b * 64+i) _ h h2 (by omega) (by omega)))
 go_wp2;go_ret;exact⟨Q0W a.out,by(repeat (first|with_reducible (first|exact j|exact KBq|refine KHq ?_|refine below_drewN ?_ _|refine KOq ?_ ?_ _|refine KNq ?_ ?_ _)|(focus (simp;first|done|omega))|omega))⟩
theorem Q9n (k b i g:Int) (d:Bool) (w:World):
  Calls Tryz.prog 192 #[.int .i64 k,.int .i64 b,back i g d] w fun e y=>e=.returned (.int .i64 (Q1X k b i g))/\Below w.heap.size w y:=by
 have f:Below w.heap.size w w:=KBq
 by_cases hk:Q1D k=true
 ·by_cases a:0<=b/\b < 8
  ·have h:(decide (0<=b) && decide (b < 8))=true:=by simp[a]
   by_cases hg:Q3K i g=true
   ·obtain⟨B,C,z,r⟩:=Q5L.1 hg
    obtain⟨s,h2⟩:=Q4F.1 hk;have A:=Q5M k (64 * b+i);have hs:=QaN k b i g (by omega) r
    have v:Q2H k (64 * b+i)=Q2p k (64 * b+i):=by rw[Q2H,if_pos ⟨s,h2,by omega,by omega⟩]
    have j:=Q02 (show Q2p k (64 * b+i) / 128 * g=Q1X k b i g by rw[Q1X,if_pos ⟨hk,a,hg⟩,Q1Y,Int.mul_comm b 64])
    have x:0<=Q2p k (64 * b+i) / 128 * g/\Q2p k (64 * b+i) / 128 * g<=1677721600:=by have:=hs;rw[Q1Y,Int.mul_comm b 64]at this;exact this
    clear hs;go_enter Tryz.func192,Tryz.ntmps192
    go_wp2_with (first|(go_at_call 115;refine(Q0T k _).mono ?_;rw[hk];rintro e c ⟨rfl,rfl⟩)|(go_at_call 143;refine(Q2l b _).mono ?_;rw[h];rintro e c ⟨rfl,rfl⟩)|(go_at_call 186;refine(hg ▸ Q2a i g d _).mono ?_;rintro e c ⟨rfl,a⟩;obtain⟨t,u⟩:=Q3L a;have p:w.heap.size < c.heap.size:=(by have n:=a.size;(try simp at n);omega);have f:Below w.heap.size w c:=(by refine Below.trans ?_ (a.mono (by have hs:=f.size;(try simp) <;> omega));(repeat (first|with_reducible (first|exact f|exact KBq|refine KHq ?_|refine below_drewN ?_ _|refine KOq ?_ ?_ _|refine KNq ?_ ?_ _)|(focus (simp;first|done|omega))|omega)))))
    go_quiet (exact Q9K (v ▸ Q4Z k (64 * b+i) _))
    go_wp2;go_ret;exact⟨Q0W j.out,by(repeat (first|with_reducible (first|exact f|exact KBq|refine KHq ?_|refine below_drewN ?_ _|refine KOq ?_ ?_ _|refine KNq ?_ ?_ _)|(focus (simp;first|done|omega))|omega))⟩
   ·have l:Q3K i g=false:=by simpa using hg
    have j:=Q02 (show -1=Q1X k b i g by rw[Q1X,if_neg (fun q=>hg q.2.2)]);go_enter Tryz.func192,Tryz.ntmps192
    go_wp2_with (first|(go_at_call 115;refine(Q0T k _).mono ?_;rw[hk];rintro e c ⟨rfl,rfl⟩)|(go_at_call 143;refine(Q2l b _).mono ?_;rw[h];rintro e c ⟨rfl,rfl⟩)|(go_at_call 186;refine(l ▸ Q2a i g d _).mono ?_;rintro e c ⟨rfl,a⟩;obtain⟨t,u⟩:=Q3L a;have p:w.heap.size < c.heap.size:=(by have n:=a.size;(try simp at n);omega);have f:Below w.heap.size w c:=(by refine Below.trans ?_ (a.mono (by have hs:=f.size;(try simp) <;> omega));(repeat (first|with_reducible (first|exact f|exact KBq|refine KHq ?_|refine below_drewN ?_ _|refine KOq ?_ ?_ _|refine KNq ?_ ?_ _)|(focus (simp;first|done|omega))|omega)))))
    go_ret;exact⟨Q0W j.out,by(repeat (first|with_reducible (first|exact f|exact KBq|refine KHq ?_|refine below_drewN ?_ _|refine KOq ?_ ?_ _|refine KNq ?_ ?_ _)|(focus (simp;first|done|omega))|omega))⟩
  ·have h:(decide (0<=b) && decide (b < 8))=false:=by simpa using a
   have j:=Q02 (show -1=Q1X k b i g by rw[Q1X,if_neg (fun q=>a q.2.1)]);go_enter Tryz.func192,Tryz.ntmps192;go_wp2_with (first|(go_at_call 115;refine(Q0T k _).mono ?_;rw[hk];rintro e c ⟨rfl,rfl⟩)|(go_at_call 143;refine(Q2l b _).mono ?_;rw[h];rintro e c ⟨rfl,rfl⟩));go_ret;exact⟨Q0W j.out,by(repeat (first|with_reducible (first|exact f|exact KBq|refine KHq ?_|refine below_drewN ?_ _|refine KOq ?_ ?_ _|refine KNq ?_ ?_ _)|(focus (simp;first|done|omega))|omega))⟩
 ·have m:Q1D k=false:=by simpa using hk
  have j:=Q02 (show -1=Q1X k b i g by rw[Q1X,if_neg (fun q=>hk q.1)]);go_enter Tryz.func192,Tryz.ntmps192;go_wp2_with (first|(go_at_call 115;refine(Q0T k _).mono ?_;rw[m];rintro e c ⟨rfl,rfl⟩));go_ret;exact⟨Q0W j.out,by(repeat (first|with_reducible (first|exact f|exact KBq|refine KHq ?_|refine below_drewN ?_ _|refine KOq ?_ ?_ _|refine KNq ?_ ?_ _)|(focus (simp;first|done|omega))|omega))⟩
structure Cur (k:Nat) (w:World) (o:Option Addr) (cap:Nat) (l:List Int) (i h:Int):Prop where
 c0:w.cell? ⟨k,0,none⟩=some (.slice o l.length cap)
 c1:w.cell? ⟨k,1,none⟩=some (.int .i64 i)
 c2:w.cell? ⟨k,2,none⟩=some (.int .i64 h)
 f1:w.frozen? ⟨k,1,none⟩=false
 f2:w.frozen? ⟨k,2,none⟩=false
 ml:l.length<=maxLen
 rd:RdB k w o l
 b8:isB l
 i0:0<=i
 i1:i<=l.length
def isCur (k:Nat) (w:World):Prop:=∃o cap l i h,Cur k w o cap l i h
theorem QeO (n:Int):0<=bits .and .i64 n 255/\bits .and .i64 n 255<=255:=by
 have a:(BitVec.ofInt 64 255).toNat=2 ^ 8 - 1:=by decide
 have key:(BitVec.ofInt 64 n &&& BitVec.ofInt 64 255).toNat=(n % ((2 ^ 64:Nat):Int)).toNat % 2 ^ 8:=by
  rw[BitVec.toNat_and,BitVec.toNat_ofInt,a,Nat.and_two_pow_sub_one_eq_mod]
 have e:bits .and .i64 n 255=IntKind.i64.wrap ((BitVec.ofInt 64 n &&& BitVec.ofInt 64 255).toNat:Nat):=rfl;rw[e,key,wrap_i64 _ (by omega) (by omega)];omega
theorem Cur.set2 {k:Nat} {w:World} {o:Option Addr} {cap:Nat} {l:List Int} {i h:Int} (c:Cur k w o cap l i h) (a:Int):Cur k (w.setCell ⟨k,2,none⟩ (.int .i64 a)) o cap l i a/\w.grownBy (w.setCell ⟨k,2,none⟩ (.int .i64 a)) (some k):=by
 have b:Below k w (w.setCell ⟨k,2,none⟩ (.int .i64 a)):=KNq (p:=⟨k,2,none⟩) KBq (Kaq _) _;refine⟨⟨?_, ?_,World.cell?_setCell_same w _ _ c.c2, ?_, ?_,c.ml,c.rd.kept b (Kaq _),c.b8,c.i0,c.i1⟩, ?_⟩
 ·exact(World.cell?_setCell_other w _ _ _ (by simp)).trans c.c0
 ·exact(World.cell?_setCell_other w _ _ _ (by simp)).trans c.c1
 ·simpa using c.f1
 ·simpa using c.f2
 ·exact⟨rfl,rfl,rfl,by simp,fun j _ d=>Below.heap_setCell w _ _ j (fun e=>d (by simp[e]))⟩
theorem Cur.set1 {k:Nat} {w:World} {o:Option Addr} {cap:Nat} {l:List Int} {i h:Int} (c:Cur k w o cap l i h) (a:Int) (b:0<=a) (d:a<=l.length):Cur k (w.setCell ⟨k,1,none⟩ (.int .i64 a)) o cap l a h/\w.grownBy (w.setCell ⟨k,1,none⟩ (.int .i64 a)) (some k):=by
 have f:Below k w (w.setCell ⟨k,1,none⟩ (.int .i64 a)):=KNq (p:=⟨k,1,none⟩) KBq (Kaq _) _;refine⟨⟨?_,World.cell?_setCell_same w _ _ c.c1, ?_, ?_, ?_,c.ml,c.rd.kept f (Kaq _),c.b8,b,d⟩, ?_⟩
 ·exact(World.cell?_setCell_other w _ _ _ (by simp)).trans c.c0
 ·exact(World.cell?_setCell_other w _ _ _ (by simp)).trans c.c2
 ·simpa using c.f1
 ·simpa using c.f2
 ·exact⟨rfl,rfl,rfl,by simp,fun j _ g=>Below.heap_setCell w _ _ j (fun e=>g (by simp[e]))⟩
theorem Cur.drewN {k:Nat} {w:World} {o:Option Addr} {cap:Nat} {l:List Int} {i h:Int} (c:Cur k w o cap l i h) (n:Nat):Cur k (w.drewN n) o cap l i h:=⟨c.c0,c.c1,c.c2,c.f1,c.f2,c.ml,c.rd,c.b8,c.i0,c.i1⟩
theorem Q3S {w w':World} {r:Option Nat} (h:w.grownBy w' r) (n:Nat):w.grownBy (w'.drewN n) r:=⟨h.os,h.tape,h.output,h.size,h.block⟩
theorem Q0m {a b c:World} {r:Option Nat} (h:a.grownBy b r) (k:b.grownBy c r):a.grownBy c r:=
 ⟨k.os.trans h.os,k.tape.trans h.tape,k.output.trans h.output,Kdq h.size k.size,fun i hi d=>(k.block i (Kbq hi h.size) d).trans (h.block i hi d)⟩
theorem Q3E (k:Nat) (w:World) (z:isCur k w):
  Calls Tryz.prog 132 #[.pointer (some ⟨k,0,none⟩)] w fun e A=> ∃x:Int,e=.returned (.int .i64 x)/\0<=x/\x<=255/\isCur k A/\w.grownBy A (some k):=by
 obtain⟨o,cap,l,i,h,c⟩:=z;have s:=c.c0;have t:=c.c1;have c2:=c.c2;have u:=c.f1;have v:=c.f2;go_enter Tryz.func132,Tryz.ntmps132;go_wp2;generalize wrap64 (wrap64 (h * 6364136223846793005)+1442695040888963407)=h1 at *;obtain⟨d,g⟩:=c.set2 h1;clear c s t c2 u v;generalize w.setCell ⟨k,2,none⟩ (.int .i64 h1)=w1 at *;have s:=d.c0;have t:=d.c1;have c2:=d.c2;have u:=d.f1;have v:=d.f2;have f:=Q02 d;have r:=Q02 g;have E:=d.i0;have G:=d.i1;have F:=d.ml;unfold maxLen at F;clear d g;obtain⟨j,rfl⟩:=Int.eq_ofNat_of_zero_le E
 by_cases hlt:j < l.length
 ·rcases f.out.rd with B|⟨b,off,rfl,D,a⟩
  ·subst B;simp at hlt
  have z:=a j hlt;have C:=f.out.b8.get j;generalize l.getD j 0=y at *
  have p:(j:Int) < (l.length:Int):=by omega
  clear a
  go_quiet (fail)
  go_wp2;have q:=QeO (bits .xor .i64 (h1 / 8589934592) (h1 / 35184372088832));generalize bits .and .i64 (bits .xor .i64 (h1 / 8589934592) (h1 / 35184372088832)) 255=x0 at *
  go_quiet (fail)
  go_wp2
  go_quiet (fail)
  go_wp2;have n:=QeO (x0+y);go_ret
  have m:(j:Int)+1<=(l.length:Int):=by omega
  refine⟨_,rfl,n.1,n.2, ?_, ?_⟩
  ·exact⟨_,_,_,_,_,(Cur.set1 (f.out.drewN _) ((j:Int)+1) (by omega) m).1⟩
  ·exact Q0m (Q3S r.out _) (Cur.set1 (f.out.drewN _) ((j:Int)+1) (by omega) m).2
 ·have p:¬(j:Int) < (l.length:Int):=by omega
  go_quiet (fail)
  go_wp2;have q:=QeO (bits .xor .i64 (h1 / 8589934592) (h1 / 35184372088832));generalize bits .and .i64 (bits .xor .i64 (h1 / 8589934592) (h1 / 35184372088832)) 255=x0 at *
  go_quiet (fail)
  go_wp2;go_ret;refine⟨_,rfl,q.1,q.2, ?_, ?_⟩
  ·exact⟨_,_,_,_,_,(f.out.drewN _).drewN _⟩
  ·exact Q3S (Q3S r.out _) _
theorem Q0t (k:Nat) (n:Int) (w:World) (j:isCur k w) (r:0 < n) (F:n<=1073741824):
  Calls Tryz.prog 80 #[.pointer (some ⟨k,0,none⟩),.int .i64 n] w fun e s=> ∃x:Int,e=.returned (.int .i64 x)/\0<=x/\x < n/\isCur k s/\w.grownBy s (some k):=by
 by_cases hn:n<=256
 ·go_enter Tryz.func80,Tryz.ntmps80
  go_wp2_with fail;refine(Q3E k _ j).mono ?_;rintro e E ⟨x,rfl,p,q,a,b⟩;have l:=Q02 a;have m:=Q02 b;clear j a b;go_wp2;go_ret;exact⟨_,rfl,Int.emod_nonneg _ (by omega),Int.emod_lt_of_pos _ r,l.out,m.out⟩
 ·go_enter Tryz.func80,Tryz.ntmps80
  go_wp2_with fail;refine(Q3E k _ j).mono ?_;rintro e E ⟨x,rfl,p,q,a,b⟩;go_wp2_with fail;refine(Q3E k _ a).mono ?_;rintro e G ⟨y,rfl,A,B,c,g⟩;go_wp2_with fail;refine(Q3E k _ c).mono ?_;rintro e H ⟨z,rfl,C,D,d,h⟩;go_wp2_with fail;refine(Q3E k _ d).mono ?_;rintro e I ⟨t,rfl,u,v,f,i⟩;have l:=Q02 f;have m:=Q02 (Q0m (Q0m (Q0m b g) h) i);clear j a c d f b g h i;go_wp2;go_ret;exact⟨_,rfl,Int.emod_nonneg _ (by omega),Int.emod_lt_of_pos _ r,l.out,m.out⟩
theorem Qe7 (o:Option Addr) (cap:Nat) (l:List Int) (n:Int) (w:World) (e:TypeId) (b:Rd w o l) (a:isB l) (hm:l.length<=maxLen):isCur w.heap.size (w.alloc (.cells #[.slice o l.length cap,.int .i64 0,.int .i64 n] e)):=
 ⟨o,cap,l,0,n,⟨by simp,by simp,by simp,by simp,by simp,hm,b.toB.kept ((Below.refl w.heap.size w).alloc (Kaq _) _) (Kaq _),a,by omega,by omega⟩⟩
theorem Q9V (o:Option Addr) (cap:Nat) (l:List Int) (w:World) (d:Rd w o l) (c:isB l) (hm:l.length<=maxLen):
  Calls Tryz.prog 34 #[.slice o l.length cap] w fun e f=>e=.returned (.pointer (some ⟨w.heap.size,0,none⟩))/\isCur w.heap.size f/\Below w.heap.size w f/\w.heap.size < f.heap.size:=by
 have g:=Q02 hm;unfold maxLen at hm;go_enter Tryz.func34,Tryz.ntmps34;go_wp2
 go_loop [3,4] (fun h i=> ∃(n:Int) (j:Nat),j<=l.length/\i=.int .i64 j/\h=.int .i64 n)
  (fun _ i=>l.length - (intOf i).toNat)
 case atStart=>exact⟨_,0,Kcq _,rfl,rfl⟩
 case round=>
  obtain⟨n,j,q,rfl,rfl⟩:=hrel
  by_cases hlt:j < l.length
  ·by_cases h4:j < 4000
   ·rcases d with d|⟨b,off,rfl,k,a⟩
    ·subst d;simp at hlt
    have p:=a j hlt;have m:=c.get j;generalize l.getD j 0=y at *;clear a;go_wp2
    go_round
    case rel=>exact⟨_,j+1,by omega,by go_num,rfl⟩
    case measure=>simp[intOf];omega
   ·go_wp2
    go_ret;exact⟨rfl,Qe7 o cap l _ w _ d c g.out,KBq.alloc (Kaq _) _,by simp⟩
  ·go_wp2
   go_ret;exact⟨rfl,Qe7 o cap l _ w _ d c g.out,KBq.alloc (Kaq _) _,by simp⟩
end Go.Proofs.YtpneolgdghbinaaGreat
