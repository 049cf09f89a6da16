/- Several texts in one: SScore, SDraw. -/
import Derived.Test.YtpneolgdghbinaaGreatQSends10
import Derived.Test.YtpneolgdghbinaaGreatQSends19
namespace Go.Proofs.YtpneolgdghbinaaGreat
open Go.ChangeShapes Go.WideShapes Go.ChangeAt Go.RowKit Go.Joins
set_option linter.unusedVariables false
set_option linter.unusedSimpArgs false
set_option maxRecDepth 100000
set_option maxHeartbeats 40000000
def Q20 (k b i g:Int):Int:=Q1R k (b * 64+i) / 128 * g
theorem Q9F (k b i g:Int) (h:0≤g) (h2:g≤100):0≤Q20 k b i g∧Q20 k b i g≤1677721600:=by
 have hh:=Q3w k (b * 64+i)
 unfold Q20
 generalize hq:Q1R k (b * 64+i) / 128=q
 have q0:0≤q:=by omega
 have q1:q≤16777215:=by omega
 constructor
 ·exact Int.mul_nonneg q0 h
 ·have:=Int.mul_le_mul q1 h2 h (by decide)
  omega
def Q1V (k b i g:Int):Int:=if Q1C k=true∧(0≤b∧b < 8)∧Q3x i g=true then Q20 k b i g else -1
theorem Q2f (n:Int) (w:World):Calls Tryz.prog 143 #[.int .i64 n] w fun e w'=> e=.returned (.bool (decide (0≤n) && decide (n < 8)))∧w=w':=by
 go_enter Tryz.func143,Tryz.ntmps143
 go_wp2
 all_goals go_ret
 all_goals refine ⟨?_,rfl⟩
 all_goals first|(simp [*];done)|(simp;omega)
theorem Qac (k b i g:Int) (d:Bool) (w:World) (h1:0≤k) (h2:k < 1000000) (b0:0≤b) (b1:b < 8) (i0:0≤i) (i1:i < 6) (g0:0≤g) (g1:g≤100):
  Calls Tryz.prog 177 #[.int .i64 k,.int .i64 b,back i g d] w fun e w'=> e=.returned (.int .i64 (Q20 k b i g))∧Below w.heap.size w w':=by
 have hB:Below w.heap.size w w:=Below.refl _ _;have hh:=Q3w k (b * 64+i);have hs:=Q9F k b i g g0 g1;have HS:=Q02 (show Q1R k (b * 64+i) / 128 * g=Q20 k b i g from rfl);have hs':0≤Q1R k (b * 64+i) / 128 * g∧Q1R k (b * 64+i) / 128 * g≤1677721600:=hs;clear hs
 go_enter Tryz.func177,Tryz.ntmps177
 go_wp2_with fail
 go_quiet (exact Q5j (Q5N k (b * 64+i) _ h1 h2 (by omega) (by omega)))
 go_wp2
 go_ret
 exact ⟨Q0J HS.out,by (repeat (first|with_reducible (first|exact hB|exact Below.refl _ _|refine Below.drew ?_|refine below_drewN ?_ _|refine Below.alloc ?_ ?_ _|refine Below.setCell ?_ ?_ _)|(focus (simp;first|done|omega))|omega))⟩
theorem Q8G (k b i g:Int) (d:Bool) (w:World):
  Calls Tryz.prog 192 #[.int .i64 k,.int .i64 b,back i g d] w fun e w'=> e=.returned (.int .i64 (Q1V k b i g))∧Below w.heap.size w w':=by
 have hB:Below w.heap.size w w:=Below.refl _ _
 by_cases hk:Q1C k=true
 ·by_cases hb:0≤b∧b < 8
  ·have hb':(decide (0≤b) && decide (b < 8))=true:=by simp [hb]
   by_cases hg:Q3x i g=true
   ·obtain ⟨i0,i1,g0,g1⟩:=Q5l.1 hg
    obtain ⟨h1,h2⟩:=Q2W.1 hk;have hh:=Q3w k (64 * b+i)
    have hs:=Q9F k b i g (by omega) g1
    have ho:Q2M k (64 * b+i)=Q1R k (64 * b+i):=by rw [Q2M,if_pos ⟨h1,h2,by omega,by omega⟩]
    have HS:=Q02 (show Q1R k (64 * b+i) / 128 * g=Q1V k b i g by rw [Q1V,if_pos ⟨hk,hb,hg⟩,Q20,Int.mul_comm b 64])
    have hs':0≤Q1R k (64 * b+i) / 128 * g∧Q1R k (64 * b+i) / 128 * g≤1677721600:=by have:=hs;rw [Q20,Int.mul_comm b 64] at this;exact this
    clear hs
    go_enter Tryz.func192,Tryz.ntmps192
    go_wp2_with (first|(go_at_call 115;refine (Q0S k _).mono ?_;rw [hk];rintro e w1 ⟨rfl,rfl⟩)|(go_at_call 143;refine (Q2f b _).mono ?_;rw [hb'];rintro e w1 ⟨rfl,rfl⟩)|(go_at_call 186;refine (hg ▸ Q22 i g d _).mono ?_;rintro e w1 ⟨rfl,hb⟩;obtain ⟨hc,hf⟩:=Q1z hb;have hz0:w.heap.size < w1.heap.size:=(by have hz:=hb.size;(try simp at hz);omega);have hB:Below w.heap.size w w1:=(by refine Below.trans ?_ (hb.mono (by have hs:=hB.size;(try simp) <;> omega));(repeat (first|with_reducible (first|exact hB|exact Below.refl _ _|refine Below.drew ?_|refine below_drewN ?_ _|refine Below.alloc ?_ ?_ _|refine Below.setCell ?_ ?_ _)|(focus (simp;first|done|omega))|omega)))))
    go_quiet (exact Q5j (ho ▸ Q4r k (64 * b+i) _))
    go_wp2
    go_ret
    exact ⟨Q0J HS.out,by (repeat (first|with_reducible (first|exact hB|exact Below.refl _ _|refine Below.drew ?_|refine below_drewN ?_ _|refine Below.alloc ?_ ?_ _|refine Below.setCell ?_ ?_ _)|(focus (simp;first|done|omega))|omega))⟩
   ·have hg':Q3x i g=false:=by simpa using hg
    have HS:=Q02 (show -1=Q1V k b i g by rw [Q1V,if_neg (fun q=> hg q.2.2)])
    go_enter Tryz.func192,Tryz.ntmps192
    go_wp2_with (first|(go_at_call 115;refine (Q0S k _).mono ?_;rw [hk];rintro e w1 ⟨rfl,rfl⟩)|(go_at_call 143;refine (Q2f b _).mono ?_;rw [hb'];rintro e w1 ⟨rfl,rfl⟩)|(go_at_call 186;refine (hg' ▸ Q22 i g d _).mono ?_;rintro e w1 ⟨rfl,hb⟩;obtain ⟨hc,hf⟩:=Q1z hb;have hz0:w.heap.size < w1.heap.size:=(by have hz:=hb.size;(try simp at hz);omega);have hB:Below w.heap.size w w1:=(by refine Below.trans ?_ (hb.mono (by have hs:=hB.size;(try simp) <;> omega));(repeat (first|with_reducible (first|exact hB|exact Below.refl _ _|refine Below.drew ?_|refine below_drewN ?_ _|refine Below.alloc ?_ ?_ _|refine Below.setCell ?_ ?_ _)|(focus (simp;first|done|omega))|omega)))))
    go_ret
    exact ⟨Q0J HS.out,by (repeat (first|with_reducible (first|exact hB|exact Below.refl _ _|refine Below.drew ?_|refine below_drewN ?_ _|refine Below.alloc ?_ ?_ _|refine Below.setCell ?_ ?_ _)|(focus (simp;first|done|omega))|omega))⟩
  ·have hb':(decide (0≤b) && decide (b < 8))=false:=by simpa using hb
   have HS:=Q02 (show -1=Q1V k b i g by rw [Q1V,if_neg (fun q=> hb q.2.1)])
   go_enter Tryz.func192,Tryz.ntmps192
   go_wp2_with (first|(go_at_call 115;refine (Q0S k _).mono ?_;rw [hk];rintro e w1 ⟨rfl,rfl⟩)|(go_at_call 143;refine (Q2f b _).mono ?_;rw [hb'];rintro e w1 ⟨rfl,rfl⟩))
   go_ret
   exact ⟨Q0J HS.out,by (repeat (first|with_reducible (first|exact hB|exact Below.refl _ _|refine Below.drew ?_|refine below_drewN ?_ _|refine Below.alloc ?_ ?_ _|refine Below.setCell ?_ ?_ _)|(focus (simp;first|done|omega))|omega))⟩
 ·have hk':Q1C k=false:=by simpa using hk
  have HS:=Q02 (show -1=Q1V k b i g by rw [Q1V,if_neg (fun q=> hk q.1)])
  go_enter Tryz.func192,Tryz.ntmps192
  go_wp2_with (first|(go_at_call 115;refine (Q0S k _).mono ?_;rw [hk'];rintro e w1 ⟨rfl,rfl⟩))
  go_ret
  exact ⟨Q0J HS.out,by (repeat (first|with_reducible (first|exact hB|exact Below.refl _ _|refine Below.drew ?_|refine below_drewN ?_ _|refine Below.alloc ?_ ?_ _|refine Below.setCell ?_ ?_ _)|(focus (simp;first|done|omega))|omega))⟩
structure Cur (k:Nat) (w:World) (o:Option Addr) (cap:Nat) (l:List Int) (i h:Int):Prop where
 c0:w.cell? ⟨k,0,none⟩=some (.slice o l.length cap)
 c1:w.cell? ⟨k,1,none⟩=some (.int .i64 i)
 c2:w.cell? ⟨k,2,none⟩=some (.int .i64 h)
 f1:w.frozen? ⟨k,1,none⟩=false
 f2:w.frozen? ⟨k,2,none⟩=false
 ml:l.length≤maxLen
 rd:RdB k w o l
 b8:isB l
 i0:0≤i
 i1:i≤l.length
def isCur (k:Nat) (w:World):Prop:=∃o cap l i h,Cur k w o cap l i h
theorem Qej (n:Int):0≤bits .and .i64 n 255∧bits .and .i64 n 255≤255:=by
 have h255:(BitVec.ofInt 64 255).toNat=2 ^ 8 - 1:=by decide
 have key:(BitVec.ofInt 64 n &&& BitVec.ofInt 64 255).toNat=(n % ((2 ^ 64:Nat):Int)).toNat % 2 ^ 8:=by
  rw [BitVec.toNat_and,BitVec.toNat_ofInt,h255,Nat.and_two_pow_sub_one_eq_mod]
 have e:bits .and .i64 n 255=IntKind.i64.wrap ((BitVec.ofInt 64 n &&& BitVec.ofInt 64 255).toNat:Nat):=rfl
 rw [e,key,wrap_i64 _ (by omega) (by omega)]
 omega
theorem Cur.set2 {k:Nat} {w:World} {o:Option Addr} {cap:Nat} {l:List Int} {i h:Int} (c:Cur k w o cap l i h) (h':Int):Cur k (w.setCell ⟨k,2,none⟩ (.int .i64 h')) o cap l i h'∧w.grownBy (w.setCell ⟨k,2,none⟩ (.int .i64 h')) (some k):=by
 have hb:Below k w (w.setCell ⟨k,2,none⟩ (.int .i64 h')):=Below.setCell (p:=⟨k,2,none⟩) (Below.refl _ _) (Kaq _) _
 refine ⟨⟨?_, ?_,World.cell?_setCell_same w _ _ c.c2, ?_, ?_,c.ml,c.rd.kept hb (Kaq _),c.b8,c.i0,c.i1⟩, ?_⟩
 ·exact (World.cell?_setCell_other w _ _ _ (by simp)).trans c.c0
 ·exact (World.cell?_setCell_other w _ _ _ (by simp)).trans c.c1
 ·simpa using c.f1
 ·simpa using c.f2
 ·exact ⟨rfl,rfl,rfl,by simp,fun j _ hj=> Below.heap_setCell w _ _ j (fun e=> hj (by simp [e]))⟩
theorem Cur.set1 {k:Nat} {w:World} {o:Option Addr} {cap:Nat} {l:List Int} {i h:Int} (c:Cur k w o cap l i h) (i':Int) (h0:0≤i') (h1:i'≤l.length):Cur k (w.setCell ⟨k,1,none⟩ (.int .i64 i')) o cap l i' h∧w.grownBy (w.setCell ⟨k,1,none⟩ (.int .i64 i')) (some k):=by
 have hb:Below k w (w.setCell ⟨k,1,none⟩ (.int .i64 i')):=Below.setCell (p:=⟨k,1,none⟩) (Below.refl _ _) (Kaq _) _
 refine ⟨⟨?_,World.cell?_setCell_same w _ _ c.c1, ?_, ?_, ?_,c.ml,c.rd.kept hb (Kaq _),c.b8,h0,h1⟩, ?_⟩
 ·exact (World.cell?_setCell_other w _ _ _ (by simp)).trans c.c0
 ·exact (World.cell?_setCell_other w _ _ _ (by simp)).trans c.c2
 ·simpa using c.f1
 ·simpa using c.f2
 ·exact ⟨rfl,rfl,rfl,by simp,fun j _ hj=> Below.heap_setCell w _ _ j (fun e=> hj (by simp [e]))⟩
theorem Cur.drewN {k:Nat} {w:World} {o:Option Addr} {cap:Nat} {l:List Int} {i h:Int} (c:Cur k w o cap l i h) (n:Nat):Cur k (w.drewN n) o cap l i h:=⟨c.c0,c.c1,c.c2,c.f1,c.f2,c.ml,c.rd,c.b8,c.i0,c.i1⟩
theorem Q3u {w w':World} {r:Option Nat} (h:w.grownBy w' r) (n:Nat):w.grownBy (w'.drewN n) r:=⟨h.os,h.tape,h.output,h.size,h.block⟩
theorem Q05 {a b c:World} {r:Option Nat} (h:a.grownBy b r) (k:b.grownBy c r):a.grownBy c r:=
 ⟨k.os.trans h.os,k.tape.trans h.tape,k.output.trans h.output,Kdq h.size k.size,fun i hi hne=> (k.block i (Kbq hi h.size) hne).trans (h.block i hi hne)⟩
theorem Q2s (k:Nat) (w:World) (hc:isCur k w):
  Calls Tryz.prog 132 #[.pointer (some ⟨k,0,none⟩)] w fun e w'=> ∃x:Int,e=.returned (.int .i64 x)∧0≤x∧x≤255∧isCur k w'∧w.grownBy w' (some k):=by
 obtain ⟨o,cap,l,i,h,c⟩:=hc;have c0:=c.c0;have c1:=c.c1;have c2:=c.c2;have f1:=c.f1;have f2:=c.f2
 go_enter Tryz.func132,Tryz.ntmps132
 go_wp2
 generalize wrap64 (wrap64 (h * 6364136223846793005)+1442695040888963407)=h1 at *;obtain ⟨cc,hg1⟩:=c.set2 h1;clear c c0 c1 c2 f1 f2;generalize w.setCell ⟨k,2,none⟩ (.int .i64 h1)=w1 at *;have c0:=cc.c0;have c1:=cc.c1;have c2:=cc.c2;have f1:=cc.f1;have f2:=cc.f2;have HC:=Q02 cc;have HG:=Q02 hg1;have i0:=cc.i0;have i1:=cc.i1;have ml:=cc.ml
 unfold maxLen at ml
 clear cc hg1;obtain ⟨j,rfl⟩:=Int.eq_ofNat_of_zero_le i0
 by_cases hlt:j < l.length
 ·rcases HC.out.rd with hR|⟨b,off,rfl,hbl,hcell⟩
  ·subst hR;simp at hlt
  have hc:=hcell j hlt;have hb8:=HC.out.b8.get j;generalize l.getD j 0=y at *
  have hji:(j:Int) < (l.length:Int):=by omega
  clear hcell
  go_quiet (fail)
  go_wp2
  have hx:=Qej (bits .xor .i64 (h1 / 8589934592) (h1 / 35184372088832));generalize bits .and .i64 (bits .xor .i64 (h1 / 8589934592) (h1 / 35184372088832)) 255=x0 at *
  go_quiet (fail)
  go_wp2
  go_quiet (fail)
  go_wp2
  have hx2:=Qej (x0+y)
  go_ret
  have hj1:(j:Int)+1≤(l.length:Int):=by omega
  refine ⟨_,rfl,hx2.1,hx2.2, ?_, ?_⟩
  ·exact ⟨_,_,_,_,_,(Cur.set1 (HC.out.drewN _) ((j:Int)+1) (by omega) hj1).1⟩
  ·exact Q05 (Q3u HG.out _) (Cur.set1 (HC.out.drewN _) ((j:Int)+1) (by omega) hj1).2
 ·have hji:¬(j:Int) < (l.length:Int):=by omega
  go_quiet (fail)
  go_wp2
  have hx:=Qej (bits .xor .i64 (h1 / 8589934592) (h1 / 35184372088832));generalize bits .and .i64 (bits .xor .i64 (h1 / 8589934592) (h1 / 35184372088832)) 255=x0 at *
  go_quiet (fail)
  go_wp2
  go_ret
  refine ⟨_,rfl,hx.1,hx.2, ?_, ?_⟩
  ·exact ⟨_,_,_,_,_,(HC.out.drewN _).drewN _⟩
  ·exact Q3u (Q3u HG.out _) _
theorem Q0m (k:Nat) (n:Int) (w:World) (hc:isCur k w) (h0:0 < n) (h1:n≤1073741824):
  Calls Tryz.prog 80 #[.pointer (some ⟨k,0,none⟩),.int .i64 n] w fun e w'=> ∃x:Int,e=.returned (.int .i64 x)∧0≤x∧x < n∧isCur k w'∧w.grownBy w' (some k):=by
 by_cases hn:n≤256
 ·go_enter Tryz.func80,Tryz.ntmps80
  go_wp2_with fail
  refine (Q2s k _ hc).mono ?_
  rintro e w1 ⟨x,rfl,hx0,hx1,hc1,hg1⟩
  have HC:=Q02 hc1;have HG:=Q02 hg1;clear hc hc1 hg1
  go_wp2
  go_ret
  exact ⟨_,rfl,Int.emod_nonneg _ (by omega),Int.emod_lt_of_pos _ h0,HC.out,HG.out⟩
 ·go_enter Tryz.func80,Tryz.ntmps80
  go_wp2_with fail
  refine (Q2s k _ hc).mono ?_
  rintro e w1 ⟨x,rfl,hx0,hx1,hc1,hg1⟩
  go_wp2_with fail
  refine (Q2s k _ hc1).mono ?_
  rintro e w2 ⟨y,rfl,hy0,hy1,hc2,hg2⟩
  go_wp2_with fail
  refine (Q2s k _ hc2).mono ?_
  rintro e w3 ⟨z,rfl,hz0,hz1,hc3,hg3⟩
  go_wp2_with fail
  refine (Q2s k _ hc3).mono ?_
  rintro e w4 ⟨t,rfl,ht0,ht1,hc4,hg4⟩
  have HC:=Q02 hc4;have HG:=Q02 (Q05 (Q05 (Q05 hg1 hg2) hg3) hg4);clear hc hc1 hc2 hc3 hc4 hg1 hg2 hg3 hg4
  go_wp2
  go_ret
  exact ⟨_,rfl,Int.emod_nonneg _ (by omega),Int.emod_lt_of_pos _ h0,HC.out,HG.out⟩
theorem Qek (o:Option Addr) (cap:Nat) (l:List Int) (n:Int) (w:World) (e:TypeId) (hR:Rd w o l) (hB8:isB l) (hm:l.length≤maxLen):isCur w.heap.size (w.alloc (.cells #[.slice o l.length cap,.int .i64 0,.int .i64 n] e)):=
 ⟨o,cap,l,0,n,⟨by simp,by simp,by simp,by simp,by simp,hm,hR.toB.kept ((Below.refl w.heap.size w).alloc (Kaq _) _) (Kaq _),hB8,by omega,by omega⟩⟩
theorem Qen (o:Option Addr) (cap:Nat) (l:List Int) (w:World) (hR:Rd w o l) (hB8:isB l) (hm:l.length≤maxLen):
  Calls Tryz.prog 34 #[.slice o l.length cap] w fun e w'=> e=.returned (.pointer (some ⟨w.heap.size,0,none⟩))∧isCur w.heap.size w'∧Below w.heap.size w w'∧w.heap.size < w'.heap.size:=by
 have HM:=Q02 hm
 unfold maxLen at hm
 go_enter Tryz.func34,Tryz.ntmps34
 go_wp2
 go_loop [3,4] (fun h i=> ∃(n:Int) (j:Nat),j≤l.length∧i=.int .i64 j∧h=.int .i64 n)
  (fun _ i=> l.length - (intOf i).toNat)
 case atStart=> exact ⟨_,0,Kcq _,rfl,rfl⟩
 case round=>
  obtain ⟨n,j,hj,rfl,rfl⟩:=hrel
  by_cases hlt:j < l.length
  ·by_cases h4:j < 4000
   ·rcases hR with hR|⟨b,off,rfl,hbl,hcell⟩
    ·subst hR;simp at hlt
    have hc:=hcell j hlt;have b8:=hB8.get j;generalize l.getD j 0=y at *;clear hcell
    go_wp2
    go_round
    case rel=> exact ⟨_,j+1,by omega,by go_num,rfl⟩
    case measure=> simp [intOf];omega
   ·go_wp2
    go_ret
    exact ⟨rfl,Qek o cap l _ w _ hR hB8 HM.out,(Below.refl _ _).alloc (Kaq _) _,by simp⟩
  ·go_wp2
   go_ret
   exact ⟨rfl,Qek o cap l _ w _ hR hB8 HM.out,(Below.refl _ _).alloc (Kaq _) _,by simp⟩
end Go.Proofs.YtpneolgdghbinaaGreat
