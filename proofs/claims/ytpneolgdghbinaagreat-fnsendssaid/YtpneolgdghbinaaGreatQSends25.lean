/- Several texts in one: SInsert2, SAfter, SAfter2, SAfter3, STurns. -/
import Derived.Lib.AppendZerosOnto
import Derived.Laws.NewBlocks
import Derived.Deep.DeepAppendWide
import Derived.Test.YtpneolgdghbinaaGreatQSends24
namespace Go.Proofs.YtpneolgdghbinaaGreat
open Go.ChangeShapes Go.WideShapes Go.ChangeAt Go.RowKit Go.Joins
set_option linter.unusedVariables false
set_option linter.unusedSimpArgs false
set_option maxRecDepth 100000
set_option maxHeartbeats 40000000
theorem QaG {X cs R:List Value} {i n k:Nat} (hX:X.length=n * k) (hR:R.take (i * k)=X.take (i * k)) (hi:i≤n) (hc:cs.length=k) (hlen:(n+1) * k≤R.length):
  let c1:=R.take (i * k)++cs++R.drop (i * k+cs.length)
  (c1.take ((i+1) * k)++X.drop (i * k)++c1.drop ((i+1) * k+(X.drop (i * k)).length)).take ((n+1) * k)=X.take (i * k)++cs++X.drop (i * k)∧(c1.take ((i+1) * k)++X.drop (i * k)++c1.drop ((i+1) * k+(X.drop (i * k)).length)).length=R.length∧c1.length=R.length:=by
 intro c1
 have hk1:(i+1) * k=i * k+k:=Nat.succ_mul i k;have hn1:(n+1) * k=n * k+k:=Nat.succ_mul n k;have hik:i * k≤n * k:=Nat.mul_le_mul_right k hi
 have hT:(X.take (i * k)).length=i * k:=by rw [List.length_take];omega
 have hD:(X.drop (i * k)).length=n * k - i * k:=by rw [List.length_drop,hX]
 have e1:c1=X.take (i * k)++cs++R.drop (i * k+cs.length):=by show R.take (i * k)++cs++_=_;rw [hR]
 have hl:c1.length=R.length:=by rw [e1];simp only [List.length_append,List.length_drop,hT,hc];omega
 have t1:c1.take ((i+1) * k)=X.take (i * k)++cs:=by rw [e1];exact List.take_left' (by rw [List.length_append,hT,hc];omega)
 refine ⟨?_, ?_,hl⟩
 ·rw [t1];exact List.take_left' (by simp only [List.length_append,hT,hc,hD];omega)
 ·rw [t1];simp only [List.length_append,List.length_drop,hT,hc,hl]
  rw [List.length_drop] at hD
  omega
theorem Qaw (base g cap gx i:Nat) (l:List Bk) (b:Bk) (w:World) (hv:Q1i w base (.slice (some ⟨g,0,none⟩) l.length cap) l) (hbw:base≤w.heap.size) (hx:w.heap[gx]? =some (.cells (Q12.cs b).toArray 119 (0,0))) (hi:i < l.length) (hroom:cap < l.length+1) (hl:l.length≤1000):
  Calls Tryz.prog 160 #[.slice (some ⟨g,0,none⟩) l.length cap,.int .i64 i,.slice (some ⟨gx,0,none⟩) 1 1] w fun e w'=> ∃v,e=.returned v∧Q1i w' base v (l.take i++b::l.drop i)∧Below w.heap.size w w':=by
 rcases hv.2 with ⟨h1,_⟩|⟨g',c',cur,h1,hb,hc,h4,h5,h6,h7⟩
 ·cases h1
 injection h1 with h1 _ h3
 injection h1 with h1
 injection h1 with h1 _ _
 subst h1 h3;obtain ⟨X,hX⟩:∃X,X=l.flatMap Q12.cs:=⟨_,rfl⟩
 have h7':cur.toList.take (l.length * 3)=X:=by rw [hX];exact h7
 have hXl:X.length=l.length * 3:=by rw [hX,Q0s];rfl
 have hX1:∀v∈X,v.oneCell'=true:=by rw [hX];exact Q5k Q3v.one l
 have hb1:∀v∈Q12.cs b,v.oneCell'=true:=fun v hv=> Q3v.one b v hv
 have hD:(X.drop (i * 3)).length=(l.length - i) * 3:=by rw [List.length_drop,hXl];omega
 have hgw:g < w.heap.size:=by
  rcases Nat.lt_or_ge g w.heap.size with h|h
  ·exact h
  ·rw [Array.getElem?_eq_none h] at hc;cases hc
 have hxw:gx < w.heap.size:=by
  rcases Nat.lt_or_ge gx w.heap.size with h|h
  ·exact h
  ·rw [Array.getElem?_eq_none h] at hx;cases hx
 have hxc:∀j v,X[j]? =some v→w.cell? ⟨g,j,none⟩=some v:=fun j v hj=> by
  rw [←h7',List.getElem?_take] at hj
  split at hj
  ·simpa [World.cell?,hc] using hj
  ·cases hj
 obtain ⟨z,bytes,hinfo,hzs,hby⟩:=Q3v.info;obtain ⟨i0,hi0,hz0,hz1,hz2⟩:=info_parts hinfo
 have hold:(Builtin.firstCells i0.size i (.slice (some ⟨g,0,none⟩) i cap)).run Tryz.prog w.drew=.ok (X.take (i * 3)).toArray w.drew:=by
  rw [hz1]
  exact run_firstCells_some w.drew 3 i ⟨g,0,none⟩ i cap (X.take (i * 3)) (by rw [List.length_take];omega) (fun j v hj=> by
   rw [Addr.add_lit,Nat.zero_add]
   rw [List.getElem?_take] at hj
   split at hj
   ·exact hxc j v hj
   ·cases hj)
 have hi2:i+(l.length+1 - i)=l.length+1:=by omega
 have hrz:∀ty,(Builtin.append_ #[26,3] ty #[.slice (some ⟨g,0,none⟩) i cap,.int .i64 ((l.length:Int)+1 - (i:Int))]).run Tryz.prog w=
   .ok (.slice (some ⟨w.heap.size,0,none⟩) (l.length+1) (grownCap w (l.length+1) cap 119)) (w.drew.alloc (.cells ((X.take (i * 3)).toArray++Builtin.zeroCells z.cells (l.length+1 - i)++Builtin.zeroCells z.cells (grownCap w (l.length+1) cap 119 - (l.length+1))) 119)):=fun ty=> by
  have h:=Lib.run_append_grow_zeros w 26 3 ty 119 i0 z .i64 .i64 Tryz.underlying26 Tryz.underlying3 hi0 hz0 (some ⟨g,0,none⟩) i cap (X.take (i * 3)) hold (l.length+1 - i) (by omega) (by rw [hz1];decide) (by omega) (by omega) (by rw [hz2];have:=Nat.mul_le_mul (show l.length+1 - i≤1001 by omega) hby;omega) (Go.growslice_fits_wide (by omega) (by rw [hz2,hi2];have:=Nat.mul_le_mul (show (l.length+1)+(l.length+1) / 4+192≤2000 by omega) hby;omega))
  rw [hi2] at h
  rw [show (l.length:Int)+1 - (i:Int)=((l.length+1 - i:Nat):Int) by omega]
  exact h
 have hGn:=grownCap_ge w (l.length+1) cap 119
 have hGm:grownCap w (l.length+1) cap 119≤maxLen:=grownCap_le_maxLen w (l.length+1) cap 119 (by unfold maxLen;omega)
 generalize grownCap w (l.length+1) cap 119=G at *;obtain ⟨ROW,hROW⟩:∃ROW:Array Value,ROW=(X.take (i * 3)).toArray++Builtin.zeroCells z.cells (l.length+1 - i)++Builtin.zeroCells z.cells (G - (l.length+1)):=⟨_,rfl⟩
 rw [←hROW] at hrz
 have hzz:∀k,(Builtin.zeroCells z.cells k).size=k * 3:=fun k=> by simp [Builtin.zeroCells,hzs];rfl
 have hRs:ROW.toList.length=G * 3:=by
  rw [hROW];simp only [Array.length_toList,Array.size_append,hzz,List.size_toArray,List.length_take,hXl];omega
 have hRt:ROW.toList.take (i * 3)=X.take (i * 3):=by
  rw [hROW];simp only [Array.toList_append,List.append_assoc]
  exact List.take_left' (by rw [List.length_take];omega)
 have HS:=Q02 (QaG (cs:=Q12.cs b) (i:=i) (n:=l.length) (k:=3) hXl hRt (Nat.le_of_lt hi) rfl (by omega))
 dsimp only at HS
 obtain ⟨C1,hC1⟩:∃C1,C1=ROW.toList.take (i * 3)++Q12.cs b++ROW.toList.drop (i * 3+(Q12.cs b).length):=⟨_,rfl⟩
 rw [←hC1] at HS
 have hC1l:C1.length=G * 3:=HS.out.2.2.trans hRs;obtain ⟨C2,hC2⟩:∃C2,C2=C1.take ((i+1) * 3)++X.drop (i * 3)++C1.drop ((i+1) * 3+(X.drop (i * 3)).length):=⟨_,rfl⟩
 rw [←hC2] at HS
 obtain ⟨N,hN⟩:∃N,N=w.heap.size:=⟨_,rfl⟩;obtain ⟨W1,hW1⟩:∃W1,W1=w.drew.alloc (.cells ROW 119):=⟨_,rfl⟩
 rw [←hW1] at hrz
 have k1:W1.heap[N]? =some (.cells ROW 119 (0,0)):=by rw [hW1,hN];exact heap_alloc_new w.drew _
 have kg:W1.heap[g]? =some (.cells cur 119 (0,0)):=by rw [hW1,Below.heap_alloc w.drew _ g hgw];exact hc
 have kx:W1.heap[gx]? =some (.cells (Q12.cs b).toArray 119 (0,0)):=by rw [hW1,Below.heap_alloc w.drew _ gx hxw];exact hx
 obtain ⟨W2,hW2⟩:∃W2,W2=W1.setRow N C1.toArray:=⟨_,rfl⟩
 have hcpA:∀ty dL dc,1≤dL→(Builtin.copy_ #[26,26] ty #[.slice (some ⟨N,i * 3,none⟩) dL dc,.slice (some ⟨gx,0,none⟩) 1 1]).run Tryz.prog W1=.ok (goInt (Nat.min 1 dL)) W2:=fun ty dL dc e1=> by
  have h:=Q2m (P:=Tryz.prog) 3 W1 26 26 ty 119 N (i * 3) dL dc ⟨gx,0,none⟩ 1 1 ROW 119 (Q12.cs b) Tryz.underlying26 (by kernel_rfl) k1 (by rw [show Nat.min 1 dL=1 by show min 1 dL=_;omega];rfl)
   (fun j v hj=> by
    rw [Addr.add_lit]
    simpa [World.cell?,kx] using hj) (by rw [Array.length_toList] at hRs;rw [hRs];show i * 3+3≤G * 3;omega) hb1
  rw [h,hW2,hC1]
 have k2:W2.heap[N]? =some (.cells C1.toArray 119 (0,0)):=by rw [hW2];exact setRow_heap W1 N ROW _ 119 _ k1
 have kg2:W2.heap[g]? =some (.cells cur 119 (0,0)):=by rw [hW2,setRow_other W1 N g _ (by omega)];exact kg
 obtain ⟨W3,hW3⟩:∃W3,W3=W2.drew.setRow N C2.toArray:=⟨_,rfl⟩
 have hcpB:∀ty dL dc sL sc,dL=l.length - i→sL=l.length - i→(Builtin.copy_ #[26,26] ty #[.slice (some ⟨N,(i+1) * 3,none⟩) dL dc,.slice (some ⟨g,i * 3,none⟩) sL sc]).run Tryz.prog W2.drew=.ok (goInt (Nat.min sL dL)) W3:=fun ty dL dc sL sc e1 e2=> by
  have h:=Q2m (P:=Tryz.prog) 3 W2.drew 26 26 ty 119 N ((i+1) * 3) dL dc ⟨g,i * 3,none⟩ sL sc C1.toArray 119 (X.drop (i * 3)) Tryz.underlying26 (by kernel_rfl) k2 (by rw [hD,show Nat.min sL dL=l.length - i by show min sL dL=_;omega])
   (fun j v hj=> by
    rw [List.getElem?_drop,←h7',List.getElem?_take] at hj
    split at hj
    ·rw [Addr.add_lit];show W2.cell? ⟨g,i * 3+j,none⟩=some v;simpa [World.cell?,kg2] using hj
    ·cases hj) (by rw [hD];simp only [List.size_toArray,hC1l];omega) (fun v hv=> hX1 v (List.mem_of_mem_drop hv))
  rw [h,hW3,hC2]
 have k3:W3.heap[N]? =some (.cells C2.toArray 119 (0,0)):=by rw [hW3];exact setRow_heap W2.drew N C1.toArray _ 119 _ k2
 have B1:Below N w W1:=by rw [hW1,hN];exact ((Below.refl _ w).drew).alloc (Kaq _) _
 have B3:Below N w W3:=by
  have a1:W1.grownBy W2 (some N):=by rw [hW2];exact ⟨rfl,rfl,rfl,by simp,fun k _ hk=> setRow_other W1 N k _ (fun e=> hk (by simp [e]))⟩
  have a2:W2.grownBy W3 (some N):=by rw [hW3];exact ⟨rfl,rfl,rfl,by simp,fun k _ hk=> setRow_other W2.drew N k _ (fun e=> hk (by simp [e]))⟩
  exact B1.grown (a1.trans a2) (by rw [hN];exact hN ▸ B1.size) (fun k e=> by cases e;exact Kaq _)
 have HFIN:=Q02 (And.intro k3 (And.intro B3 (And.intro hX (And.intro hRs (And.intro hN hbw)))))
 rw [←hN] at hrz
 have RZ:=Q02 hrz;have CPA:=Q02 hcpA;have CPB:=Q02 hcpB;have HGM:=Q02 hGm;clear hv hbw hx hc hX h7 h7' hXl hX1 hb1 hD hgw hxw hxc hinfo hzs hi0 hz0 hz1 hz2 hold hrz hROW hzz hRs hRt hC1 hC1l hC2 hW1 k1 kg kx hW2 hcpA k2 kg2 hW3 hcpB k3 B1 B3 hby hi2 hN h6 h5;generalize hn:l.length=n at *;have HN:=Q02 hn
 have hcn:cap=n:=by omega
 subst hcn;clear hn h4 hroom
 have z0:((i:Int)==(cap:Int))=false:=by simp;omega
 have z1:(cap:Int) < (cap:Int)+1:=by omega
 have n1:i≤cap:=by omega
 have n3:¬(cap=i):=by omega
 have n5:¬(G=i):=by omega
 have n6:¬(G=i+1):=by omega
 have n7:cap+1≤G:=hGn
 have z3:(i:Int)+1≤(cap:Int)+1:=by omega
 have z4:(i:Int)≤(cap:Int):=by omega
 have z5:(i:Int)≤(cap:Int)+1:=by omega
 have hw1:IntKind.i64.wrap ((i:Int)+1)=(i:Int)+1:=by rw [IntKind.wrap_i64];omega
 have hw2:(0:Int)≤(i:Int)+1:=by omega
 have hw3:((i:Int)+1).toNat=i+1:=by omega
 have e3:1≤cap+1 - i:=by omega
 have hcp3:=CPA.out 3 (cap+1 - i) (G - i) e3;clear e3
 go_enter Tryz.func160,Tryz.ntmps160
 go_wp2_with (first|(at_builtin;refine Lib.wpList_append_run _ rfl _ _ _ _ rfl _ _ rfl rfl _ _ (RZ.out _) ?_))
 go_region_law (refine step_copy_runI rfl _ _ 26 26 rfl (.slice (some ⟨N,(i+1) * 3,none⟩) (cap - i) (G - (i+1))) (.slice (some ⟨g,i * 3,none⟩) (cap - i) (cap - i)) (by simp [Act.eval,Act.put]) (by simp [Act.eval,Act.put]) (CPB.out _ _ _ _ _ rfl rfl) ?_)
 go_wp2
 go_ret
 obtain ⟨k3,B3,hX,hRs,hN,hbw⟩:=HFIN.out
 refine ⟨_,rfl, ?_,hN ▸ B3⟩
 have hs:=HS.out
 have hlen:(l.take i++b::l.drop i).length=cap+1:=by have:=HN.out;simp;omega
 refine ⟨by rw [Q0s],.inr ⟨N,G,_,by rw [hlen];rfl,by omega,k3,by rw [hlen];omega,HGM.out, ?_, ?_⟩⟩
 ·rw [List.size_toArray]
  exact hs.2.1.trans hRs
 ·rw [hlen]
  show List.take ((cap+1) * 3) _=_
  rw [hs.1,hX,List.flatMap_append,List.flatMap_cons,List.append_assoc]
  have e2:l.flatMap Q12.cs=(l.take i).flatMap Q12.cs++(l.drop i).flatMap Q12.cs:=by rw [←List.flatMap_append,List.take_append_drop]
  have e4:((l.take i).flatMap Q12.cs).length=i * 3:=by rw [Q0s,List.length_take,HN.out,Nat.min_eq_left n1];rfl
  rw [e2,List.take_left' e4,List.drop_left' e4]
theorem Q6c (base cap gx i:Nat) (o:Option Addr) (l:List Bk) (b:Bk) (w:World) (hv:Q1i w base (.slice o l.length cap) l) (hbw:base≤w.heap.size) (hx:w.heap[gx]? =some (.cells (Q12.cs b).toArray 119 (0,0))) (hne:∀g,o=some ⟨g,0,none⟩→gx≠g) (hi:i≤l.length) (hl:l.length≤1000):
  Calls Tryz.prog 160 #[.slice o l.length cap,.int .i64 i,.slice (some ⟨gx,0,none⟩) 1 1] w fun e w'=> ∃v,e=.returned v∧Q1i w' base v (l.take i++b::l.drop i)∧Below base w w':=by
 have hxw:gx < w.heap.size:=by
  rcases Nat.lt_or_ge gx w.heap.size with h|h
  ·exact h
  ·rw [Array.getElem?_eq_none h] at hx;cases hx
 rcases Nat.lt_or_ge i l.length with hlt|hge
 ·rcases hv.2 with ⟨h1,h2⟩|⟨g,c',cur,h1,hb,_⟩
  ·injection h1 with _ h3 _;omega
  ·injection h1 with h1 _ h3
   subst h1 h3
   by_cases hr:l.length+1≤cap
   ·refine (Q9l base g cap gx i l b w hv hx (hne g rfl) hlt hr hl).mono ?_
    rintro e w' ⟨v,rfl,h1,h2⟩
    exact ⟨v,rfl,h1,(Below.refl base w).grown h2 hbw (fun k e=> by cases e;exact hb)⟩
   ·refine (Qaw base g cap gx i l b w hv hbw hx hlt (by omega) hl).mono ?_
    rintro e w' ⟨v,rfl,h1,h2⟩
    exact ⟨v,rfl,h1,h2.mono hbw⟩
 ·have e:i=l.length:=by omega
  subst e
  refine (Qcr base cap gx o l b w hv (.inr ⟨gx,0,rfl,hxw,fun q hq j hj=> ?_⟩) hbw hl).mono ?_
  ·have hq0:q=0:=by simpa using hq
   subst hq0
   simp [World.cell?,hx]
  ·rintro e w' ⟨v,rfl,h1,h2⟩
   refine ⟨v,rfl,by simpa using h1,(Below.refl base w).grown h2 hbw (fun k e=> ?_)⟩
   rcases hv.2 with ⟨h3,_⟩|⟨g,c',cur,h3,hb,_⟩
   ·rw [h3] at e;cases e
   ·rw [h3] at e;cases e;exact hb
theorem Q6r {w:World} {o:Option Addr} {l:List Bk} (h:RdK w.heap.size w o l) (ob:Obj):RdK (w.alloc ob).heap.size (w.alloc ob) o l:=
 (RdL.kept h ((Below.refl w.heap.size w).alloc (Kaq _) ob) (Kaq _)).le (by simp)
theorem Q3P {α:Type} {x y:α} (h:x=y):x=y:=h
theorem Q2V (id:Int) (w:World):Calls Tryz.prog 213 #[.agg #[.int .i64 id]] w fun e w'=> e=.returned (.int .i64 id)∧Below w.heap.size w w':=by
 have hB:Below w.heap.size w w:=Below.refl _ _
 go_enter Tryz.func213,Tryz.ntmps213
 go_wp2
 go_ret
 exact ⟨rfl,by (repeat (first|with_reducible (first|exact hB|exact Below.refl _ _|refine Below.drew ?_|refine below_drewN ?_ _|refine Below.alloc ?_ ?_ _|refine Below.setCell ?_ ?_ _)|(focus (simp;first|done|omega))|omega))⟩
theorem QgK (base pl:Nat) (v:Value) (l:List Bk) (x y:Int) (z:Bool) (w:World) (A:Obj) (hv:Q1i w base v l) (hb:base≤w.heap.size) (hp:pl≤l.length) (hl:l.length≤1000):
  Calls Tryz.prog 160 #[v,.int .i64 pl,.slice (some ⟨w.heap.size+1,0,none⟩) 1 1] ((w.alloc A).alloc (.cells #[.int .i64 x,.int .i64 y,.bool z] 119)) fun e w'=> ∃v,e=.returned v∧Q1i w' base v (l.take pl++(x,y,z)::l.drop pl)∧Below base w w':=by
 have hs1:(w.alloc A).heap.size=w.heap.size+1:=by simp
 have hB:Below w.heap.size w ((w.alloc A).alloc (.cells #[.int .i64 x,.int .i64 y,.bool z] 119)):=((Below.refl w.heap.size w).alloc (Kaq _) A).alloc (by omega) _
 have hv2:Q1i ((w.alloc A).alloc (.cells #[.int .i64 x,.int .i64 y,.bool z] 119)) base v l:=Q03 hv hB;have hx:=heap_alloc_new (w.alloc A) (.cells #[.int .i64 x,.int .i64 y,.bool z] 119)
 rw [hs1] at hx
 obtain ⟨o,cap,e,hne⟩:∃o cap,v=.slice o l.length cap∧∀g,o=some ⟨g,0,none⟩→w.heap.size+1≠g:=by
  rcases hv.2 with ⟨h1,h2⟩|⟨g,c,cur,h1,_,hc,_⟩
  ·exact ⟨none,0,by rw [h1,h2],fun g e=> by cases e⟩
  ·refine ⟨_,c,h1,fun g' e=> ?_⟩
   cases e
   have:g < w.heap.size:=by
    rcases Nat.lt_or_ge g w.heap.size with h|h
    ·exact h
    ·rw [Array.getElem?_eq_none h] at hc;cases hc
   omega
 subst e
 refine (Q6c base cap (w.heap.size+1) pl o l (x,y,z) _ hv2 (Kdq hb hB.size) hx hne hp hl).mono ?_
 rintro e w' ⟨v,rfl,h1,h2⟩
 exact ⟨v,rfl,h1,(hB.mono hb).trans h2⟩
theorem Qep (o:Option Addr) (cap:Nat) (l:List Bk) (id g:Int) (w:World) (hR:RdK w.heap.size w o l) (hn:o=none→cap=0) (hl:l.length≤1000):
  Calls Tryz.prog 117 #[.slice o l.length cap,.iface 221 (.agg #[.int .i64 id,.int .i64 g])] w fun e w'=> ∃v,e=.returned (.tuple #[v,.bool (!Q0x l id)])∧(Q0x l id=true→v=.slice none 0 0)∧(Q0x l id=false→Q1i w' w.heap.size v (l.take (Q0d l id)++(id,g,false)::l.drop (Q0d l id)))∧Below w.heap.size w w':=by
 have hp:=fun w hR=> Q3B o cap l id w hR (by omega)
 have HP:=Q02 (Q3U l id);generalize Q0x l id=t at hp ⊢;generalize Q0d l id=pl at hp HP ⊢
 have hta:∀w,Sem.run Tryz.prog (Instr.typeAssert (.iface 221 (.agg #[.int .i64 id,.int .i64 g])) 179 221 true) w=.ok (.tuple #[.agg #[.int .i64 id,.int .i64 g],.bool true]) w:=fun w=> by kernel_rfl
 have eW:∀args w,(callFunc 213 args).run Tryz.prog w=.ok (.enter 213 args) w:=enters_of Tryz.func213 (by kernel_rfl) rfl
 cases t
 ·go_enter Tryz.func117,Tryz.ntmps117
  go_wp2_with fail
  rw [Q3P (x:=Sem.run Tryz.prog (method _ _ (.agg #[.int .i64 id,.int .i64 g]) _) w) (y:=Result.ok (213,.agg #[.int .i64 id]) w) ?hm]
  case hm=> kernel_rfl
  go_wp2_with (first|(go_at_call 213;refine (Q2V id _).mono ?_;rintro e w1 ⟨rfl,hb0⟩;have hR1:=Q02 ((RdL.kept hR hb0 (Kaq _)).le hb0.size);have HB0:=Q02 hb0;clear hb0)|(go_at_call 159;refine (hp _ hR1.out).mono ?_;rintro e w2 ⟨rfl,hb1⟩;have hR2:=Q02 ((RdL.kept hR1.out hb1 (Kaq _)).le hb1.size);have HB1:=Q02 hb1;clear hb1)|(go_at_call 119;refine (Q1J o cap l _ (Q6r hR2.out _) hn (by omega)).mono ?_;rintro e w3 ⟨v3,rfl,hv3,hb3⟩;have HV3:=Q02 hv3;have HB3:=Q02 hb3;clear hv3 hb3)|(go_at_call 160;refine (QgK _ pl v3 l id g false w3 _ HV3.out HB3.out.size HP.out hl).mono ?_;rintro e w4 ⟨v4,rfl,hv4,hb4⟩;have HV4:=Q02 hv4;have HB4:=Q02 hb4;clear hv4 hb4))
  go_ret2
  have s1:=HB0.out.size;have s2:=HB1.out.size;have B2:Below w.heap.size w w2:=HB0.out.trans (HB1.out.mono s1);have B2a:=B2.alloc (Kdq s1 s2) (.cells #[.int .i64 id,.int .i64 g] 221);have s3:=B2a.size
  refine ⟨_,rfl, ?_,fun _=> Q04 HV4.out s3,(B2a.trans (HB3.out.mono s3)).trans (HB4.out.mono s3)⟩
  intro h;cases h
 ·go_enter Tryz.func117,Tryz.ntmps117
  go_wp2_with fail
  rw [Q3P (x:=Sem.run Tryz.prog (method _ _ (.agg #[.int .i64 id,.int .i64 g]) _) w) (y:=Result.ok (213,.agg #[.int .i64 id]) w) ?hm]
  case hm=> kernel_rfl
  go_wp2_with (first|(go_at_call 213;refine (Q2V id _).mono ?_;rintro e w1 ⟨rfl,hb0⟩;have hR1:=Q02 ((RdL.kept hR hb0 (Kaq _)).le hb0.size);have HB0:=Q02 hb0;clear hb0)|(go_at_call 159;refine (hp _ hR1.out).mono ?_;rintro e w2 ⟨rfl,hb1⟩;have HB1:=Q02 hb1;clear hb1))
  go_ret2
  refine ⟨_,rfl,fun _=> rfl, ?_, ?_⟩
  ·intro h;cases h
  ·exact (HB0.out.trans (HB1.out.mono HB0.out.size)).alloc (Kdq HB0.out.size HB1.out.size) _
theorem Q8P {l:List Bk} {id:Int} (h:Q0x l id=true):Q0d l id < l.length:=by
 unfold Q0x at h;simp at h;exact h.1
theorem Qdt (base pl:Nat) (v:Value) (l:List Bk) (w w1:World) (hv:Q1i w base v l) (hb:base≤w.heap.size) (hB:Below w.heap.size w w1) (hp:pl < l.length) (hl:l.length≤1000):
  Calls Tryz.prog 161 #[v,.int .i64 pl,.int .i64 ((pl:Int)+1)] w1 fun e w'=> ∃v,e=.returned v∧Q1i w' base v (l.take pl++l.drop (pl+1))∧Below base w w':=by
 have hv2:Q1i w1 base v l:=Q03 hv hB
 rcases hv.2 with ⟨h1,h2⟩|⟨g,c,cur,h1,hbg,hc,_⟩
 ·omega
 ·subst h1
  refine (Q6f base g c pl l w1 hv2 hp hl).mono ?_
  rintro e w' ⟨v,rfl,h1,h2⟩
  exact ⟨v,rfl,h1,(hB.mono hb).grown h2 (Kdq hb hB.size) (fun k e=> by cases e;exact hbg)⟩
theorem Q8T (o:Option Addr) (cap:Nat) (l:List Bk) (id:Int) (w:World) (hR:RdK w.heap.size w o l) (hn:o=none→cap=0) (hl:l.length≤1000):
  Calls Tryz.prog 117 #[.slice o l.length cap,.iface 225 (.agg #[.int .i64 id])] w fun e w'=> ∃v,e=.returned (.tuple #[v,.bool (Q0x l id)])∧(Q0x l id=false→v=.slice none 0 0)∧(Q0x l id=true→Q1i w' w.heap.size v (l.take (Q0d l id)++l.drop (Q0d l id+1)))∧Below w.heap.size w w':=by
 have hp:=fun w hR=> Q3B o cap l id w hR (by omega)
 have HP:=Q02 (Q8P (l:=l) (id:=id));generalize Q0x l id=t at hp HP ⊢;generalize Q0d l id=pl at hp HP ⊢
 have hta:∀w,Sem.run Tryz.prog (Instr.typeAssert (.iface 225 (.agg #[.int .i64 id])) 179 221 true) w=.ok (.tuple #[.agg #[.int .i64 0,.int .i64 0],.bool false]) w:=fun w=> by kernel_rfl
 have htb:∀w,Sem.run Tryz.prog (Instr.typeAssert (.iface 225 (.agg #[.int .i64 id])) 179 222 true) w=.ok (.tuple #[.agg #[.int .i64 0,.int .i64 0],.bool false]) w:=fun w=> by kernel_rfl
 have htc:∀w,Sem.run Tryz.prog (Instr.typeAssert (.iface 225 (.agg #[.int .i64 id])) 179 224 true) w=.ok (.tuple #[.agg #[.int .i64 0],.bool false]) w:=fun w=> by kernel_rfl
 have htd:∀w,Sem.run Tryz.prog (Instr.typeAssert (.iface 225 (.agg #[.int .i64 id])) 179 225 true) w=.ok (.tuple #[.agg #[.int .i64 id],.bool true]) w:=fun w=> by kernel_rfl
 have eW:∀args w,(callFunc 213 args).run Tryz.prog w=.ok (.enter 213 args) w:=enters_of Tryz.func213 (by kernel_rfl) rfl
 cases t
 ·go_enter Tryz.func117,Tryz.ntmps117
  go_wp2_with fail
  rw [Q3P (x:=Sem.run Tryz.prog (method _ _ (.agg #[.int .i64 id]) _) w) (y:=Result.ok (213,.agg #[.int .i64 id]) w) ?hm]
  case hm=> kernel_rfl
  go_wp2_with (first|(go_at_call 213;refine (Q2V id _).mono ?_;rintro e w1 ⟨rfl,hb0⟩;have hR1:=Q02 ((RdL.kept hR hb0 (Kaq _)).le hb0.size);have HB0:=Q02 hb0;clear hb0)|(go_at_call 159;refine (hp _ hR1.out).mono ?_;rintro e w2 ⟨rfl,hb1⟩;have HB1:=Q02 hb1;clear hb1))
  go_ret2
  refine ⟨_,rfl,fun _=> rfl, ?_, ?_⟩
  ·intro h;cases h
  ·exact (HB0.out.trans (HB1.out.mono HB0.out.size)).alloc (Kdq HB0.out.size HB1.out.size) _
 ·have HPL:Hid (pl < l.length):=HP.out rfl
  have z1:IntKind.i64.wrap ((pl:Int)+1)=(pl:Int)+1:=by have:=HP.out rfl;rw [IntKind.wrap_i64];omega
  go_enter Tryz.func117,Tryz.ntmps117
  go_wp2_with fail
  rw [Q3P (x:=Sem.run Tryz.prog (method _ _ (.agg #[.int .i64 id]) _) w) (y:=Result.ok (213,.agg #[.int .i64 id]) w) ?hm]
  case hm=> kernel_rfl
  go_wp2_with (first|(go_at_call 213;refine (Q2V id _).mono ?_;rintro e w1 ⟨rfl,hb0⟩;have hR1:=Q02 ((RdL.kept hR hb0 (Kaq _)).le hb0.size);have HB0:=Q02 hb0;clear hb0)|(go_at_call 159;refine (hp _ hR1.out).mono ?_;rintro e w2 ⟨rfl,hb1⟩;have hR2:=Q02 ((RdL.kept hR1.out hb1 (Kaq _)).le hb1.size);have HB1:=Q02 hb1;clear hb1)|(go_at_call 119;refine (Q1J o cap l _ (Q6r hR2.out _) hn (by omega)).mono ?_;rintro e w3 ⟨v3,rfl,hv3,hb3⟩;have HV3:=Q02 hv3;have HB3:=Q02 hb3;clear hv3 hb3)|(go_at_call 161;refine (Qdt _ pl v3 l w3 _ HV3.out HB3.out.size (((Below.refl w3.heap.size w3).alloc (Kaq _) _)) HPL.out hl).mono ?_;rintro e w4 ⟨v4,rfl,hv4,hb4⟩;have HV4:=Q02 hv4;have HB4:=Q02 hb4;clear hv4 hb4)|(go_at_call 161;refine (Qdt _ pl v3 l w3 _ HV3.out HB3.out.size (Below.refl w3.heap.size w3) HPL.out hl).mono ?_;rintro e w4 ⟨v4,rfl,hv4,hb4⟩;have HV4:=Q02 hv4;have HB4:=Q02 hb4;clear hv4 hb4))
  go_ret2
  have s1:=HB0.out.size;have s2:=HB1.out.size;have B2:Below w.heap.size w w2:=HB0.out.trans (HB1.out.mono s1);have B2a:=B2.alloc (Kdq s1 s2) (.cells #[.int .i64 0,.int .i64 0] 221);have s3:=B2a.size
  refine ⟨_,rfl, ?_,fun _=> Q04 HV4.out s3,(B2a.trans (HB3.out.mono s3)).trans (HB4.out.mono s3)⟩
  intro h;cases h
theorem Q9v {α:Type} (L:Lay α) {u:Value} {a:α} {j:Nat} (hj:j < L.k):∀{l:List α} {k:Nat},k < l.length→L.cs a=(L.cs (l.getD k L.d)).set j u→(l.flatMap L.cs).set (k * L.k+j) u=(l.set k a).flatMap L.cs
 |[],k,hk,ha=> by simp at hk
 |x::l,0,hk,ha=> by
  simp only [List.flatMap_cons,List.set_cons_zero,Nat.zero_mul,Nat.zero_add]
  rw [ha,List.set_append_left _ _ (by rw [L.len];exact hj)]
  rfl
 |x::l,k+1,hk,ha=> by
  simp only [List.flatMap_cons,List.set_cons_succ]
  rw [List.set_append_right _ _ (by rw [L.len,Nat.succ_mul];omega),L.len]
  have e:(k+1) * L.k+j - L.k=k * L.k+j:=by rw [Nat.succ_mul];omega
  rw [e,Q9v L hj (l:=l) (k:=k) (by simpa using hk) (by simpa using ha)]
theorem QbD {l:List Bk} {id:Int} (h:Q0x l id=true):(l.getD (Q0d l id) (0,0,false)).1=id:=by
 unfold Q0x at h;simp only [Bool.and_eq_true,beq_iff_eq] at h;exact h.2
theorem QhS {b:Bk} {id g:Int} (h:b.1=id):Q12.cs (id,g,b.2.2)=(Q12.cs b).set 1 (.int .i64 g):=by subst h;rfl
theorem QhW {b:Bk} {id:Int} (h:b.1=id):Q12.cs (id,b.2.1,true)=(Q12.cs b).set 2 (.bool true):=by subst h;rfl
theorem Qby {w:World} {base:Nat} {v:Value} {l:List Bk} (h:Q1i w base v l) {pl:Nat} (hp:pl < l.length) (A:Obj):
  ∃g c,v=.slice (some ⟨g,0,none⟩) l.length c∧base≤g∧(w.alloc A).ownsRow base 119 3 (.slice (some ⟨g,0,none⟩) l.length c) l.length (l.flatMap Q12.cs):=by
 rcases h.2 with ⟨h1,h2⟩|⟨g,c,cur,h1,hb,_⟩
 ·omega
 ·subst h1
  exact ⟨g,c,rfl,hb,World.ownsRow.alloc h A⟩
theorem Q7L {w:World} {base g c:Nat} {l:List Bk} (h:w.ownsRow base 119 3 (.slice (some ⟨g,0,none⟩) l.length c) l.length (l.flatMap Q12.cs)) {pl:Nat} (hp:pl < l.length) (j:Nat) (hj:j < 3):∃u,w.cell? ⟨g,pl * 3+j,none⟩=some u:=by
 have hln:(l.flatMap Q12.cs).length=l.length * 3:=by rw [Q0s];rfl
 exact ⟨_,(h.cellAt (pl * 3+j) (by omega)).trans (List.getElem?_eq_getElem (by omega))⟩
theorem Q9P {w:World} {base g c:Nat} {l:List Bk} (h:w.ownsRow base 119 3 (.slice (some ⟨g,0,none⟩) l.length c) l.length (l.flatMap Q12.cs)) {pl:Nat} (hp:pl < l.length) (j:Nat) (hj:j < 3) (u:Value) {a:Bk} (ha:Q12.cs a=(Q12.cs (l.getD pl Q12.d)).set j u):Q1i (w.setCell ⟨g,pl * 3+j,none⟩ u) base (.slice (some ⟨g,0,none⟩) l.length c) (l.set pl a):=by
 have h1:=(h.stored (pl * 3+j) u).1
 rw [show pl * 3+j=pl * Q12.k+j from rfl,Q9v Q12 (a:=a) hj hp ha] at h1
 unfold Q1i ownL
 rw [List.length_set]
 exact h1
theorem Qam (o:Option Addr) (cap:Nat) (l:List Bk) (id g:Int) (w:World) (hR:RdK w.heap.size w o l) (hn:o=none→cap=0) (hl:l.length≤1000):
  Calls Tryz.prog 117 #[.slice o l.length cap,.iface 222 (.agg #[.int .i64 id,.int .i64 g])] w fun e w'=> ∃v,e=.returned (.tuple #[v,.bool (Q0x l id)])∧(Q0x l id=false→v=.slice none 0 0)∧(Q0x l id=true→Q1i w' w.heap.size v (l.set (Q0d l id) (id,g,(l.getD (Q0d l id) (0,0,false)).2.2)))∧Below w.heap.size w w':=by
 have hp:=fun w hR=> Q3B o cap l id w hR (by omega)
 have HP:=Q02 (Q8P (l:=l) (id:=id));have HI:=Q02 (QbD (l:=l) (id:=id));generalize Q0x l id=t at hp HP HI ⊢;generalize Q0d l id=pl at hp HP HI ⊢
 have ht0:∀w,Sem.run Tryz.prog (Instr.typeAssert (.iface 222 (.agg #[.int .i64 id,.int .i64 g])) 179 221 true) w=.ok (.tuple #[.agg #[.int .i64 0,.int .i64 0],.bool false]) w:=fun w=> by kernel_rfl
 have ht1:∀w,Sem.run Tryz.prog (Instr.typeAssert (.iface 222 (.agg #[.int .i64 id,.int .i64 g])) 179 222 true) w=.ok (.tuple #[.agg #[.int .i64 id,.int .i64 g],.bool true]) w:=fun w=> by kernel_rfl
 have eW:∀args w,(callFunc 213 args).run Tryz.prog w=.ok (.enter 213 args) w:=enters_of Tryz.func213 (by kernel_rfl) rfl
 cases t
 ·go_enter Tryz.func117,Tryz.ntmps117
  go_wp2_with fail
  rw [Q3P (x:=Sem.run Tryz.prog (method _ _ (.agg #[.int .i64 id,.int .i64 g]) _) w) (y:=Result.ok (213,.agg #[.int .i64 id]) w) ?hm]
  case hm=> kernel_rfl
  go_wp2_with (first|(go_at_call 213;refine (Q2V id _).mono ?_;rintro e w1 ⟨rfl,hb0⟩;have hR1:=Q02 ((RdL.kept hR hb0 (Kaq _)).le hb0.size);have HB0:=Q02 hb0;clear hb0)|(go_at_call 159;refine (hp _ hR1.out).mono ?_;rintro e w2 ⟨rfl,hb1⟩;have HB1:=Q02 hb1;clear hb1))
  go_ret2
  refine ⟨_,rfl,fun _=> rfl, ?_, ?_⟩
  ·intro h;cases h
  ·exact (HB0.out.trans (HB1.out.mono HB0.out.size)).alloc (Kdq HB0.out.size HB1.out.size) _
 ·have HPL:Hid (pl < l.length):=HP.out rfl
  have HI2:=HI.out rfl;have HI3:=Q02 HI2;clear HI2 HI
  have z1:(pl:Int) < (l.length:Int):=by have:=HP.out rfl;omega
  have z0:(0:Int)≤(pl:Int):=by omega
  go_enter Tryz.func117,Tryz.ntmps117
  go_wp2_with fail
  rw [Q3P (x:=Sem.run Tryz.prog (method _ _ (.agg #[.int .i64 id,.int .i64 g]) _) w) (y:=Result.ok (213,.agg #[.int .i64 id]) w) ?hm]
  case hm=> kernel_rfl
  go_wp2_with (first|(go_at_call 213;refine (Q2V id _).mono ?_;rintro e w1 ⟨rfl,hb0⟩;have hR1:=Q02 ((RdL.kept hR hb0 (Kaq _)).le hb0.size);have HB0:=Q02 hb0;clear hb0)|(go_at_call 159;refine (hp _ hR1.out).mono ?_;rintro e w2 ⟨rfl,hb1⟩;have hR2:=Q02 ((RdL.kept hR1.out hb1 (Kaq _)).le hb1.size);have HB1:=Q02 hb1;clear hb1)|(go_at_call 119;refine (Q1J o cap l _ (Q6r hR2.out _) hn (by omega)).mono ?_;rintro e w3 ⟨v3,rfl,hv3,hb3⟩;obtain ⟨g3,c3,rfl,hg3,ho⟩:=Qby hv3 HPL.out (.cells #[.int .i64 id,.int .i64 g] 222);have hc3:=Q7L ho HPL.out 1 (by decide);have hf3:=ho.frozenAt (pl * 3+1);have HO:=Q02 ho;have HB3:=Q02 hb3;have HG3:=Q02 hg3;clear ho hv3 hb3 hg3;obtain ⟨u3,hu3⟩:=hc3))
  go_ret2
  have s1:=HB0.out.size;have s2:=HB1.out.size;have B2:Below w.heap.size w w2:=HB0.out.trans (HB1.out.mono s1);have B2a:=B2.alloc (Kdq s1 s2) (.cells #[.int .i64 0,.int .i64 0] 221);have s3:=B2a.size;have s4:=HB3.out.size;have s5:=HG3.out
  refine ⟨_,rfl, ?_,fun _=> Q04 (Q9P HO.out HPL.out 1 (by decide) (.int .i64 g) (a:=(id,g,(l.getD pl (0,0,false)).2.2)) (QhS HI3.out)) s3,(((B2a.trans (HB3.out.mono s3)).alloc (by omega) _).setCell (p:=⟨g3,pl * 3+1,none⟩) (show w.heap.size≤g3 by omega) _)⟩
  intro h;cases h
theorem Qaf (o:Option Addr) (cap:Nat) (l:List Bk) (id:Int) (w:World) (hR:RdK w.heap.size w o l) (hn:o=none→cap=0) (hl:l.length≤1000):
  Calls Tryz.prog 117 #[.slice o l.length cap,.iface 224 (.agg #[.int .i64 id])] w fun e w'=> ∃v,e=.returned (.tuple #[v,.bool (Q0x l id)])∧(Q0x l id=false→v=.slice none 0 0)∧(Q0x l id=true→Q1i w' w.heap.size v (l.set (Q0d l id) (id,(l.getD (Q0d l id) (0,0,false)).2.1,true)))∧Below w.heap.size w w':=by
 have hp:=fun w hR=> Q3B o cap l id w hR (by omega)
 have HP:=Q02 (Q8P (l:=l) (id:=id));have HI:=Q02 (QbD (l:=l) (id:=id));generalize Q0x l id=t at hp HP HI ⊢;generalize Q0d l id=pl at hp HP HI ⊢
 have ht0:∀w,Sem.run Tryz.prog (Instr.typeAssert (.iface 224 (.agg #[.int .i64 id])) 179 221 true) w=.ok (.tuple #[.agg #[.int .i64 0,.int .i64 0],.bool false]) w:=fun w=> by kernel_rfl
 have ht1:∀w,Sem.run Tryz.prog (Instr.typeAssert (.iface 224 (.agg #[.int .i64 id])) 179 222 true) w=.ok (.tuple #[.agg #[.int .i64 0,.int .i64 0],.bool false]) w:=fun w=> by kernel_rfl
 have ht2:∀w,Sem.run Tryz.prog (Instr.typeAssert (.iface 224 (.agg #[.int .i64 id])) 179 224 true) w=.ok (.tuple #[.agg #[.int .i64 id],.bool true]) w:=fun w=> by kernel_rfl
 have eW:∀args w,(callFunc 213 args).run Tryz.prog w=.ok (.enter 213 args) w:=enters_of Tryz.func213 (by kernel_rfl) rfl
 cases t
 ·go_enter Tryz.func117,Tryz.ntmps117
  go_wp2_with fail
  rw [Q3P (x:=Sem.run Tryz.prog (method _ _ (.agg #[.int .i64 id]) _) w) (y:=Result.ok (213,.agg #[.int .i64 id]) w) ?hm]
  case hm=> kernel_rfl
  go_wp2_with (first|(go_at_call 213;refine (Q2V id _).mono ?_;rintro e w1 ⟨rfl,hb0⟩;have hR1:=Q02 ((RdL.kept hR hb0 (Kaq _)).le hb0.size);have HB0:=Q02 hb0;clear hb0)|(go_at_call 159;refine (hp _ hR1.out).mono ?_;rintro e w2 ⟨rfl,hb1⟩;have HB1:=Q02 hb1;clear hb1))
  go_ret2
  refine ⟨_,rfl,fun _=> rfl, ?_, ?_⟩
  ·intro h;cases h
  ·exact (HB0.out.trans (HB1.out.mono HB0.out.size)).alloc (Kdq HB0.out.size HB1.out.size) _
 ·have HPL:Hid (pl < l.length):=HP.out rfl
  have HI2:=HI.out rfl;have HI3:=Q02 HI2;clear HI2 HI
  have z1:(pl:Int) < (l.length:Int):=by have:=HP.out rfl;omega
  have z0:(0:Int)≤(pl:Int):=by omega
  go_enter Tryz.func117,Tryz.ntmps117
  go_wp2_with fail
  rw [Q3P (x:=Sem.run Tryz.prog (method _ _ (.agg #[.int .i64 id]) _) w) (y:=Result.ok (213,.agg #[.int .i64 id]) w) ?hm]
  case hm=> kernel_rfl
  go_wp2_with (first|(go_at_call 213;refine (Q2V id _).mono ?_;rintro e w1 ⟨rfl,hb0⟩;have hR1:=Q02 ((RdL.kept hR hb0 (Kaq _)).le hb0.size);have HB0:=Q02 hb0;clear hb0)|(go_at_call 159;refine (hp _ hR1.out).mono ?_;rintro e w2 ⟨rfl,hb1⟩;have hR2:=Q02 ((RdL.kept hR1.out hb1 (Kaq _)).le hb1.size);have HB1:=Q02 hb1;clear hb1)|(go_at_call 119;refine (Q1J o cap l _ (Q6r hR2.out _) hn (by omega)).mono ?_;rintro e w3 ⟨v3,rfl,hv3,hb3⟩;obtain ⟨g3,c3,rfl,hg3,ho⟩:=Qby hv3 HPL.out (.cells #[.int .i64 id] 224);have hc3:=Q7L ho HPL.out 2 (by decide);have hf3:=ho.frozenAt (pl * 3+2);have HO:=Q02 ho;have HB3:=Q02 hb3;have HG3:=Q02 hg3;clear ho hv3 hb3 hg3;obtain ⟨u3,hu3⟩:=hc3))
  go_ret2
  have s1:=HB0.out.size;have s2:=HB1.out.size;have B2:Below w.heap.size w w2:=HB0.out.trans (HB1.out.mono s1);have B2a:=B2.alloc (Kdq s1 s2) (.cells #[.int .i64 0,.int .i64 0] 221);have s3:=B2a.size;have s4:=HB3.out.size;have s5:=HG3.out
  refine ⟨_,rfl, ?_,fun _=> Q04 (Q9P HO.out HPL.out 2 (by decide) (.bool true) (a:=(id,(l.getD pl (0,0,false)).2.1,true)) (QhW HI3.out)) s3,(((B2a.trans (HB3.out.mono s3)).alloc (by omega) _).setCell (p:=⟨g3,pl * 3+2,none⟩) (show w.heap.size≤g3 by omega) _)⟩
  intro h;cases h
theorem Q32 (o:Option Addr) (cap:Nat) (l:List Bk) (k i g:Int) (w:World) (hR:RdK w.heap.size w o l) (hn:o=none→cap=0) (hl:l.length≤1000) (hk:Q0E k i g=true):
  Calls Tryz.prog 117 #[.slice o l.length cap,Q84 k i g] w fun e w'=> ∃v,e=.returned (.tuple #[v,.bool (doL l k i g).isSome])∧(∀m,doL l k i g=some m→Q1i w' w.heap.size v m)∧Below w.heap.size w w':=by
 unfold Q84 doL
 by_cases h0:k=0
 ·subst h0
  refine (Qep o cap l i g w hR hn hl).mono ?_
  rintro e w' ⟨v,rfl,_,h2,hb⟩
  refine ⟨v, ?_, ?_,hb⟩
  ·cases Q0x l i <;> rfl
  ·intro m hm
   cases ht:Q0x l i with
   |true=> rw [ht] at hm;simp at hm
   |false=> rw [ht] at hm;simp at hm;rw [←hm];exact h2 ht
 ·have hk0:(k==0)=false:=beq_eq_false_iff_ne.2 h0
  rw [hk0]
  by_cases h1:k=1
  ·subst h1
   refine (Qam o cap l i g w hR hn hl).mono ?_
   rintro e w' ⟨v,rfl,_,h2,hb⟩
   refine ⟨v, ?_, ?_,hb⟩
   ·cases Q0x l i <;> rfl
   ·intro m hm
    cases ht:Q0x l i with
    |false=> rw [ht] at hm;simp at hm
    |true=> rw [ht] at hm;simp at hm;rw [←hm];exact h2 ht
  ·by_cases h2:k=2
   ·subst h2
    refine (Qaf o cap l i w hR hn hl).mono ?_
    rintro e w' ⟨v,rfl,_,h2,hb⟩
    refine ⟨v, ?_, ?_,hb⟩
    ·cases Q0x l i <;> rfl
    ·intro m hm
     cases ht:Q0x l i with
     |false=> rw [ht] at hm;simp at hm
     |true=> rw [ht] at hm;simp at hm;rw [←hm];exact h2 ht
   ·rw [if_neg h0,if_neg h1,if_neg h2]
    refine (Q8T o cap l i w hR hn hl).mono ?_
    rintro e w' ⟨v,rfl,_,h3,hb⟩
    refine ⟨v, ?_, ?_,hb⟩
    ·cases Q0x l i <;> rfl
    ·intro m hm
     cases ht:Q0x l i with
     |false=> rw [ht] at hm;simp at hm
     |true=> rw [ht] at hm;simp [h0,h1,h2] at hm;rw [←hm];exact h3 ht
theorem Qdz:(Tryz.prog.info? 26).map (fun i=> (i.zero,i.size,i.bytes))=some (some (.slice none 0 0),1,24):=by kernel_rfl
theorem QhT:AppOk Q0C 122 26:=⟨Tryz.underlying122,⟨_,_,Qdz,rfl,by decide⟩,by decide,fun a u hu=> by
 simp [Q0C] at hu;subst hu;rfl⟩
theorem QhI:(119:TypeId)≠26:=by decide
structure Served (S:Nat→List Bk) (k:Nat) (w:World) (base:Nat) (hs:List Hd):Prop where
 len:hs.length=k
 row:∀i,i < k→Q1i w base (hv hs i) (S i)
theorem Served.kept {S:Nat→List Bk} {k:Nat} {w w':World} {base:Nat} {hs:List Hd} (h:Served S k w base hs) (hb:Below w.heap.size w w'):Served S k w' base hs:=
 ⟨h.len,fun i hi=> Q03 (h.row i hi) hb⟩
theorem Served.other {S:Nat→List Bk} {k:Nat} {w w':World} {base b2 s2 n2:Nat} {hs:List Hd} {v2:Value} {x2:List Value} (h:Served S k w base hs) (h2:w.ownsRow b2 26 s2 v2 n2 x2) (hg:w.grownBy w' v2.ownBlock):Served S k w' base hs:=
 ⟨h.len,fun i hi=> (h.row i hi).kept hg (Q2c (h.row i hi) h2 QhI)⟩
theorem Served.snoc {S:Nat→List Bk} {k:Nat} {w:World} {base:Nat} {hs:List Hd} {o:Option Addr} {m c:Nat} (h:Served S k w base hs) (hr:Q1i w base (.slice o m c) (S k)):Served S (k+1) w base (hs++[(o,m,c)]):=by
 have hl:=h.len
 refine ⟨by simp [hl],fun i hi=> ?_⟩
 rcases Nat.lt_succ_iff_lt_or_eq.1 hi with h'|h'
 ·rw [Q5u (by omega)];exact h.row i h'
 ·subst h';rw [←hl,Qay,hl];exact hr
def Q0e (cs:List Cd) (q:Nat):List Bk:=(Q1c cs q).getD []
theorem Q54 {w:World} {base:Nat} {o:Option Addr} {n c:Nat} {l:List Bk} (h:Q1i w base (.slice o n c) l):o=none→c=0:=fun e=> (InRow.cap (InRow.of h)) n c (by rw [e])
theorem Q2I {e:TypeId} {w:World} {base g n c:Nat} {hs:List Hd} (h:ownL Q0C e w base (.slice (some ⟨g,0,none⟩) n c) hs) (i:Nat) (hi:i < hs.length):w.cell? ⟨g,i,none⟩=some (hv hs i):=by
 rcases ownL.rd (L:=Q0C) h with h1|⟨b,off,e1,_,r⟩
 ·subst h1;simp at hi
 ·injection e1 with e1
  injection e1 with e2 e3
  subst e2 e3
  have:=r i hi 0 (by decide)
  simpa [Q0C,hv] using this
theorem Q2C {e:TypeId} {w:World} {base:Nat} {v:Value} {hs:List Hd} (h:ownL Q0C e w base v hs) (hp:0 < hs.length):∃g c,v=.slice (some ⟨g,0,none⟩) hs.length c:=by
 rcases h.2 with ⟨h1,h2⟩|⟨g,c,cur,h1,_⟩
 ·omega
 ·exact ⟨g,c,h1⟩
theorem Qhk (w:World) (T:TypeId):ownL Q0C T (w.alloc (.cells #[.slice none 0 0] T)) w.heap.size (.slice (some ⟨w.heap.size,0,none⟩) 1 1) [(none,0,0)]:=
 ⟨by simp [Q0C],.inr ⟨w.heap.size,1,#[.slice none 0 0],rfl,Kaq _,heap_alloc_new w _,by simp,by unfold maxLen;omega,by simp [Q0C],by simp [Q0C]⟩⟩
theorem QfX {cs:List Cd} {k:Nat} (hk:k < cs.length) (h:Q6b (Q1c cs k) (cs.getD k (0,0,0))=none):(Q1c cs cs.length).isSome=false:=by
 rw [←Q37 hk] at h
 rw [Q7Y h (by omega)];rfl
theorem Qhp {w:World} {o:Option Addr} {n c:Nat} {T:TypeId}:RdL Q0C (w.alloc (.cells #[.slice o n c] T)).heap.size (w.alloc (.cells #[.slice o n c] T)) (some ⟨w.heap.size,0,none⟩) [(o,n,c)]:=
 .inr ⟨w.heap.size,0,rfl,by simp,fun i hi j hj=> by
  have e1:i=0:=by simpa using hi
  have e2:j=0:=by simpa [Q0C] using hj
  subst e1 e2
  simp [Q0C]⟩
theorem Q7Z (key safe:Int) (b off cap:Nat) (cs:List Cd) (w:World) (hbl:cs.length≠0→b < w.heap.size) (hcell:∀i,i < cs.length→∀j,j < Q3N.k→w.cell? ⟨b,off+i * Q3N.k+j,none⟩=(Q3N.cs (cs.getD i Q3N.d))[j]?) (hk:Q1C key=true) (hl:cs.length≤100) (h0:0≤safe) (h1:safe≤(cs.length:Int)) (ob:Option Addr) (hob:cs.length≠0→ob=some ⟨b,off,none⟩):
  Calls Tryz.prog 67 #[jrn key (.slice ob cs.length cap) safe] w fun e w'=> ∃v,e=.returned (.tuple #[v,.bool (Q1c cs cs.length).isSome])∧((Q1c cs cs.length).isSome=true→∃hs,ownL Q0C 26 w' w.heap.size v hs∧Served (Q0e cs) (cs.length+1) w' w.heap.size hs)∧Below w.heap.size w w':=by
 have hik:=Q0S key
 rw [hk] at hik
 have HC:=Q02 hcell;have HOB:=Q02 hob;have HBL:=Q02 hbl
 have q1:decide (100 < (cs.length:Int))=false:=decide_eq_false (by omega)
 have q2:decide (safe < 0)=false:=decide_eq_false (by omega)
 have q3:decide ((cs.length:Int) < safe)=false:=decide_eq_false (by omega)
 have HN:=Q02 hl;clear hcell hob hbl h0 h1;obtain ⟨W0,hW0⟩:∃W,(w.alloc (.cells #[.int .i64 key,.slice ob cs.length cap,.int .i64 safe] 25))=W:=⟨_,rfl⟩
 have hb_W0:Below w.heap.size w W0:=by rw [←hW0];exact ((Below.refl _ _).alloc (Kaq _) _)
 have HB:=Q02 hb_W0;clear hb_W0
 have zz:w.heap.size < W0.heap.size:=by rw [←hW0];simp
 obtain ⟨z0,z1,z2⟩:=alc3v0v1 hW0;have z0w:=z0;have z1w:=z1;have z2w:=z2;obtain ⟨W1,hW1⟩:∃W,(W0.alloc (.cells #[.slice none 0 0] 26))=W:=⟨_,rfl⟩
 have hb_W1:Below W0.heap.size W0 W1:=by rw [←hW1];exact ((Below.refl _ _).alloc (Kaq _) _)
 replace z0:W1.cell? ⟨w.heap.size,0,none⟩=some (.int .i64 key):=(hb_W1.cell (p:=⟨w.heap.size,0,none⟩) zz).trans z0;replace z1:W1.cell? ⟨w.heap.size,1,none⟩=some (.slice ob cs.length cap):=(hb_W1.cell (p:=⟨w.heap.size,1,none⟩) zz).trans z1;replace z2:W1.cell? ⟨w.heap.size,2,none⟩=some (.int .i64 safe):=(hb_W1.cell (p:=⟨w.heap.size,2,none⟩) zz).trans z2;replace zz:w.heap.size < W1.heap.size:=Kbq zz hb_W1.size;replace HB:=Q02 (HB.out.trans (hb_W1.mono HB.out.size));clear hb_W1
 have zq:W0.heap.size < W1.heap.size:=by rw [←hW1];simp
 have q0:W1.cell? ⟨W0.heap.size,0,none⟩=some (.slice none 0 0):=by rw [←hW1];simp [go_sem]
 have HF:Hid (ownL Q0C 26 W1 w.heap.size (.slice (some ⟨W0.heap.size,0,none⟩) 1 1) [(none,0,0)]):=by rw [←hW1];exact Q04 (Qhk W0 _) (Nat.le_of_lt (by have:=zz;rw [←hW0];simp))
 go_enter Tryz.func67,Tryz.ntmps67
 go_wp2_with (go_at_call 115;refine (hik _).mono ?_;rintro e w9 ⟨rfl,rfl⟩)
 go_loopw [4,38] (fun sv iv wr=> ∃(k:Nat) (hs:List Hd),k≤cs.length∧iv=.int .i64 (k:Int)∧Hid (ownL Q0C 26 wr w.heap.size sv hs)∧Hid (Served (Q0e cs) (k+1) wr w.heap.size hs)∧Hid ((Q1c cs k).isSome=true)∧Hid (Below w.heap.size w wr))
  (fun _ iv _=> cs.length - (intOf iv).toNat)
 case atStart=> exact ⟨0,_,Kcq _,rfl,HF.out,⟨rfl,fun i hi=> by have e:i=0:=(by omega);subst e;exact World.ownsRow_nil _ _ _ _⟩,rfl,HB.out⟩
 case round=>
  clear z0 z1 z2 zz q0 zq z0w z1w z2w hW0 hW1 HF hik HB;obtain ⟨k,hs,hkn,rfl,HO,HS,HRUN,HB⟩:=hrel
  by_cases hlt:k < cs.length
  ·skip
   have hlt':(k:Int) < (cs.length:Int):=by omega
   have hob:=HOB.out (by omega)
   have hbl:=HBL.out (by omega)
   subst hob;obtain ⟨l,hl0⟩:=Option.isSome_iff_exists.1 HRUN.out
   have hsl:Q0e cs k=l:=by unfold Q0e;rw [hl0];rfl
   obtain ⟨hbo,hll⟩:=Q5g k l (by omega) hl0
   obtain ⟨c0,c1,c2⟩:=RdL.cmd (C:=w.heap.size) HC.out k hlt;replace c0:=(HB.out.cell (p:=⟨b,off+k * 3,none⟩) hbl).trans c0;replace c1:=(HB.out.cell (p:=⟨b,off+k * 3+1,none⟩) hbl).trans c1;replace c2:=(HB.out.cell (p:=⟨b,off+k * 3+2,none⟩) hbl).trans c2;have HNX:=Q02 (Q37 hlt);obtain ⟨x,y,u,hxyu⟩:∃x y u,cs.getD k (0,0,0)=(x,y,u):=⟨_,_,_,rfl⟩
   rw [hxyu] at c0 c1 c2 HNX
   have HST:=Q02 (fun h=> QfX hlt (hxyu ▸ h):Q6b (Q1c cs k) (x,y,u)=none→(Q1c cs cs.length).isSome=false)
   rw [hl0] at HNX HST
   simp only [Q6b,Option.bind_some] at c0 c1 c2 HNX HST
   clear hxyu HRUN;have HLN:=Q02 HS.out.len
   obtain ⟨g,c,e⟩:=Q2C HO.out (by rw [HLN.out];omega)
   subst e
   have hnk:(k:Int) < (hs.length:Int):=by have:=HLN.out;omega
   cases hc:Q0E x y u with
   |false=>
    rw [hc] at HST
    have HEND:=Q02 (HST.out (by simp))
    clear HST HNX;obtain ⟨W2,hW2⟩:∃W,(wr.alloc (.cells #[.int .i64 x,.int .i64 y,.int .i64 u] 77))=W:=⟨_,rfl⟩
    have hb_W2:Below wr.heap.size wr W2:=by rw [←hW2];exact ((Below.refl _ _).alloc (Kaq _) _)
    replace HS:=Q02 (HS.out.kept hb_W2);replace HO:=Q02 (Q03 HO.out hb_W2);replace HB:=Q02 (HB.out.trans (hb_W2.mono HB.out.size));clear hb_W2
    have zm:wr.heap.size < W2.heap.size:=by rw [←hW2];simp
    obtain ⟨m0,m1,m2⟩:=alc3v0v1 hW2;have HD:=Q02 (Q4j x y u W2)
    rw [hc] at HD
    simp only [Bool.false_eq_true,if_false] at HD
    clear hc
    go_wp2_with fail
    refine (HD.out).mono ?_
    rintro e v1 ⟨rfl,hb⟩
    replace m0:v1.cell? ⟨wr.heap.size,0,none⟩=some (.int .i64 x):=(hb.cell (p:=⟨wr.heap.size,0,none⟩) zm).trans m0;replace m1:v1.cell? ⟨wr.heap.size,1,none⟩=some (.int .i64 y):=(hb.cell (p:=⟨wr.heap.size,1,none⟩) zm).trans m1;replace m2:v1.cell? ⟨wr.heap.size,2,none⟩=some (.int .i64 u):=(hb.cell (p:=⟨wr.heap.size,2,none⟩) zm).trans m2;replace zm:wr.heap.size < v1.heap.size:=Kbq zm hb.size;replace HS:=Q02 (HS.out.kept hb);replace HO:=Q02 (Q03 HO.out hb);replace HB:=Q02 (HB.out.trans (hb.mono HB.out.size));clear hb
    go_wp2
    go_ret2
    refine ⟨.slice none 0 0, ?_, ?_,HB.out⟩
    ·rw [HEND.out];rfl
    ·intro h;rw [HEND.out] at h;cases h
   |true=>
    rw [hc] at HST HNX
    simp only [if_true] at HST HNX
    obtain ⟨W2,hW2⟩:∃W,(wr.alloc (.cells #[.int .i64 x,.int .i64 y,.int .i64 u] 77))=W:=⟨_,rfl⟩
    have hb_W2:Below wr.heap.size wr W2:=by rw [←hW2];exact ((Below.refl _ _).alloc (Kaq _) _)
    replace HS:=Q02 (HS.out.kept hb_W2);replace HO:=Q02 (Q03 HO.out hb_W2);replace HB:=Q02 (HB.out.trans (hb_W2.mono HB.out.size));clear hb_W2
    have zm:wr.heap.size < W2.heap.size:=by rw [←hW2];simp
    obtain ⟨m0,m1,m2⟩:=alc3v0v1 hW2;have HD:=Q02 (Q4j x y u W2)
    rw [hc] at HD
    simp only [if_true] at HD
    have HA:=Q02 (fun o c W h1 h2=> Q32 o c l x y u W h1 h2 (by have:=HN.out;omega) hc)
    generalize Q84 x y u=dv at *;clear hc
    go_wp2_with fail
    refine (HD.out).mono ?_
    rintro e v1 ⟨rfl,hb⟩
    replace m0:v1.cell? ⟨wr.heap.size,0,none⟩=some (.int .i64 x):=(hb.cell (p:=⟨wr.heap.size,0,none⟩) zm).trans m0;replace m1:v1.cell? ⟨wr.heap.size,1,none⟩=some (.int .i64 y):=(hb.cell (p:=⟨wr.heap.size,1,none⟩) zm).trans m1;replace m2:v1.cell? ⟨wr.heap.size,2,none⟩=some (.int .i64 u):=(hb.cell (p:=⟨wr.heap.size,2,none⟩) zm).trans m2;replace zm:wr.heap.size < v1.heap.size:=Kbq zm hb.size;replace HS:=Q02 (HS.out.kept hb);replace HO:=Q02 (Q03 HO.out hb);replace HB:=Q02 (HB.out.trans (hb.mono HB.out.size));clear hb
    obtain ⟨o',c',e',hr'⟩:=ownL.open (L:=Q12) (HS.out.row k (by omega))
    rw [hsl] at e' hr'
    have hcl:=Q2I HO.out k (by rw [HLN.out];omega)
    rw [e'] at hcl
    have hown:=HS.out.row k (by omega)
    rw [e',hsl] at hown
    have HA2:=Q02 (HA.out o' c' v1 hr' (Q54 hown));clear hr' hown HA HD e'
    cases hdo:doL l x y u with
    |none=>
     rw [hdo] at HST HA2
     have HEND:=Q02 (HST.out rfl)
     simp only [Option.isSome_none] at HA2
     clear HST HNX hdo
     go_wp2_with fail
     refine (HA2.out).mono ?_
     rintro e v2 ⟨v9,rfl,_,hb⟩
     replace m0:v2.cell? ⟨wr.heap.size,0,none⟩=some (.int .i64 x):=(hb.cell (p:=⟨wr.heap.size,0,none⟩) zm).trans m0;replace m1:v2.cell? ⟨wr.heap.size,1,none⟩=some (.int .i64 y):=(hb.cell (p:=⟨wr.heap.size,1,none⟩) zm).trans m1;replace m2:v2.cell? ⟨wr.heap.size,2,none⟩=some (.int .i64 u):=(hb.cell (p:=⟨wr.heap.size,2,none⟩) zm).trans m2;replace zm:wr.heap.size < v2.heap.size:=Kbq zm hb.size;replace HS:=Q02 (HS.out.kept hb);replace HO:=Q02 (Q03 HO.out hb);replace HB:=Q02 (HB.out.trans (hb.mono HB.out.size));clear hb
     go_wp2
     go_ret2
     refine ⟨.slice none 0 0, ?_, ?_,HB.out⟩
     ·rw [HEND.out];rfl
     ·intro h;rw [HEND.out] at h;cases h
    |some m=>
     rw [hdo] at HNX HA2
     simp only [Option.isSome_some] at HA2
     have hlm:=Q85 hdo;have HBP:=Q02 HB.out.size;clear HST hdo
     go_wp2_with fail
     refine (HA2.out).mono ?_
     rintro e v2 ⟨v9,rfl,hown9,hb⟩
     have HW:=Q02 (hown9 m rfl);have hs9:=hb.size;clear hown9;replace m0:v2.cell? ⟨wr.heap.size,0,none⟩=some (.int .i64 x):=(hb.cell (p:=⟨wr.heap.size,0,none⟩) zm).trans m0;replace m1:v2.cell? ⟨wr.heap.size,1,none⟩=some (.int .i64 y):=(hb.cell (p:=⟨wr.heap.size,1,none⟩) zm).trans m1;replace m2:v2.cell? ⟨wr.heap.size,2,none⟩=some (.int .i64 u):=(hb.cell (p:=⟨wr.heap.size,2,none⟩) zm).trans m2;replace zm:wr.heap.size < v2.heap.size:=Kbq zm hb.size;replace HS:=Q02 (HS.out.kept hb);replace HO:=Q02 (Q03 HO.out hb);replace HB:=Q02 (HB.out.trans (hb.mono HB.out.size));clear hb
     obtain ⟨o9,c9,e9,_⟩:=ownL.open (L:=Q12) HW.out
     rw [e9] at HW ⊢
     clear e9;replace HW:=Q02 (Q04 HW.out (show w.heap.size≤_ from HBP.out))
     have HS2:=Q02 (Served.snoc HS.out (show Q1i _ w.heap.size (.slice o9 m.length c9) (Q0e cs (k+1)) by unfold Q0e;rw [HNX.out];exact HW.out))
     have HRN:=Q02 (show (Q1c cs (k+1)).isSome=true by rw [HNX.out];rfl)
     have hszz:=HB.out.size;generalize m.length=ml at *
     go_wp2_with (at_builtin;refine Q07 QhT rfl (.tmp 61) (.tmp 63) rfl w.heap.size _ hs rfl (HO.out.alloc _) (some ⟨v2.heap.size,0,none⟩) 1 (v2.alloc (.cells #[.slice o9 ml c9] 26)).heap.size [(o9,ml,c9)] 1 rfl rfl ?c0 Qhp ?c1 ?c2 ?_)
     case c0=> intro h;cases h
     case c1=> have:=HLN.out;have:=HN.out;simp;omega
     case c2=> simp;omega
     intro v5 w5 ho5 hg5 _
     have HA5:=Q02 (World.ownsRow.alloc HO.out (.cells #[.slice o9 ml c9] 26));have HS5:=Q02 (Served.other (HS2.out.kept ((Below.refl _ _).alloc (Kaq _) (.cells #[.slice o9 ml c9] 26))) HA5.out hg5)
     have HB5:=Q02 ((HB.out.alloc hszz _).grown hg5 (by simp;omega) (fun k h=> (HA5.out.lt k h).1))
     have HO5:=Q02 ho5;clear hg5 ho5
     go_wp2
     go_roundw
     case rel=> exact ⟨k+1,_,by omega,by go_num,HO5.out,HS5.out,HRN.out,HB5.out⟩
     case measure=> simp [intOf];omega
  ·have e:k=cs.length:=by omega
   subst e;clear HC HOB HBL
   go_wp2
   go_ret2
   refine ⟨u4, ?_,fun _=> ⟨hs,HO.out,HS.out⟩,HB.out⟩
   rw [HRUN.out];rfl
theorem Q9d (key safe:Int) (o:Option Addr) (cap:Nat) (cs:List Cd) (w:World) (hR:RdC w.heap.size w o cs) (hl:cs.length≤1048576):
  Calls Tryz.prog 67 #[jrn key (.slice o cs.length cap) safe] w fun e w'=> ∃v,e=.returned (.tuple #[v,.bool (Q0p key cs safe)])∧(Q0p key cs safe=true→∃hs,ownL Q0C 26 w' w.heap.size v hs∧Served (Q0e cs) (cs.length+1) w' w.heap.size hs)∧Below w.heap.size w w':=by
 by_cases hall:Q1C key=true∧cs.length≤100∧0≤safe∧safe≤(cs.length:Int)
 ·obtain ⟨h1,h2,h3,h4⟩:=hall
  have e:Q0p key cs safe=(Q1c cs cs.length).isSome:=by unfold Q0p;simp [h1,h2,h3,h4]
  rw [e]
  rcases hR with hR|⟨b,off,rfl,hbl,hcell⟩
  ·subst hR
   exact Q7Z key safe 0 0 cap [] w (fun h=> absurd rfl h) (fun i hi=> absurd hi (Nat.not_lt_zero _)) h1 h2 h3 h4 o (fun h=> absurd rfl h)
  ·exact Q7Z key safe b off cap cs w (fun _=> hbl) hcell h1 h2 h3 h4 _ (fun _=> rfl)
 have HE:=Q02 (show Q0p key cs safe=false by
  rw [Bool.eq_false_iff];intro h;unfold Q0p at h;simp only [Bool.and_eq_true,decide_eq_true_eq] at h;exact hall ⟨h.1.1.1.1,h.1.1.1.2,h.1.1.2,h.1.2⟩)
 have hik:=Q0S key;obtain ⟨W0,hW0⟩:∃W,(w.alloc (.cells #[.int .i64 key,.slice o cs.length cap,.int .i64 safe] 25))=W:=⟨_,rfl⟩
 have hb_W0:Below w.heap.size w W0:=by rw [←hW0];exact ((Below.refl _ _).alloc (Kaq _) _)
 have HB:=Q02 hb_W0;clear hb_W0
 have zz:w.heap.size < W0.heap.size:=by rw [←hW0];simp
 obtain ⟨z0,z1,z2⟩:=alc3v0v1 hW0;clear hR
 cases hk:Q1C key with
 |false=>
  rw [hk] at hik
  clear hall
  go_enter Tryz.func67,Tryz.ntmps67
  go_wp2_with (go_at_call 115;refine (hik _).mono ?_;rintro e w9 ⟨rfl,rfl⟩)
  go_ret2
  refine ⟨.slice none 0 0, ?_, ?_,HB.out⟩
  ·rw [HE.out];rfl
  ·intro h;rw [HE.out] at h;cases h
 |true=>
  by_cases h2:cs.length≤100
  ·by_cases h3:0≤safe
   ·by_cases h4:safe≤(cs.length:Int)
    ·exact absurd ⟨hk,h2,h3,h4⟩ hall
    ·skip
     rw [hk] at hik
     have q1:decide (100 < (cs.length:Int))=false:=decide_eq_false (by omega)
     have q2:decide (safe < 0)=false:=decide_eq_false (by omega)
     have q3:decide ((cs.length:Int) < safe)=true:=decide_eq_true (by omega)
     clear hall
     go_enter Tryz.func67,Tryz.ntmps67
     go_wp2_with (go_at_call 115;refine (hik _).mono ?_;rintro e w9 ⟨rfl,rfl⟩)
     go_ret2
     refine ⟨.slice none 0 0, ?_, ?_,HB.out⟩
     ·rw [HE.out];rfl
     ·intro h;rw [HE.out] at h;cases h
   ·skip
    rw [hk] at hik
    have q1:decide (100 < (cs.length:Int))=false:=decide_eq_false (by omega)
    have q2:decide (safe < 0)=true:=decide_eq_true (by omega)
    clear hall
    go_enter Tryz.func67,Tryz.ntmps67
    go_wp2_with (go_at_call 115;refine (hik _).mono ?_;rintro e w9 ⟨rfl,rfl⟩)
    go_ret2
    refine ⟨.slice none 0 0, ?_, ?_,HB.out⟩
    ·rw [HE.out];rfl
    ·intro h;rw [HE.out] at h;cases h
  ·skip
   rw [hk] at hik
   have q1:decide (100 < (cs.length:Int))=true:=decide_eq_true (by omega)
   clear hall
   go_enter Tryz.func67,Tryz.ntmps67
   go_wp2_with (go_at_call 115;refine (hik _).mono ?_;rintro e w9 ⟨rfl,rfl⟩)
   go_ret2
   refine ⟨.slice none 0 0, ?_, ?_,HB.out⟩
   ·rw [HE.out];rfl
   ·intro h;rw [HE.out] at h;cases h
end Go.Proofs.YtpneolgdghbinaaGreat
