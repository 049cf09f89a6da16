/- Several texts in one: SInsert2, SAfter, SAfter2, SAfter3, STurns. -/
import Derived.Lib.AppendZerosOnto
import Derived.Laws.NewBlocks
import Derived.Deep.DeepAppendWide
import Derived.Test.YtpneolgdghbinaaGreatQLearnsL24
namespace Go.Proofs.YtpneolgdghbinaaGreat
open Go.ChangeShapes Go.WideShapes Go.ChangeAt Go.RowKit Go.Joins
set_option linter.unusedVariables false
set_option linter.unusedSimpArgs false
set_option maxRecDepth 100000
set_option maxHeartbeats 40000000
theorem Qbg {X cs R:List Value} {i n k:Nat} (m:X.length=n * k) (q:R.take (i * k)=X.take (i * k)) (hi:i≤n) (c:cs.length=k) (d:(n+1) * k≤R.length):
  let a:=R.take (i * k)++cs++R.drop (i * k+cs.length)
  (a.take ((i+1) * k)++X.drop (i * k)++a.drop ((i+1) * k+(X.drop (i * k)).length)).take ((n+1) * k)=X.take (i * k)++cs++X.drop (i * k)∧(a.take ((i+1) * k)++X.drop (i * k)++a.drop ((i+1) * k+(X.drop (i * k)).length)).length=R.length∧a.length=R.length:=by
 intro a;have r:(i+1) * k=i * k+k:=Nat.succ_mul i k;have l:(n+1) * k=n * k+k:=Nat.succ_mul n k;have p:i * k≤n * k:=Nat.mul_le_mul_right k hi
 have b:(X.take (i * k)).length=i * k:=by rw [List.length_take];omega
 have h:(X.drop (i * k)).length=n * k - i * k:=by rw [List.length_drop,m]
 have f:a=X.take (i * k)++cs++R.drop (i * k+cs.length):=by show R.take (i * k)++cs++_=_;rw [q]
 have j:a.length=R.length:=by rw [f];simp only [List.length_append,List.length_drop,b,c];omega
 have g:a.take ((i+1) * k)=X.take (i * k)++cs:=by rw [f];exact List.take_left' (by rw [List.length_append,b,c];omega)
 refine ⟨?_, ?_,j⟩
 ·rw [g];exact List.take_left' (by simp only [List.length_append,b,c,h];omega)
 ·rw [g];simp only [List.length_append,List.length_drop,b,c,j]
  rw [List.length_drop] at h;omega
theorem Qc0 (base g cap F i:Nat) (l:List Bk) (b:Bk) (w:World) (hv:Q1w w base (.slice (some ⟨g,0,none⟩) l.length cap) l) (ac:base≤w.heap.size) (hx:w.heap[F]? =some (.cells (Q1d.cs b).toArray 119 (0,0))) (hi:i < l.length) (ad:cap < l.length+1) (hl:l.length≤1000):
  Calls Tryz.prog 160 #[.slice (some ⟨g,0,none⟩) l.length cap,.int .i64 i,.slice (some ⟨F,0,none⟩) 1 1] w fun e w'=> ∃v,e=.returned v∧Q1w w' base v (l.take i++b::l.drop i)∧Below w.heap.size w w':=by
 rcases hv.2 with ⟨D,_⟩|⟨g',c',U,D,hb,hc,h4,h5,h6,h7⟩
 ·cases D
 injection D with D _ h3;injection D with D;injection D with D _ _;subst D h3;obtain ⟨X,R⟩:∃X,X=l.flatMap Q1d.cs:=⟨_,rfl⟩
 have M:U.toList.take (l.length * 3)=X:=by rw [R];exact h7
 have C:X.length=l.length * 3:=by rw [R,Q0n];rfl
 have aj:∀v∈X,v.oneCell'=true:=by rw [R];exact Q5n Q47.one l
 have ag:∀v∈Q1d.cs b,v.oneCell'=true:=fun v hv=> Q47.one b v hv
 have hD:(X.drop (i * 3)).length=(l.length - i) * 3:=by rw [List.length_drop,C];omega
 have ao:g < w.heap.size:=by
  rcases Nat.lt_or_ge g w.heap.size with h|h
  ·exact h
  ·rw [Array.getElem?_eq_none h] at hc;cases hc
 have ap:F < w.heap.size:=by
  rcases Nat.lt_or_ge F w.heap.size with h|h
  ·exact h
  ·rw [Array.getElem?_eq_none h] at hx;cases hx
 have an:∀j v,X[j]? =some v→w.cell? ⟨g,j,none⟩=some v:=fun j v a=> by
  rw [←M,List.getElem?_take] at a
  split at a
  ·simpa [World.cell?,hc] using a
  ·cases a
 obtain ⟨z,aq,r,ae,T⟩:=Q47.info;obtain ⟨i0,ah,am,L,ab⟩:=info_parts r
 have E:(Builtin.firstCells i0.size i (.slice (some ⟨g,0,none⟩) i cap)).run Tryz.prog w.drew=.ok (X.take (i * 3)).toArray w.drew:=by
  rw [L]
  exact run_firstCells_some w.drew 3 i ⟨g,0,none⟩ i cap (X.take (i * 3)) (by rw [List.length_take];omega) (fun j v a=> by
   rw [Addr.add_lit,Nat.zero_add];rw [List.getElem?_take] at a
   split at a
   ·exact an j v a
   ·cases a)
 have aa:i+(l.length+1 - i)=l.length+1:=by omega
 have u:∀s,(Builtin.append_ #[26,3] s #[.slice (some ⟨g,0,none⟩) i cap,.int .i64 ((l.length:Int)+1 - (i:Int))]).run Tryz.prog w=
   .ok (.slice (some ⟨w.heap.size,0,none⟩) (l.length+1) (grownCap w (l.length+1) cap 119)) (w.drew.alloc (.cells ((X.take (i * 3)).toArray++Builtin.zeroCells z.cells (l.length+1 - i)++Builtin.zeroCells z.cells (grownCap w (l.length+1) cap 119 - (l.length+1))) 119)):=fun s=> by
  have h:=Lib.run_append_grow_zeros w 26 3 s 119 i0 z .i64 .i64 Tryz.underlying26 Tryz.underlying3 ah am (some ⟨g,0,none⟩) i cap (X.take (i * 3)) E (l.length+1 - i) (by omega) (by rw [L];decide) (by omega) (by omega) (by rw [ab];have:=Nat.mul_le_mul (show l.length+1 - i≤1001 by omega) T;omega) (Go.growslice_fits_wide (by omega) (by rw [ab,aa];have:=Nat.mul_le_mul (show (l.length+1)+(l.length+1) / 4+192≤2000 by omega) T;omega));rw [aa] at h;rw [show (l.length:Int)+1 - (i:Int)=((l.length+1 - i:Nat):Int) by omega];exact h
 have aw:=grownCap_ge w (l.length+1) cap 119;have av:grownCap w (l.length+1) cap 119≤maxLen:=grownCap_le_maxLen w (l.length+1) cap 119 (by unfold maxLen;omega);generalize grownCap w (l.length+1) cap 119=G at *;obtain ⟨ROW,f⟩:∃ROW:Array Value,ROW=(X.take (i * 3)).toArray++Builtin.zeroCells z.cells (l.length+1 - i)++Builtin.zeroCells z.cells (G - (l.length+1)):=⟨_,rfl⟩;rw [←f] at u
 have ak:∀k,(Builtin.zeroCells z.cells k).size=k * 3:=fun k=> by simp [Builtin.zeroCells,ae];rfl
 have d:ROW.toList.length=G * 3:=by
  rw [f];simp only [Array.length_toList,Array.size_append,ak,List.size_toArray,List.length_take,C];omega
 have al:ROW.toList.take (i * 3)=X.take (i * 3):=by
  rw [f];simp only [Array.toList_append,List.append_assoc];exact List.take_left' (by rw [List.length_take];omega)
 have HS:=Q01 (Qbg (cs:=Q1d.cs b) (i:=i) (n:=l.length) (k:=3) C al (Nat.le_of_lt hi) rfl (by omega));dsimp only at HS;obtain ⟨y,Z⟩:∃y,y=ROW.toList.take (i * 3)++Q1d.cs b++ROW.toList.drop (i * 3+(Q1d.cs b).length):=⟨_,rfl⟩;rw [←Z] at HS;have H:y.length=G * 3:=HS.out.2.2.trans d;obtain ⟨C2,Y⟩:∃C2,C2=y.take ((i+1) * 3)++X.drop (i * 3)++y.drop ((i+1) * 3+(X.drop (i * 3)).length):=⟨_,rfl⟩;rw [←Y] at HS;obtain ⟨N,A⟩:∃N,N=w.heap.size:=⟨_,rfl⟩;obtain ⟨q,p⟩:∃q,q=w.drew.alloc (.cells ROW 119):=⟨_,rfl⟩;rw [←p] at u
 have k1:q.heap[N]? =some (.cells ROW 119 (0,0)):=by rw [p,A];exact heap_alloc_new w.drew _
 have kg:q.heap[g]? =some (.cells U 119 (0,0)):=by rw [p,Below.heap_alloc w.drew _ g ao];exact hc
 have kx:q.heap[F]? =some (.cells (Q1d.cs b).toArray 119 (0,0)):=by rw [p,Below.heap_alloc w.drew _ F ap];exact hx
 obtain ⟨m,x⟩:∃m,m=q.setRow N y.toArray:=⟨_,rfl⟩
 have I:∀s c V,1≤c→(Builtin.copy_ #[26,26] s #[.slice (some ⟨N,i * 3,none⟩) c V,.slice (some ⟨F,0,none⟩) 1 1]).run Tryz.prog q=.ok (goInt (Nat.min 1 c)) m:=fun s c V e1=> by
  have h:=Q2C (P:=Tryz.prog) 3 q 26 26 s 119 N (i * 3) c V ⟨F,0,none⟩ 1 1 ROW 119 (Q1d.cs b) Tryz.underlying26 (by kernel_rfl) k1 (by rw [show Nat.min 1 c=1 by show min 1 c=_;omega];rfl)
   (fun j v a=> by
    rw [Addr.add_lit]
    simpa [World.cell?,kx] using a) (by rw [Array.length_toList] at d;rw [d];show i * 3+3≤G * 3;omega) ag
  rw [h,x,Z]
 have k2:m.heap[N]? =some (.cells y.toArray 119 (0,0)):=by rw [x];exact setRow_heap q N ROW _ 119 _ k1
 have ai:m.heap[g]? =some (.cells U 119 (0,0)):=by rw [x,setRow_other q N g _ (by omega)];exact kg
 obtain ⟨W3,B⟩:∃W3,W3=m.drew.setRow N C2.toArray:=⟨_,rfl⟩
 have J:∀s c V O sc,c=l.length - i→O=l.length - i→(Builtin.copy_ #[26,26] s #[.slice (some ⟨N,(i+1) * 3,none⟩) c V,.slice (some ⟨g,i * 3,none⟩) O sc]).run Tryz.prog m.drew=.ok (goInt (Nat.min O c)) W3:=fun s c V O sc e1 e2=> by
  have h:=Q2C (P:=Tryz.prog) 3 m.drew 26 26 s 119 N ((i+1) * 3) c V ⟨g,i * 3,none⟩ O sc y.toArray 119 (X.drop (i * 3)) Tryz.underlying26 (by kernel_rfl) k2 (by rw [hD,show Nat.min O c=l.length - i by show min O c=_;omega])
   (fun j v a=> by
    rw [List.getElem?_drop,←M,List.getElem?_take] at a
    split at a
    ·rw [Addr.add_lit];show m.cell? ⟨g,i * 3+j,none⟩=some v;simpa [World.cell?,ai] using a
    ·cases a) (by rw [hD];simp only [List.size_toArray,H];omega) (fun v hv=> aj v (List.mem_of_mem_drop hv))
  rw [h,B,Y]
 have k3:W3.heap[N]? =some (.cells C2.toArray 119 (0,0)):=by rw [B];exact setRow_heap m.drew N y.toArray _ 119 _ k2
 have B1:Below N w q:=by rw [p,A];exact ((Below.refl _ w).drew).alloc (Kaq _) _
 have B3:Below N w W3:=by
  have a1:q.grownBy m (some N):=by rw [x];exact ⟨rfl,rfl,rfl,by simp,fun k _ hk=> setRow_other q N k _ (fun e=> hk (by simp [e]))⟩
  have a2:m.grownBy W3 (some N):=by rw [B];exact ⟨rfl,rfl,rfl,by simp,fun k _ hk=> setRow_other m.drew N k _ (fun e=> hk (by simp [e]))⟩
  exact B1.grown (a1.trans a2) (by rw [A];exact A ▸ B1.size) (fun k e=> by cases e;exact Kaq _)
 have af:=Q01 (And.intro k3 (And.intro B3 (And.intro R (And.intro d (And.intro A ac)))));rw [←A] at u;have RZ:=Q01 u;have CPA:=Q01 I;have CPB:=Q01 J;have au:=Q01 av;clear hv ac hx hc R h7 M C aj ag hD ao ap an r ae ah am L ab E u f ak d al Z H Y p k1 kg kx x I k2 ai B J k3 B1 B3 T aa A h6 h5;generalize hn:l.length=n at *;have HN:=Q01 hn
 have ar:cap=n:=by omega
 subst ar;clear hn h4 ad
 have z0:((i:Int)==(cap:Int))=false:=by simp;omega
 have z1:(cap:Int) < (cap:Int)+1:=by omega
 have n1:i≤cap:=by omega
 have n3:¬(cap=i):=by omega
 have n5:¬(G=i):=by omega
 have n6:¬(G=i+1):=by omega
 have n7:cap+1≤G:=aw
 have z3:(i:Int)+1≤(cap:Int)+1:=by omega
 have z4:(i:Int)≤(cap:Int):=by omega
 have z5:(i:Int)≤(cap:Int)+1:=by omega
 have aA:IntKind.i64.wrap ((i:Int)+1)=(i:Int)+1:=by rw [IntKind.wrap_i64];omega
 have ay:(0:Int)≤(i:Int)+1:=by omega
 have az:((i:Int)+1).toNat=i+1:=by omega
 have e3:1≤cap+1 - i:=by omega
 have ax:=CPA.out 3 (cap+1 - i) (G - i) e3;clear e3;go_enter Tryz.func160,Tryz.ntmps160;go_wp2_with (first|(at_builtin;refine Lib.wpList_append_run _ rfl _ _ _ _ rfl _ _ rfl rfl _ _ (RZ.out _) ?_))
 go_region_law (refine step_copy_runI rfl _ _ 26 26 rfl (.slice (some ⟨N,(i+1) * 3,none⟩) (cap - i) (G - (i+1))) (.slice (some ⟨g,i * 3,none⟩) (cap - i) (cap - i)) (by simp [Act.eval,Act.put]) (by simp [Act.eval,Act.put]) (CPB.out _ _ _ _ _ rfl rfl) ?_)
 go_wp2;go_ret;obtain ⟨k3,B3,R,d,A,ac⟩:=af.out;refine ⟨_,rfl, ?_,A ▸ B3⟩;have hs:=HS.out
 have t:(l.take i++b::l.drop i).length=cap+1:=by have:=HN.out;simp;omega
 refine ⟨by rw [Q0n],.inr ⟨N,G,_,by rw [t];rfl,by omega,k3,by rw [t];omega,au.out, ?_, ?_⟩⟩
 ·rw [List.size_toArray]
  exact hs.2.1.trans d
 ·rw [t]
  show List.take ((cap+1) * 3) _=_
  rw [hs.1,R,List.flatMap_append,List.flatMap_cons,List.append_assoc]
  have e2:l.flatMap Q1d.cs=(l.take i).flatMap Q1d.cs++(l.drop i).flatMap Q1d.cs:=by rw [←List.flatMap_append,List.take_append_drop]
  have e4:((l.take i).flatMap Q1d.cs).length=i * 3:=by rw [Q0n,List.length_take,HN.out,Nat.min_eq_left n1];rfl
  rw [e2,List.take_left' e4,List.drop_left' e4]
theorem Q6J (base cap d i:Nat) (o:Option Addr) (l:List Bk) (b:Bk) (w:World) (hv:Q1w w base (.slice o l.length cap) l) (a:base≤w.heap.size) (m:w.heap[d]? =some (.cells (Q1d.cs b).toArray 119 (0,0))) (s:∀g,o=some ⟨g,0,none⟩→d≠g) (hi:i≤l.length) (x:l.length≤1000):
  Calls Tryz.prog 160 #[.slice o l.length cap,.int .i64 i,.slice (some ⟨d,0,none⟩) 1 1] w fun e p=> ∃v,e=.returned v∧Q1w p base v (l.take i++b::l.drop i)∧Below base w p:=by
 have u:d < w.heap.size:=by
  rcases Nat.lt_or_ge d w.heap.size with h|h
  ·exact h
  ·rw [Array.getElem?_eq_none h] at m;cases m
 rcases Nat.lt_or_ge i l.length with n|z
 ·rcases hv.2 with ⟨c,h2⟩|⟨g,A,t,c,r,_⟩
  ·injection c with _ f _;omega
  ·injection c with c _ f
   subst c f
   by_cases hr:l.length+1≤cap
   ·refine (Qag base g cap d i l b w hv m (s g rfl) n hr x).mono ?_
    rintro e p ⟨v,rfl,c,h2⟩;exact ⟨v,rfl,c,(Below.refl base w).grown h2 a (fun k e=> by cases e;exact r)⟩
   ·refine (Qc0 base g cap d i l b w hv a m n (by omega) x).mono ?_
    rintro e p ⟨v,rfl,c,h2⟩;exact ⟨v,rfl,c,h2.mono a⟩
 ·have e:i=l.length:=by omega
  subst e;refine (QcS base cap d o l b w hv (.inr ⟨d,0,rfl,u,fun q B j C=> ?_⟩) a x).mono ?_
  ·have y:q=0:=by simpa using B
   subst y;simp [World.cell?,m]
  ·rintro e p ⟨v,rfl,c,h2⟩
   refine ⟨v,rfl,by simpa using c,(Below.refl base w).grown h2 a (fun k e=> ?_)⟩
   rcases hv.2 with ⟨f,_⟩|⟨g,A,t,f,r,_⟩
   ·rw [f] at e;cases e
   ·rw [f] at e;cases e;exact r
theorem Q6U {w:World} {o:Option Addr} {l:List Bk} (h:RdK w.heap.size w o l) (a:Obj):RdK (w.alloc a).heap.size (w.alloc a) o l:=
 (RdL.kept h ((Below.refl w.heap.size w).alloc (Kaq _) a) (Kaq _)).le (by simp)
theorem Q4l {α:Type} {x y:α} (h:x=y):x=y:=h
theorem Q3h (id:Int) (w:World):Calls Tryz.prog 213 #[.agg #[.int .i64 id]] w fun e b=> e=.returned (.int .i64 id)∧Below w.heap.size w b:=by
 have a:Below w.heap.size w w:=Below.refl _ _;go_enter Tryz.func213,Tryz.ntmps213;go_wp2;go_ret;exact ⟨rfl,by (repeat (first|with_reducible (first|exact a|exact Below.refl _ _|refine Below.drew ?_|refine below_drewN ?_ _|refine Below.alloc ?_ ?_ _|refine Below.setCell ?_ ?_ _)|(focus (simp;first|done|omega))|omega))⟩
theorem QhL (base pl:Nat) (v:Value) (l:List Bk) (x y:Int) (z:Bool) (w:World) (A:Obj) (hv:Q1w w base v l) (m:base≤w.heap.size) (q:pl≤l.length) (r:l.length≤1000):
  Calls Tryz.prog 160 #[v,.int .i64 pl,.slice (some ⟨w.heap.size+1,0,none⟩) 1 1] ((w.alloc A).alloc (.cells #[.int .i64 x,.int .i64 y,.bool z] 119)) fun e i=> ∃v,e=.returned v∧Q1w i base v (l.take pl++(x,y,z)::l.drop pl)∧Below base w i:=by
 have d:(w.alloc A).heap.size=w.heap.size+1:=by simp
 have f:Below w.heap.size w ((w.alloc A).alloc (.cells #[.int .i64 x,.int .i64 y,.bool z] 119)):=((Below.refl w.heap.size w).alloc (Kaq _) A).alloc (by omega) _;have j:Q1w ((w.alloc A).alloc (.cells #[.int .i64 x,.int .i64 y,.bool z] 119)) base v l:=Q03 hv f;have k:=heap_alloc_new (w.alloc A) (.cells #[.int .i64 x,.int .i64 y,.bool z] 119);rw [d] at k
 obtain ⟨o,cap,e,b⟩:∃o cap,v=.slice o l.length cap∧∀g,o=some ⟨g,0,none⟩→w.heap.size+1≠g:=by
  rcases hv.2 with ⟨a,h2⟩|⟨g,c,p,a,_,n,_⟩
  ·exact ⟨none,0,by rw [a,h2],fun g e=> by cases e⟩
  ·refine ⟨_,c,a,fun s e=> ?_⟩
   cases e
   have:g < w.heap.size:=by
    rcases Nat.lt_or_ge g w.heap.size with h|h
    ·exact h
    ·rw [Array.getElem?_eq_none h] at n;cases n
   omega
 subst e;refine (Q6J base cap (w.heap.size+1) pl o l (x,y,z) _ j (Kdq m f.size) k b q r).mono ?_;rintro e i ⟨v,rfl,a,h2⟩;exact ⟨v,rfl,a,(f.mono m).trans h2⟩
theorem QeX (o:Option Addr) (cap:Nat) (l:List Bk) (id g:Int) (w:World) (p:RdK w.heap.size w o l) (F:o=none→cap=0) (J:l.length≤1000):
  Calls Tryz.prog 117 #[.slice o l.length cap,.iface 221 (.agg #[.int .i64 id,.int .i64 g])] w fun e B=> ∃v,e=.returned (.tuple #[v,.bool (!Q0z l id)])∧(Q0z l id=true→v=.slice none 0 0)∧(Q0z l id=false→Q1w B w.heap.size v (l.take (Q0j l id)++(id,g,false)::l.drop (Q0j l id)))∧Below w.heap.size w B:=by
 have q:=fun w p=> Q44 o cap l id w p (by omega)
 have A:=Q01 (Q4A l id);generalize Q0z l id=t at q ⊢;generalize Q0j l id=pl at q A ⊢
 have I:∀w,Sem.run Tryz.prog (Instr.typeAssert (.iface 221 (.agg #[.int .i64 id,.int .i64 g])) 179 221 true) w=.ok (.tuple #[.agg #[.int .i64 id,.int .i64 g],.bool true]) w:=fun w=> by kernel_rfl
 have M:∀args w,(callFunc 213 args).run Tryz.prog w=.ok (.enter 213 args) w:=enters_of Tryz.func213 (by kernel_rfl) rfl
 cases t
 ·go_enter Tryz.func117,Tryz.ntmps117
  go_wp2_with fail;rw [Q4l (x:=Sem.run Tryz.prog (method _ _ (.agg #[.int .i64 id,.int .i64 g]) _) w) (y:=Result.ok (213,.agg #[.int .i64 id]) w) ?hm]
  case hm=> kernel_rfl
  go_wp2_with (first|(go_at_call 213;refine (Q3h id _).mono ?_;rintro e H ⟨rfl,a⟩;have f:=Q01 ((RdL.kept p a (Kaq _)).le a.size);have c:=Q01 a;clear a)|(go_at_call 159;refine (q _ f.out).mono ?_;rintro e C ⟨rfl,b⟩;have z:=Q01 ((RdL.kept f.out b (Kaq _)).le b.size);have d:=Q01 b;clear b)|(go_at_call 119;refine (Q1T o cap l _ (Q6U z.out _) F (by omega)).mono ?_;rintro e E ⟨D,rfl,i,k⟩;have s:=Q01 i;have n:=Q01 k;clear i k)|(go_at_call 160;refine (QhL _ pl D l id g false E _ s.out n.out.size A.out J).mono ?_;rintro e N ⟨L,rfl,j,m⟩;have r:=Q01 j;have u:=Q01 m;clear j m))
  go_ret2
  have s1:=c.out.size;have s2:=d.out.size;have G:Below w.heap.size w C:=c.out.trans (d.out.mono s1);have B2a:=G.alloc (Kdq s1 s2) (.cells #[.int .i64 id,.int .i64 g] 221);have s3:=B2a.size;refine ⟨_,rfl, ?_,fun _=> Q04 r.out s3,(B2a.trans (n.out.mono s3)).trans (u.out.mono s3)⟩;intro h;cases h
 ·go_enter Tryz.func117,Tryz.ntmps117
  go_wp2_with fail;rw [Q4l (x:=Sem.run Tryz.prog (method _ _ (.agg #[.int .i64 id,.int .i64 g]) _) w) (y:=Result.ok (213,.agg #[.int .i64 id]) w) ?hm]
  case hm=> kernel_rfl
  go_wp2_with (first|(go_at_call 213;refine (Q3h id _).mono ?_;rintro e H ⟨rfl,a⟩;have f:=Q01 ((RdL.kept p a (Kaq _)).le a.size);have c:=Q01 a;clear a)|(go_at_call 159;refine (q _ f.out).mono ?_;rintro e C ⟨rfl,b⟩;have d:=Q01 b;clear b))
  go_ret2
  refine ⟨_,rfl,fun _=> rfl, ?_, ?_⟩
  ·intro h;cases h
  ·exact (c.out.trans (d.out.mono c.out.size)).alloc (Kdq c.out.size d.out.size) _
theorem Q8V {l:List Bk} {id:Int} (h:Q0z l id=true):Q0j l id < l.length:=by
 unfold Q0z at h;simp at h;exact h.1
theorem Qfv (base pl:Nat) (v:Value) (l:List Bk) (w b:World) (hv:Q1w w base v l) (j:base≤w.heap.size) (f:Below w.heap.size w b) (n:pl < l.length) (p:l.length≤1000):
  Calls Tryz.prog 161 #[v,.int .i64 pl,.int .i64 ((pl:Int)+1)] b fun e h=> ∃v,e=.returned v∧Q1w h base v (l.take pl++l.drop (pl+1))∧Below base w h:=by
 have i:Q1w b base v l:=Q03 hv f
 rcases hv.2 with ⟨a,h2⟩|⟨g,c,m,a,d,q,_⟩
 ·omega
 ·subst a
  refine (Q6F base g c pl l b i n p).mono ?_;rintro e h ⟨v,rfl,a,h2⟩;exact ⟨v,rfl,a,(f.mono j).grown h2 (Kdq j f.size) (fun k e=> by cases e;exact d)⟩
theorem Qa3 (o:Option Addr) (cap:Nat) (l:List Bk) (id:Int) (w:World) (z:RdK w.heap.size w o l) (H:o=none→cap=0) (F:l.length≤1000):
  Calls Tryz.prog 117 #[.slice o l.length cap,.iface 225 (.agg #[.int .i64 id])] w fun e D=> ∃v,e=.returned (.tuple #[v,.bool (Q0z l id)])∧(Q0z l id=false→v=.slice none 0 0)∧(Q0z l id=true→Q1w D w.heap.size v (l.take (Q0j l id)++l.drop (Q0j l id+1)))∧Below w.heap.size w D:=by
 have A:=fun w z=> Q44 o cap l id w z (by omega)
 have u:=Q01 (Q8V (l:=l) (id:=id));generalize Q0z l id=t at A u ⊢;generalize Q0j l id=pl at A u ⊢
 have O:∀w,Sem.run Tryz.prog (Instr.typeAssert (.iface 225 (.agg #[.int .i64 id])) 179 221 true) w=.ok (.tuple #[.agg #[.int .i64 0,.int .i64 0],.bool false]) w:=fun w=> by kernel_rfl
 have I:∀w,Sem.run Tryz.prog (Instr.typeAssert (.iface 225 (.agg #[.int .i64 id])) 179 222 true) w=.ok (.tuple #[.agg #[.int .i64 0,.int .i64 0],.bool false]) w:=fun w=> by kernel_rfl
 have M:∀w,Sem.run Tryz.prog (Instr.typeAssert (.iface 225 (.agg #[.int .i64 id])) 179 224 true) w=.ok (.tuple #[.agg #[.int .i64 0],.bool false]) w:=fun w=> by kernel_rfl
 have P:∀w,Sem.run Tryz.prog (Instr.typeAssert (.iface 225 (.agg #[.int .i64 id])) 179 225 true) w=.ok (.tuple #[.agg #[.int .i64 id],.bool true]) w:=fun w=> by kernel_rfl
 have R:∀args w,(callFunc 213 args).run Tryz.prog w=.ok (.enter 213 args) w:=enters_of Tryz.func213 (by kernel_rfl) rfl
 cases t
 ·go_enter Tryz.func117,Tryz.ntmps117
  go_wp2_with fail;rw [Q4l (x:=Sem.run Tryz.prog (method _ _ (.agg #[.int .i64 id]) _) w) (y:=Result.ok (213,.agg #[.int .i64 id]) w) ?hm]
  case hm=> kernel_rfl
  go_wp2_with (first|(go_at_call 213;refine (Q3h id _).mono ?_;rintro e N ⟨rfl,a⟩;have i:=Q01 ((RdL.kept z a (Kaq _)).le a.size);have c:=Q01 a;clear a)|(go_at_call 159;refine (A _ i.out).mono ?_;rintro e E ⟨rfl,b⟩;have d:=Q01 b;clear b))
  go_ret2
  refine ⟨_,rfl,fun _=> rfl, ?_, ?_⟩
  ·intro h;cases h
  ·exact (c.out.trans (d.out.mono c.out.size)).alloc (Kdq c.out.size d.out.size) _
 ·have p:Hid (pl < l.length):=u.out rfl
  have T:IntKind.i64.wrap ((pl:Int)+1)=(pl:Int)+1:=by have:=u.out rfl;rw [IntKind.wrap_i64];omega
  go_enter Tryz.func117,Tryz.ntmps117;go_wp2_with fail;rw [Q4l (x:=Sem.run Tryz.prog (method _ _ (.agg #[.int .i64 id]) _) w) (y:=Result.ok (213,.agg #[.int .i64 id]) w) ?hm]
  case hm=> kernel_rfl
  go_wp2_with (first|(go_at_call 213;refine (Q3h id _).mono ?_;rintro e N ⟨rfl,a⟩;have i:=Q01 ((RdL.kept z a (Kaq _)).le a.size);have c:=Q01 a;clear a)|(go_at_call 159;refine (A _ i.out).mono ?_;rintro e E ⟨rfl,b⟩;have B:=Q01 ((RdL.kept i.out b (Kaq _)).le b.size);have d:=Q01 b;clear b)|(go_at_call 119;refine (Q1T o cap l _ (Q6U B.out _) H (by omega)).mono ?_;rintro e k ⟨C,rfl,m,s⟩;have q:=Q01 m;have j:=Q01 s;clear m s)|(go_at_call 161;refine (Qfv _ pl C l k _ q.out j.out.size (((Below.refl k.heap.size k).alloc (Kaq _) _)) p.out F).mono ?_;rintro e L ⟨G,rfl,f,g⟩;have n:=Q01 f;have r:=Q01 g;clear f g)|(go_at_call 161;refine (Qfv _ pl C l k _ q.out j.out.size (Below.refl k.heap.size k) p.out F).mono ?_;rintro e L ⟨G,rfl,f,g⟩;have n:=Q01 f;have r:=Q01 g;clear f g))
  go_ret2
  have s1:=c.out.size;have s2:=d.out.size;have J:Below w.heap.size w E:=c.out.trans (d.out.mono s1);have B2a:=J.alloc (Kdq s1 s2) (.cells #[.int .i64 0,.int .i64 0] 221);have s3:=B2a.size;refine ⟨_,rfl, ?_,fun _=> Q04 n.out s3,(B2a.trans (j.out.mono s3)).trans (r.out.mono s3)⟩;intro h;cases h
theorem QaQ {α:Type} (L:Lay α) {u:Value} {a:α} {j:Nat} (b:j < L.k):∀{l:List α} {k:Nat},k < l.length→L.cs a=(L.cs (l.getD k L.d)).set j u→(l.flatMap L.cs).set (k * L.k+j) u=(l.set k a).flatMap L.cs
 |[],k,hk,ha=> by simp at hk
 |x::l,0,hk,ha=> by
  simp only [List.flatMap_cons,List.set_cons_zero,Nat.zero_mul,Nat.zero_add];rw [ha,List.set_append_left _ _ (by rw [L.len];exact b)]
  rfl
 |x::l,k+1,hk,ha=> by
  simp only [List.flatMap_cons,List.set_cons_succ];rw [List.set_append_right _ _ (by rw [L.len,Nat.succ_mul];omega),L.len]
  have e:(k+1) * L.k+j - L.k=k * L.k+j:=by rw [Nat.succ_mul];omega
  rw [e,QaQ L b (l:=l) (k:=k) (by simpa using hk) (by simpa using ha)]
theorem QcL {l:List Bk} {id:Int} (h:Q0z l id=true):(l.getD (Q0j l id) (0,0,false)).1=id:=by
 unfold Q0z at h;simp only [Bool.and_eq_true,beq_iff_eq] at h;exact h.2
theorem Qj9 {b:Bk} {id g:Int} (h:b.1=id):Q1d.cs (id,g,b.2.2)=(Q1d.cs b).set 1 (.int .i64 g):=by subst h;rfl
theorem Qja {b:Bk} {id:Int} (h:b.1=id):Q1d.cs (id,b.2.1,true)=(Q1d.cs b).set 2 (.bool true):=by subst h;rfl
theorem QcH {w:World} {base:Nat} {v:Value} {l:List Bk} (h:Q1w w base v l) {pl:Nat} (f:pl < l.length) (A:Obj):
  ∃g c,v=.slice (some ⟨g,0,none⟩) l.length c∧base≤g∧(w.alloc A).ownsRow base 119 3 (.slice (some ⟨g,0,none⟩) l.length c) l.length (l.flatMap Q1d.cs):=by
 rcases h.2 with ⟨a,h2⟩|⟨g,c,d,a,b,_⟩
 ·omega
 ·subst a
  exact ⟨g,c,rfl,b,World.ownsRow.alloc h A⟩
theorem Q8s {w:World} {base g c:Nat} {l:List Bk} (h:w.ownsRow base 119 3 (.slice (some ⟨g,0,none⟩) l.length c) l.length (l.flatMap Q1d.cs)) {pl:Nat} (b:pl < l.length) (j:Nat) (d:j < 3):∃u,w.cell? ⟨g,pl * 3+j,none⟩=some u:=by
 have a:(l.flatMap Q1d.cs).length=l.length * 3:=by rw [Q0n];rfl
 exact ⟨_,(h.cellAt (pl * 3+j) (by omega)).trans (List.getElem?_eq_getElem (by omega))⟩
theorem Q9W {w:World} {base g c:Nat} {l:List Bk} (h:w.ownsRow base 119 3 (.slice (some ⟨g,0,none⟩) l.length c) l.length (l.flatMap Q1d.cs)) {pl:Nat} (f:pl < l.length) (j:Nat) (i:j < 3) (u:Value) {a:Bk} (m:Q1d.cs a=(Q1d.cs (l.getD pl Q1d.d)).set j u):Q1w (w.setCell ⟨g,pl * 3+j,none⟩ u) base (.slice (some ⟨g,0,none⟩) l.length c) (l.set pl a):=by
 have b:=(h.stored (pl * 3+j) u).1;rw [show pl * 3+j=pl * Q1d.k+j from rfl,QaQ Q1d (a:=a) i f m] at b;unfold Q1w ownL;rw [List.length_set];exact b
theorem Qbs (o:Option Addr) (cap:Nat) (l:List Bk) (id g:Int) (w:World) (z:RdK w.heap.size w o l) (M:o=none→cap=0) (Z:l.length≤1000):
  Calls Tryz.prog 117 #[.slice o l.length cap,.iface 222 (.agg #[.int .i64 id,.int .i64 g])] w fun e G=> ∃v,e=.returned (.tuple #[v,.bool (Q0z l id)])∧(Q0z l id=false→v=.slice none 0 0)∧(Q0z l id=true→Q1w G w.heap.size v (l.set (Q0j l id) (id,g,(l.getD (Q0j l id) (0,0,false)).2.2)))∧Below w.heap.size w G:=by
 have A:=fun w z=> Q44 o cap l id w z (by omega)
 have u:=Q01 (Q8V (l:=l) (id:=id));have s:=Q01 (QcL (l:=l) (id:=id));generalize Q0z l id=t at A u s ⊢;generalize Q0j l id=pl at A u s ⊢
 have J:∀w,Sem.run Tryz.prog (Instr.typeAssert (.iface 222 (.agg #[.int .i64 id,.int .i64 g])) 179 221 true) w=.ok (.tuple #[.agg #[.int .i64 0,.int .i64 0],.bool false]) w:=fun w=> by kernel_rfl
 have T:∀w,Sem.run Tryz.prog (Instr.typeAssert (.iface 222 (.agg #[.int .i64 id,.int .i64 g])) 179 222 true) w=.ok (.tuple #[.agg #[.int .i64 id,.int .i64 g],.bool true]) w:=fun w=> by kernel_rfl
 have V:∀args w,(callFunc 213 args).run Tryz.prog w=.ok (.enter 213 args) w:=enters_of Tryz.func213 (by kernel_rfl) rfl
 cases t
 ·go_enter Tryz.func117,Tryz.ntmps117
  go_wp2_with fail;rw [Q4l (x:=Sem.run Tryz.prog (method _ _ (.agg #[.int .i64 id,.int .i64 g]) _) w) (y:=Result.ok (213,.agg #[.int .i64 id]) w) ?hm]
  case hm=> kernel_rfl
  go_wp2_with (first|(go_at_call 213;refine (Q3h id _).mono ?_;rintro e P ⟨rfl,b⟩;have i:=Q01 ((RdL.kept z b (Kaq _)).le b.size);have d:=Q01 b;clear b)|(go_at_call 159;refine (A _ i.out).mono ?_;rintro e H ⟨rfl,c⟩;have f:=Q01 c;clear c))
  go_ret2
  refine ⟨_,rfl,fun _=> rfl, ?_, ?_⟩
  ·intro h;cases h
  ·exact (d.out.trans (f.out.mono d.out.size)).alloc (Kdq d.out.size f.out.size) _
 ·have j:Hid (pl < l.length):=u.out rfl
  have m:=s.out rfl;have C:=Q01 m;clear m s
  have z1:(pl:Int) < (l.length:Int):=by have:=u.out rfl;omega
  have U:(0:Int)≤(pl:Int):=by omega
  go_enter Tryz.func117,Tryz.ntmps117;go_wp2_with fail;rw [Q4l (x:=Sem.run Tryz.prog (method _ _ (.agg #[.int .i64 id,.int .i64 g]) _) w) (y:=Result.ok (213,.agg #[.int .i64 id]) w) ?hm]
  case hm=> kernel_rfl
  go_wp2_with (first|(go_at_call 213;refine (Q3h id _).mono ?_;rintro e P ⟨rfl,b⟩;have i:=Q01 ((RdL.kept z b (Kaq _)).le b.size);have d:=Q01 b;clear b)|(go_at_call 159;refine (A _ i.out).mono ?_;rintro e H ⟨rfl,c⟩;have D:=Q01 ((RdL.kept i.out c (Kaq _)).le c.size);have f:=Q01 c;clear c)|(go_at_call 119;refine (Q1T o cap l _ (Q6U D.out _) M (by omega)).mono ?_;rintro e Y ⟨X,rfl,k,q⟩;obtain ⟨I,c3,rfl,n,B⟩:=QcH k j.out (.cells #[.int .i64 id,.int .i64 g] 222);have E:=Q8s B j.out 1 (by decide);have O:=B.frozenAt (pl * 3+1);have L:=Q01 B;have r:=Q01 q;have F:=Q01 n;clear B k q n;obtain ⟨u3,R⟩:=E))
  go_ret2
  have s1:=d.out.size;have s2:=f.out.size;have N:Below w.heap.size w H:=d.out.trans (f.out.mono s1);have B2a:=N.alloc (Kdq s1 s2) (.cells #[.int .i64 0,.int .i64 0] 221);have s3:=B2a.size;have s4:=r.out.size;have s5:=F.out;refine ⟨_,rfl, ?_,fun _=> Q04 (Q9W L.out j.out 1 (by decide) (.int .i64 g) (a:=(id,g,(l.getD pl (0,0,false)).2.2)) (Qj9 C.out)) s3,(((B2a.trans (r.out.mono s3)).alloc (by omega) _).setCell (p:=⟨I,pl * 3+1,none⟩) (show w.heap.size≤I by omega) _)⟩;intro h;cases h
theorem Qbt (o:Option Addr) (cap:Nat) (l:List Bk) (id:Int) (w:World) (u:RdK w.heap.size w o l) (L:o=none→cap=0) (Z:l.length≤1000):
  Calls Tryz.prog 117 #[.slice o l.length cap,.iface 224 (.agg #[.int .i64 id])] w fun e F=> ∃v,e=.returned (.tuple #[v,.bool (Q0z l id)])∧(Q0z l id=false→v=.slice none 0 0)∧(Q0z l id=true→Q1w F w.heap.size v (l.set (Q0j l id) (id,(l.getD (Q0j l id) (0,0,false)).2.1,true)))∧Below w.heap.size w F:=by
 have z:=fun w u=> Q44 o cap l id w u (by omega)
 have s:=Q01 (Q8V (l:=l) (id:=id));have r:=Q01 (QcL (l:=l) (id:=id));generalize Q0z l id=t at z s r ⊢;generalize Q0j l id=pl at z s r ⊢
 have I:∀w,Sem.run Tryz.prog (Instr.typeAssert (.iface 224 (.agg #[.int .i64 id])) 179 221 true) w=.ok (.tuple #[.agg #[.int .i64 0,.int .i64 0],.bool false]) w:=fun w=> by kernel_rfl
 have T:∀w,Sem.run Tryz.prog (Instr.typeAssert (.iface 224 (.agg #[.int .i64 id])) 179 222 true) w=.ok (.tuple #[.agg #[.int .i64 0,.int .i64 0],.bool false]) w:=fun w=> by kernel_rfl
 have M:∀w,Sem.run Tryz.prog (Instr.typeAssert (.iface 224 (.agg #[.int .i64 id])) 179 224 true) w=.ok (.tuple #[.agg #[.int .i64 id],.bool true]) w:=fun w=> by kernel_rfl
 have V:∀args w,(callFunc 213 args).run Tryz.prog w=.ok (.enter 213 args) w:=enters_of Tryz.func213 (by kernel_rfl) rfl
 cases t
 ·go_enter Tryz.func117,Tryz.ntmps117
  go_wp2_with fail;rw [Q4l (x:=Sem.run Tryz.prog (method _ _ (.agg #[.int .i64 id]) _) w) (y:=Result.ok (213,.agg #[.int .i64 id]) w) ?hm]
  case hm=> kernel_rfl
  go_wp2_with (first|(go_at_call 213;refine (Q3h id _).mono ?_;rintro e P ⟨rfl,b⟩;have g:=Q01 ((RdL.kept u b (Kaq _)).le b.size);have d:=Q01 b;clear b)|(go_at_call 159;refine (z _ g.out).mono ?_;rintro e G ⟨rfl,c⟩;have f:=Q01 c;clear c))
  go_ret2
  refine ⟨_,rfl,fun _=> rfl, ?_, ?_⟩
  ·intro h;cases h
  ·exact (d.out.trans (f.out.mono d.out.size)).alloc (Kdq d.out.size f.out.size) _
 ·have i:Hid (pl < l.length):=s.out rfl
  have k:=r.out rfl;have B:=Q01 k;clear k r
  have z1:(pl:Int) < (l.length:Int):=by have:=s.out rfl;omega
  have U:(0:Int)≤(pl:Int):=by omega
  go_enter Tryz.func117,Tryz.ntmps117;go_wp2_with fail;rw [Q4l (x:=Sem.run Tryz.prog (method _ _ (.agg #[.int .i64 id]) _) w) (y:=Result.ok (213,.agg #[.int .i64 id]) w) ?hm]
  case hm=> kernel_rfl
  go_wp2_with (first|(go_at_call 213;refine (Q3h id _).mono ?_;rintro e P ⟨rfl,b⟩;have g:=Q01 ((RdL.kept u b (Kaq _)).le b.size);have d:=Q01 b;clear b)|(go_at_call 159;refine (z _ g.out).mono ?_;rintro e G ⟨rfl,c⟩;have C:=Q01 ((RdL.kept g.out c (Kaq _)).le c.size);have f:=Q01 c;clear c)|(go_at_call 119;refine (Q1T o cap l _ (Q6U C.out _) L (by omega)).mono ?_;rintro e Y ⟨X,rfl,j,n⟩;obtain ⟨H,c3,rfl,m,A⟩:=QcH j i.out (.cells #[.int .i64 id] 224);have D:=Q8s A i.out 2 (by decide);have O:=A.frozenAt (pl * 3+2);have J:=Q01 A;have q:=Q01 n;have E:=Q01 m;clear A j n m;obtain ⟨u3,R⟩:=D))
  go_ret2
  have s1:=d.out.size;have s2:=f.out.size;have N:Below w.heap.size w G:=d.out.trans (f.out.mono s1);have B2a:=N.alloc (Kdq s1 s2) (.cells #[.int .i64 0,.int .i64 0] 221);have s3:=B2a.size;have s4:=q.out.size;have s5:=E.out;refine ⟨_,rfl, ?_,fun _=> Q04 (Q9W J.out i.out 2 (by decide) (.bool true) (a:=(id,(l.getD pl (0,0,false)).2.1,true)) (Qja B.out)) s3,(((B2a.trans (q.out.mono s3)).alloc (by omega) _).setCell (p:=⟨H,pl * 3+2,none⟩) (show w.heap.size≤H by omega) _)⟩;intro h;cases h
theorem Q3k (o:Option Addr) (cap:Nat) (l:List Bk) (k i g:Int) (w:World) (f:RdK w.heap.size w o l) (c:o=none→cap=0) (d:l.length≤1000) (n:Q0J k i g=true):
  Calls Tryz.prog 117 #[.slice o l.length cap,Q9s k i g] w fun e b=> ∃v,e=.returned (.tuple #[v,.bool (doL l k i g).isSome])∧(∀m,doL l k i g=some m→Q1w b w.heap.size v m)∧Below w.heap.size w b:=by
 unfold Q9s doL
 by_cases h0:k=0
 ·subst h0
  refine (QeX o cap l i g w f c d).mono ?_;rintro e b ⟨v,rfl,_,h2,a⟩;refine ⟨v, ?_, ?_,a⟩
  ·cases Q0z l i <;> rfl
  ·intro m hm
   cases ht:Q0z l i with
   |true=> rw [ht] at hm;simp at hm
   |false=> rw [ht] at hm;simp at hm;rw [←hm];exact h2 ht
 ·have h:(k==0)=false:=beq_eq_false_iff_ne.2 h0
  rw [h]
  by_cases h1:k=1
  ·subst h1
   refine (Qbs o cap l i g w f c d).mono ?_;rintro e b ⟨v,rfl,_,h2,a⟩;refine ⟨v, ?_, ?_,a⟩
   ·cases Q0z l i <;> rfl
   ·intro m hm
    cases ht:Q0z l i with
    |false=> rw [ht] at hm;simp at hm
    |true=> rw [ht] at hm;simp at hm;rw [←hm];exact h2 ht
  ·by_cases h2:k=2
   ·subst h2
    refine (Qbt o cap l i w f c d).mono ?_;rintro e b ⟨v,rfl,_,h2,a⟩;refine ⟨v, ?_, ?_,a⟩
    ·cases Q0z l i <;> rfl
    ·intro m hm
     cases ht:Q0z l i with
     |false=> rw [ht] at hm;simp at hm
     |true=> rw [ht] at hm;simp at hm;rw [←hm];exact h2 ht
   ·rw [if_neg h0,if_neg h1,if_neg h2]
    refine (Qa3 o cap l i w f c d).mono ?_;rintro e b ⟨v,rfl,_,j,a⟩;refine ⟨v, ?_, ?_,a⟩
    ·cases Q0z l i <;> rfl
    ·intro m hm
     cases ht:Q0z l i with
     |false=> rw [ht] at hm;simp at hm
     |true=> rw [ht] at hm;simp [h0,h1,h2] at hm;rw [←hm];exact j ht
theorem Qfs:(Tryz.prog.info? 26).map (fun i=> (i.zero,i.size,i.bytes))=some (some (.slice none 0 0),1,24):=by kernel_rfl
theorem Qjb:AppOk Q0H 122 26:=⟨Tryz.underlying122,⟨_,_,Qfs,rfl,by decide⟩,by decide,fun a u hu=> by
 simp [Q0H] at hu;subst hu;rfl⟩
theorem QiL:(119:TypeId)≠26:=by decide
structure Served (S:Nat→List Bk) (k:Nat) (w:World) (base:Nat) (hs:List Hd):Prop where
 len:hs.length=k
 row:∀i,i < k→Q1w w base (hv hs i) (S i)
theorem Served.kept {S:Nat→List Bk} {k:Nat} {w w':World} {base:Nat} {hs:List Hd} (h:Served S k w base hs) (hb:Below w.heap.size w w'):Served S k w' base hs:=
 ⟨h.len,fun i hi=> Q03 (h.row i hi) hb⟩
theorem Served.other {S:Nat→List Bk} {k:Nat} {w b:World} {base c s2 d:Nat} {hs:List Hd} {a:Value} {f:List Value} (h:Served S k w base hs) (h2:w.ownsRow c 26 s2 a d f) (g:w.grownBy b a.ownBlock):Served S k b base hs:=
 ⟨h.len,fun i hi=> (h.row i hi).kept g (Q2z (h.row i hi) h2 QiL)⟩
theorem Served.snoc {S:Nat→List Bk} {k:Nat} {w:World} {base:Nat} {hs:List Hd} {o:Option Addr} {m c:Nat} (h:Served S k w base hs) (d:Q1w w base (.slice o m c) (S k)):Served S (k+1) w base (hs++[(o,m,c)]):=by
 have b:=h.len;refine ⟨by simp [b],fun i hi=> ?_⟩
 rcases Nat.lt_succ_iff_lt_or_eq.1 hi with a|a
 ·rw [Q64 (by omega)];exact h.row i a
 ·subst a;rw [←b,QbQ,b];exact d
def Q0k (cs:List Cd) (q:Nat):List Bk:=(Q1n cs q).getD []
theorem Q5s {w:World} {base:Nat} {o:Option Addr} {n c:Nat} {l:List Bk} (h:Q1w w base (.slice o n c) l):o=none→c=0:=fun e=> (InRow.cap (InRow.of h)) n c (by rw [e])
theorem Q2U {e:TypeId} {w:World} {base g n c:Nat} {hs:List Hd} (h:ownL Q0H e w base (.slice (some ⟨g,0,none⟩) n c) hs) (i:Nat) (hi:i < hs.length):w.cell? ⟨g,i,none⟩=some (hv hs i):=by
 rcases ownL.rd (L:=Q0H) h with d|⟨b,off,a,_,r⟩
 ·subst d;simp at hi
 ·injection a with a
  injection a with e2 e3;subst e2 e3;have:=r i hi 0 (by decide)
  simpa [Q0H,hv] using this
theorem Q2N {e:TypeId} {w:World} {base:Nat} {v:Value} {hs:List Hd} (h:ownL Q0H e w base v hs) (d:0 < hs.length):∃g c,v=.slice (some ⟨g,0,none⟩) hs.length c:=by
 rcases h.2 with ⟨a,h2⟩|⟨g,c,b,a,_⟩
 ·omega
 ·exact ⟨g,c,a⟩
theorem Qix (w:World) (T:TypeId):ownL Q0H T (w.alloc (.cells #[.slice none 0 0] T)) w.heap.size (.slice (some ⟨w.heap.size,0,none⟩) 1 1) [(none,0,0)]:=
 ⟨by simp [Q0H],.inr ⟨w.heap.size,1,#[.slice none 0 0],rfl,Kaq _,heap_alloc_new w _,by simp,by unfold maxLen;omega,by simp [Q0H],by simp [Q0H]⟩⟩
theorem Qhf {cs:List Cd} {k:Nat} (hk:k < cs.length) (h:Q6M (Q1n cs k) (cs.getD k (0,0,0))=none):(Q1n cs cs.length).isSome=false:=by
 rw [←Q3P hk] at h;rw [Q8G h (by omega)];rfl
theorem QiC {w:World} {o:Option Addr} {n c:Nat} {T:TypeId}:RdL Q0H (w.alloc (.cells #[.slice o n c] T)).heap.size (w.alloc (.cells #[.slice o n c] T)) (some ⟨w.heap.size,0,none⟩) [(o,n,c)]:=
 .inr ⟨w.heap.size,0,rfl,by simp,fun i hi j a=> by
  have b:i=0:=by simpa using hi
  have d:j=0:=by simpa [Q0H] using a
  subst b d
  simp [Q0H]⟩
theorem Q8y (key safe:Int) (b off cap:Nat) (cs:List Cd) (w:World) (E:cs.length≠0→b < w.heap.size) (M:∀i,i < cs.length→∀j,j < Q4j.k→w.cell? ⟨b,off+i * Q4j.k+j,none⟩=(Q4j.cs (cs.getD i Q4j.d))[j]?) (hk:Q1P key=true) (hl:cs.length≤100) (h0:0≤safe) (h1:safe≤(cs.length:Int)) (ob:Option Addr) (T:cs.length≠0→ob=some ⟨b,off,none⟩):
  Calls Tryz.prog 67 #[jrn key (.slice ob cs.length cap) safe] w fun e w'=> ∃v,e=.returned (.tuple #[v,.bool (Q1n cs cs.length).isSome])∧((Q1n cs cs.length).isSome=true→∃hs,ownL Q0H 26 w' w.heap.size v hs∧Served (Q0k cs) (cs.length+1) w' w.heap.size hs)∧Below w.heap.size w w':=by
 have ac:=Q10 key;rw [hk] at ac;have HC:=Q01 M;have ag:=Q01 T;have ad:=Q01 E;have q1:decide (100 < (cs.length:Int))=false:=decide_eq_false (by omega);have q2:decide (safe < 0)=false:=decide_eq_false (by omega);have q3:decide ((cs.length:Int) < safe)=false:=decide_eq_false (by omega);have HN:=Q01 hl;clear M T E h0 h1;obtain ⟨W0,N⟩:∃W,(w.alloc (.cells #[.int .i64 key,.slice ob cs.length cap,.int .i64 safe] 25))=W:=⟨_,rfl⟩;have G:=alb0v0v1 N;have n:=Q01 G;clear G;have zz:=alz0v0v1 N;obtain ⟨z0,z1,z2⟩:=alc3v0v1 N;have al:=z0;have au:=z1;have am:=z2
 obtain ⟨W1,H⟩:∃W,(W0.alloc (.cells #[.slice none 0 0] 26))=W:=⟨_,rfl⟩;have q:=alb0v0v1 H;replace z0:=bKq0v0v0 q z0 zz;replace z1:=bKq0v0v0 q z1 zz;replace z2:=bKq0v0v0 q z2 zz;replace zz:w.heap.size < W1.heap.size:=Kbq zz q.size;replace n:=Q01 (n.out.trans (q.mono n.out.size));clear q;have zq:=alz0v0v1 H
 have q0:W1.cell? ⟨W0.heap.size,0,none⟩=some (.slice none 0 0):=by rw [←H];simp [go_sem]
 have HF:Hid (ownL Q0H 26 W1 w.heap.size (.slice (some ⟨W0.heap.size,0,none⟩) 1 1) [(none,0,0)]):=by rw [←H];exact Q04 (Qix W0 _) (Nat.le_of_lt (by have:=zz;rw [←N];simp))
 go_enter Tryz.func67,Tryz.ntmps67;go_wp2_with (go_at_call 115;refine (ac _).mono ?_;rintro e w9 ⟨rfl,rfl⟩)
 go_loopw [4,38] (fun sv iv wr=> ∃(k:Nat) (hs:List Hd),k≤cs.length∧iv=.int .i64 (k:Int)∧Hid (ownL Q0H 26 wr w.heap.size sv hs)∧Hid (Served (Q0k cs) (k+1) wr w.heap.size hs)∧Hid ((Q1n cs k).isSome=true)∧Hid (Below w.heap.size w wr))
  (fun _ iv _=> cs.length - (intOf iv).toNat)
 case atStart=> exact ⟨0,_,Kcq _,rfl,HF.out,⟨rfl,fun i hi=> by have e:i=0:=(by omega);subst e;exact World.ownsRow_nil _ _ _ _⟩,rfl,n.out⟩
 case round=>
  clear z0 z1 z2 zz q0 zq al au am N H HF ac n;obtain ⟨k,hs,az,rfl,z,B,I,n⟩:=hrel
  by_cases hlt:k < cs.length
  ·skip
   have av:(k:Int) < (cs.length:Int):=by omega
   have T:=ag.out (by omega);have E:=ad.out (by omega);subst T;obtain ⟨l,aa⟩:=Option.isSome_iff_exists.1 I.out
   have af:Q0k cs k=l:=by unfold Q0k;rw [aa];rfl
   obtain ⟨aB,aA⟩:=Q5t k l (by omega) aa;obtain ⟨c0,c1,c2⟩:=RdL.cmd (C:=w.heap.size) HC.out k hlt;replace c0:=(n.out.cell (p:=⟨b,off+k * 3,none⟩) E).trans c0;replace c1:=(n.out.cell (p:=⟨b,off+k * 3+1,none⟩) E).trans c1;replace c2:=(n.out.cell (p:=⟨b,off+k * 3+2,none⟩) E).trans c2;have t:=Q01 (Q3P hlt);obtain ⟨x,y,u,O⟩:∃x y u,cs.getD k (0,0,0)=(x,y,u):=⟨_,_,_,rfl⟩;rw [O] at c0 c1 c2 t;have r:=Q01 (fun h=> Qhf hlt (O ▸ h):Q6M (Q1n cs k) (x,y,u)=none→(Q1n cs cs.length).isSome=false);rw [aa] at t r;simp only [Q6M,Option.bind_some] at c0 c1 c2 t r
   clear O I;have U:=Q01 B.out.len;obtain ⟨g,c,e⟩:=Q2N z.out (by rw [U.out];omega);subst e
   have ay:(k:Int) < (hs.length:Int):=by have:=U.out;omega
   cases hc:Q0J x y u with
   |false=>
    rw [hc] at r;have A:=Q01 (r.out (by simp));clear r t;obtain ⟨W2,D⟩:∃W,(wr.alloc (.cells #[.int .i64 x,.int .i64 y,.int .i64 u] 77))=W:=⟨_,rfl⟩;have a:=alb0v0v1 D;replace B:=Q01 (B.out.kept a);replace z:=Q01 (Q03 z.out a);replace n:=Q01 (n.out.trans (a.mono n.out.size));clear a;have s:=alz0v0v1 D;obtain ⟨X,V,R⟩:=alc3v0v1 D;have Y:=Q01 (Q4S x y u W2);rw [hc] at Y;simp only [Bool.false_eq_true,if_false] at Y;clear hc;go_wp2_with fail;refine (Y.out).mono ?_;rintro e v1 ⟨rfl,f⟩;replace X:=bKq0v0v0 f X s;replace V:=bKq0v0v0 f V s
    replace R:=bKq0v0v0 f R s;replace s:wr.heap.size < v1.heap.size:=Kbq s f.size;replace B:=Q01 (B.out.kept f);replace z:=Q01 (Q03 z.out f);replace n:=Q01 (n.out.trans (f.mono n.out.size));clear f;go_wp2
    go_ret2
    refine ⟨.slice none 0 0, ?_, ?_,n.out⟩
    ·rw [A.out];rfl
    ·intro h;rw [A.out] at h;cases h
   |true=>
    rw [hc] at r t;simp only [if_true] at r t;obtain ⟨W2,D⟩:∃W,(wr.alloc (.cells #[.int .i64 x,.int .i64 y,.int .i64 u] 77))=W:=⟨_,rfl⟩;have a:=alb0v0v1 D;replace B:=Q01 (B.out.kept a);replace z:=Q01 (Q03 z.out a);replace n:=Q01 (n.out.trans (a.mono n.out.size));clear a;have s:=alz0v0v1 D;obtain ⟨X,V,R⟩:=alc3v0v1 D;have Y:=Q01 (Q4S x y u W2);rw [hc] at Y;simp only [if_true] at Y;have HA:=Q01 (fun o c W h1 h2=> Q3k o c l x y u W h1 h2 (by have:=HN.out;omega) hc);generalize Q9s x y u=dv at *;clear hc;go_wp2_with fail;refine (Y.out).mono ?_
    rintro e v1 ⟨rfl,f⟩;replace X:=bKq0v0v0 f X s;replace V:=bKq0v0v0 f V s;replace R:=bKq0v0v0 f R s;replace s:wr.heap.size < v1.heap.size:=Kbq s f.size;replace B:=Q01 (B.out.kept f);replace z:=Q01 (Q03 z.out f);replace n:=Q01 (n.out.trans (f.mono n.out.size));clear f;obtain ⟨o',c',e',Z⟩:=ownL.open (L:=Q1d) (B.out.row k (by omega));rw [af] at e' Z;have aj:=Q2U z.out k (by rw [U.out];omega);rw [e'] at aj;have P:=B.out.row k (by omega);rw [e',af] at P;have F:=Q01 (HA.out o' c' v1 Z (Q5s P));clear Z P HA Y e'
    cases hdo:doL l x y u with
    |none=>
     rw [hdo] at r F;have A:=Q01 (r.out rfl);simp only [Option.isSome_none] at F;clear r t hdo;go_wp2_with fail;refine (F.out).mono ?_;rintro e v2 ⟨v9,rfl,_,f⟩;replace X:=bKq0v0v0 f X s;replace V:=bKq0v0v0 f V s;replace R:=bKq0v0v0 f R s;replace s:wr.heap.size < v2.heap.size:=Kbq s f.size;replace B:=Q01 (B.out.kept f);replace z:=Q01 (Q03 z.out f);replace n:=Q01 (n.out.trans (f.mono n.out.size));clear f;go_wp2
     go_ret2
     refine ⟨.slice none 0 0, ?_, ?_,n.out⟩
     ·rw [A.out];rfl
     ·intro h;rw [A.out] at h;cases h
    |some m=>
     rw [hdo] at t F;simp only [Option.isSome_some] at F;have ax:=Q96 hdo;have ap:=Q01 n.out.size;clear r hdo;go_wp2_with fail;refine (F.out).mono ?_;rintro e v2 ⟨v9,rfl,J,f⟩;have HW:=Q01 (J m rfl);have aw:=f.size;clear J;replace X:=bKq0v0v0 f X s;replace V:=bKq0v0v0 f V s;replace R:=bKq0v0v0 f R s;replace s:wr.heap.size < v2.heap.size:=Kbq s f.size;replace B:=Q01 (B.out.kept f);replace z:=Q01 (Q03 z.out f);replace n:=Q01 (n.out.trans (f.mono n.out.size));clear f;obtain ⟨o9,c9,e9,_⟩:=ownL.open (L:=Q1d) HW.out;rw [e9] at HW ⊢;clear e9
     replace HW:=Q01 (Q04 HW.out (show w.heap.size≤_ from ap.out));have aq:=Q01 (Served.snoc B.out (show Q1w _ w.heap.size (.slice o9 m.length c9) (Q0k cs (k+1)) by unfold Q0k;rw [t.out];exact HW.out));have an:=Q01 (show (Q1n cs (k+1)).isSome=true by rw [t.out];rfl);have ae:=n.out.size;generalize m.length=ml at *;go_wp2_with (at_builtin;refine Q08 Qjb rfl (.tmp 61) (.tmp 63) rfl w.heap.size _ hs rfl (z.out.alloc _) (some ⟨v2.heap.size,0,none⟩) 1 (v2.alloc (.cells #[.slice o9 ml c9] 26)).heap.size [(o9,ml,c9)] 1 rfl rfl ?c0 QiC ?c1 ?c2 ?_)
     case c0=> intro h;cases h
     case c1=> have:=U.out;have:=HN.out;simp;omega
     case c2=> simp;omega
     intro v5 w5 ai ab _;have ah:=Q01 (World.ownsRow.alloc z.out (.cells #[.slice o9 ml c9] 26));have ao:=Q01 (Served.other (aq.out.kept ((Below.refl _ _).alloc (Kaq _) (.cells #[.slice o9 ml c9] 26))) ah.out ab);have ar:=Q01 ((n.out.alloc ae _).grown ab (by simp;omega) (fun k h=> (ah.out.lt k h).1));have ak:=Q01 ai;clear ab ai;go_wp2;go_roundw
     case rel=> exact ⟨k+1,_,by omega,by go_num,ak.out,ao.out,an.out,ar.out⟩
     case measure=> simp [intOf];omega
  ·have e:k=cs.length:=by omega
   subst e;clear HC ag ad;go_wp2
   go_ret2
   refine ⟨u4, ?_,fun _=> ⟨hs,z.out,B.out⟩,n.out⟩;rw [I.out];rfl
theorem Qav (key safe:Int) (o:Option Addr) (cap:Nat) (cs:List Cd) (w:World) (l:RdC w.heap.size w o cs) (B:cs.length≤1048576):
  Calls Tryz.prog 67 #[jrn key (.slice o cs.length cap) safe] w fun e p=> ∃v,e=.returned (.tuple #[v,.bool (Q0s key cs safe)])∧(Q0s key cs safe=true→∃hs,ownL Q0H 26 p w.heap.size v hs∧Served (Q0k cs) (cs.length+1) p w.heap.size hs)∧Below w.heap.size w p:=by
 by_cases hall:Q1P key=true∧cs.length≤100∧0≤safe∧safe≤(cs.length:Int)
 ·obtain ⟨r,h2,j,k⟩:=hall
  have e:Q0s key cs safe=(Q1n cs cs.length).isSome:=by unfold Q0s;simp [r,h2,j,k]
  rw [e]
  rcases l with l|⟨b,off,rfl,n,g⟩
  ·subst l
   exact Q8y key safe 0 0 cap [] w (fun h=> absurd rfl h) (fun i hi=> absurd hi (Nat.not_lt_zero _)) r h2 j k o (fun h=> absurd rfl h)
  ·exact Q8y key safe b off cap cs w (fun _=> n) g r h2 j k _ (fun _=> rfl)
 have d:=Q01 (show Q0s key cs safe=false by
  rw [Bool.eq_false_iff];intro h;unfold Q0s at h;simp only [Bool.and_eq_true,decide_eq_true_eq] at h;exact hall ⟨h.1.1.1.1,h.1.1.1.2,h.1.1.2,h.1.2⟩)
 have a:=Q10 key;obtain ⟨z,f⟩:∃W,(w.alloc (.cells #[.int .i64 key,.slice o cs.length cap,.int .i64 safe] 25))=W:=⟨_,rfl⟩;have c:=alb0v0v1 f;have m:=Q01 c;clear c;have A:=alz0v0v1 f;obtain ⟨u,C,y⟩:=alc3v0v1 f;clear l
 cases hk:Q1P key with
 |false=>
  rw [hk] at a;clear hall;go_enter Tryz.func67,Tryz.ntmps67;go_wp2_with (go_at_call 115;refine (a _).mono ?_;rintro e q ⟨rfl,rfl⟩)
  go_ret2
  refine ⟨.slice none 0 0, ?_, ?_,m.out⟩
  ·rw [d.out];rfl
  ·intro h;rw [d.out] at h;cases h
 |true=>
  by_cases h2:cs.length≤100
  ·by_cases j:0≤safe
   ·by_cases k:safe≤(cs.length:Int)
    ·exact absurd ⟨hk,h2,j,k⟩ hall
    ·skip
     rw [hk] at a;have s:decide (100 < (cs.length:Int))=false:=decide_eq_false (by omega);have t:decide (safe < 0)=false:=decide_eq_false (by omega);have x:decide ((cs.length:Int) < safe)=true:=decide_eq_true (by omega);clear hall;go_enter Tryz.func67,Tryz.ntmps67;go_wp2_with (go_at_call 115;refine (a _).mono ?_;rintro e q ⟨rfl,rfl⟩)
     go_ret2
     refine ⟨.slice none 0 0, ?_, ?_,m.out⟩
     ·rw [d.out];rfl
     ·intro h;rw [d.out] at h;cases h
   ·skip
    rw [hk] at a;have s:decide (100 < (cs.length:Int))=false:=decide_eq_false (by omega);have t:decide (safe < 0)=true:=decide_eq_true (by omega);clear hall;go_enter Tryz.func67,Tryz.ntmps67;go_wp2_with (go_at_call 115;refine (a _).mono ?_;rintro e q ⟨rfl,rfl⟩)
    go_ret2
    refine ⟨.slice none 0 0, ?_, ?_,m.out⟩
    ·rw [d.out];rfl
    ·intro h;rw [d.out] at h;cases h
  ·skip
   rw [hk] at a;have s:decide (100 < (cs.length:Int))=true:=decide_eq_true (by omega);clear hall;go_enter Tryz.func67,Tryz.ntmps67;go_wp2_with (go_at_call 115;refine (a _).mono ?_;rintro e q ⟨rfl,rfl⟩)
   go_ret2
   refine ⟨.slice none 0 0, ?_, ?_,m.out⟩
   ·rw [d.out];rfl
   ·intro h;rw [d.out] at h;cases h
end Go.Proofs.YtpneolgdghbinaaGreat
