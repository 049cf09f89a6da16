/- Several texts in one: SInsert2, SAfter, SAfter2, SAfter3, STurns. -/
import Derived.Lib.AppendZerosOnto
import Derived.Laws.NewBlocks
import Derived.Deep.DeepAppendWide
import Derived.Test.YteffhdcankkfkaaGreatQListed30
namespace Go.Proofs.YteffhdcankkfkaaGreat
open Go.ChangeShapes Go.WideShapes Go.ChangeAt Go.RowKit Go.Joins
set_option linter.unusedVariables false
set_option linter.unusedSimpArgs false
set_option maxRecDepth 100000
set_option maxHeartbeats 40000000
theorem QbJ {X cs R:List Value} {i n k:Nat} (m:X.length=n * k) (l:R.take (i * k)=X.take (i * k)) (hi:i<=n) (c:cs.length=k) (h:(n+1) * k<=R.length):
  let a:=R.take (i * k)++cs++R.drop (i * k+cs.length)
  (a.take ((i+1) * k)++X.drop (i * k)++a.drop ((i+1) * k+(X.drop (i * k)).length)).take ((n+1) * k)=X.take (i * k)++cs++X.drop (i * k)/\(a.take ((i+1) * k)++X.drop (i * k)++a.drop ((i+1) * k+(X.drop (i * k)).length)).length=R.length/\a.length=R.length:=by
 intro a;have q:(i+1) * k=i * k+k:=Nat.succ_mul i k;have r:(n+1) * k=n * k+k:=Nat.succ_mul n k;have p:i * k<=n * k:=Nat.mul_le_mul_right k hi
 have b:(X.take (i * k)).length=i * k:=by rw[List.length_take];omega
 have f:(X.drop (i * k)).length=n * k - i * k:=by rw[List.length_drop,m]
 have d:a=X.take (i * k)++cs++R.drop (i * k+cs.length):=by show R.take (i * k)++cs++_=_;rw[l]
 have g:a.length=R.length:=by rw[d];simp only[List.length_append,List.length_drop,b,c];omega
 have j:a.take ((i+1) * k)=X.take (i * k)++cs:=by rw[d];exact List.take_left' (by rw[List.length_append,b,c];omega)
 refine⟨?_, ?_,g⟩
 ·rw[j];exact List.take_left' (by simp only[List.length_append,b,c,f];omega)
 ·rw[j];simp only[List.length_append,List.length_drop,b,c,g]
  rw[List.length_drop]at f;omega
theorem QbN (base g cap E i:Nat) (l:List Bk) (b:Bk) (w:World) (hv:Q1F w base (.slice (some ⟨g,0,none⟩) l.length cap) l) (V:base<=w.heap.size) (hx:w.heap[E]? =some (.cells (Q0L.cs b).toArray 259 (0,0))) (hi:i < l.length) (aa:cap < l.length+1) (hl:l.length<=1000):
  Calls Tryz.prog 247 #[.slice (some ⟨g,0,none⟩) l.length cap,.int .i64 i,.slice (some ⟨E,0,none⟩) 1 1] w fun e w'=> ∃v,e=.returned v/\Q1F w' base v (l.take i++b::l.drop i)/\Below w.heap.size w w':=by
 rcases hv.2 with⟨A,_⟩|⟨g',c',L,A,hb,hc,h4,h5,h6,h7⟩
 ·cases A
 injection A with A _ h3;injection A with A;injection A with A _ _;subst A h3;obtain⟨X,U⟩:∃X,X=l.flatMap Q0L.cs:=⟨_,rfl⟩
 have O:L.toList.take (l.length * 3)=X:=by rw[U];exact h7
 have D:X.length=l.length * 3:=by rw[U,Q0f];rfl
 have af:∀v∈X,v.oneCell'=true:=by rw[U];exact Q4H Q3Y.one l
 have ag:∀v∈Q0L.cs b,v.oneCell'=true:=fun v hv=>Q3Y.one b v hv
 have hD:(X.drop (i * 3)).length=(l.length - i) * 3:=by rw[List.length_drop,D];omega
 have ah:g < w.heap.size:=by
  rcases Nat.lt_or_ge g w.heap.size with h|h
  ·exact h
  ·rw[Array.getElem?_eq_none h]at hc;cases hc
 have ak:E < w.heap.size:=by
  rcases Nat.lt_or_ge E w.heap.size with h|h
  ·exact h
  ·rw[Array.getElem?_eq_none h]at hx;cases hx
 have aj:∀j v,X[j]? =some v->w.cell? ⟨g,j,none⟩=some v:=fun j v a=>by
  rw[<-O,List.getElem?_take]at a
  split at a
  ·simpa[World.cell?,hc]using a
  ·cases a
 obtain⟨z,aq,s,am,Y⟩:=Q3Y.info;obtain⟨i0,ai,al,ab,ac⟩:=info_parts s
 have J:(Builtin.firstCells i0.size i (.slice (some ⟨g,0,none⟩) i cap)).run Tryz.prog w.drew=.ok (X.take (i * 3)).toArray w.drew:=by
  rw[ab]
  exact run_firstCells_some w.drew 3 i ⟨g,0,none⟩ i cap (X.take (i * 3)) (by rw[List.length_take];omega) (fun j v a=>by
   rw[Addr.add_lit,Nat.zero_add];rw[List.getElem?_take]at a
   split at a
   ·exact aj j v a
   ·cases a)
 have Z:i+(l.length+1 - i)=l.length+1:=by omega
 have u:∀x,(Builtin.append_ #[26,3] x #[.slice (some ⟨g,0,none⟩) i cap,.int .i64 ((l.length:Int)+1 - (i:Int))]).run Tryz.prog w=
   .ok (.slice (some ⟨w.heap.size,0,none⟩) (l.length+1) (grownCap w (l.length+1) cap 259)) (w.drew.alloc (.cells ((X.take (i * 3)).toArray++Builtin.zeroCells z.cells (l.length+1 - i)++Builtin.zeroCells z.cells (grownCap w (l.length+1) cap 259 - (l.length+1))) 259)):=fun x=>by
  have h:=Lib.run_append_grow_zeros w 26 3 x 259 i0 z .i64 .i64 Tryz.underlying26 Tryz.underlying3 ai al (some ⟨g,0,none⟩) i cap (X.take (i * 3)) J (l.length+1 - i) (by omega) (by rw[ab];decide) (by omega) (by omega) (by rw[ac];have:=Nat.mul_le_mul (show l.length+1 - i<=1001 by omega) Y;omega) (Go.growslice_fits_wide (by omega) (by rw[ac,Z];have:=Nat.mul_le_mul (show(l.length+1)+(l.length+1) / 4+192<=2000 by omega) Y;omega));rw[Z]at h;rw[show(l.length:Int)+1 - (i:Int)=((l.length+1 - i:Nat):Int)by omega];exact h
 have au:=grownCap_ge w (l.length+1) cap 259;have ar:grownCap w (l.length+1) cap 259<=maxLen:=grownCap_le_maxLen w (l.length+1) cap 259 (by unfold maxLen;omega);generalize grownCap w (l.length+1) cap 259=G at *;obtain⟨ROW,f⟩:∃ROW:Array Value,ROW=(X.take (i * 3)).toArray++Builtin.zeroCells z.cells (l.length+1 - i)++Builtin.zeroCells z.cells (G - (l.length+1)):=⟨_,rfl⟩;rw[<-f]at u
 have an:∀k,(Builtin.zeroCells z.cells k).size=k * 3:=fun k=>by simp[Builtin.zeroCells,am];rfl
 have d:ROW.toList.length=G * 3:=by
  rw[f];simp only[Array.length_toList,Array.size_append,an,List.size_toArray,List.length_take,D];omega
 have ae:ROW.toList.take (i * 3)=X.take (i * 3):=by
  rw[f];simp only[Array.toList_append,List.append_assoc];exact List.take_left' (by rw[List.length_take];omega)
 have HS:=Q00 (QbJ (cs:=Q0L.cs b) (i:=i) (n:=l.length) (k:=3) D ae (KIq hi) rfl (by omega));dsimp only at HS;obtain⟨y,R⟩:∃y,y=ROW.toList.take (i * 3)++Q0L.cs b++ROW.toList.drop (i * 3+(Q0L.cs b).length):=⟨_,rfl⟩;rw[<-R]at HS;have F:y.length=G * 3:=HS.out.2.2.trans d;obtain⟨C2,T⟩:∃C2,C2=y.take ((i+1) * 3)++X.drop (i * 3)++y.drop ((i+1) * 3+(X.drop (i * 3)).length):=⟨_,rfl⟩;rw[<-T]at HS;obtain⟨N,B⟩:∃N,N=w.heap.size:=⟨_,rfl⟩;obtain⟨m,q⟩:∃m,m=w.drew.alloc (.cells ROW 259):=⟨_,rfl⟩;rw[<-q]at u
 have k1:m.heap[N]? =some (.cells ROW 259 (0,0)):=by rw[q,B];exact heap_alloc_new w.drew _
 have kg:m.heap[g]? =some (.cells L 259 (0,0)):=by rw[q,Below.heap_alloc w.drew _ g ah];exact hc
 have kx:m.heap[E]? =some (.cells (Q0L.cs b).toArray 259 (0,0)):=by rw[q,Below.heap_alloc w.drew _ E ak];exact hx
 obtain⟨p,r⟩:∃p,p=m.setRow N y.toArray:=⟨_,rfl⟩
 have H:∀x c M,1<=c->(Builtin.copy_ #[26,26] x #[.slice (some ⟨N,i * 3,none⟩) c M,.slice (some ⟨E,0,none⟩) 1 1]).run Tryz.prog m=.ok (goInt (Nat.min 1 c)) p:=fun x c M e1=>by
  have h:=Q29 (P:=Tryz.prog) 3 m 26 26 x 259 N (i * 3) c M ⟨E,0,none⟩ 1 1 ROW 259 (Q0L.cs b) Tryz.underlying26 (by kernel_rfl) k1 (by rw[show Nat.min 1 c=1 by show min 1 c=_;omega];rfl)
   (fun j v a=>by
    rw[Addr.add_lit]
    simpa[World.cell?,kx]using a) (by rw[Array.length_toList]at d;rw[d];show i * 3+3<=G * 3;omega) ag
  rw[h,r,R]
 have k2:p.heap[N]? =some (.cells y.toArray 259 (0,0)):=by rw[r];exact setRow_heap m N ROW _ 259 _ k1
 have ao:p.heap[g]? =some (.cells L 259 (0,0)):=by rw[r,setRow_other m N g _ (by omega)];exact kg
 obtain⟨W3,C⟩:∃W3,W3=p.drew.setRow N C2.toArray:=⟨_,rfl⟩
 have I:∀x c M sL sc,c=l.length - i->sL=l.length - i->(Builtin.copy_ #[26,26] x #[.slice (some ⟨N,(i+1) * 3,none⟩) c M,.slice (some ⟨g,i * 3,none⟩) sL sc]).run Tryz.prog p.drew=.ok (goInt (Nat.min sL c)) W3:=fun x c M sL sc e1 e2=>by
  have h:=Q29 (P:=Tryz.prog) 3 p.drew 26 26 x 259 N ((i+1) * 3) c M ⟨g,i * 3,none⟩ sL sc y.toArray 259 (X.drop (i * 3)) Tryz.underlying26 (by kernel_rfl) k2 (by rw[hD,show Nat.min sL c=l.length - i by show min sL c=_;omega])
   (fun j v a=>by
    rw[List.getElem?_drop,<-O,List.getElem?_take]at a
    split at a
    ·rw[Addr.add_lit];show p.cell? ⟨g,i * 3+j,none⟩=some v;simpa[World.cell?,ao]using a
    ·cases a) (by rw[hD];simp only[List.size_toArray,F];omega) (fun v hv=>af v (List.mem_of_mem_drop hv))
  rw[h,C,T]
 have k3:W3.heap[N]? =some (.cells C2.toArray 259 (0,0)):=by rw[C];exact setRow_heap p.drew N y.toArray _ 259 _ k2
 have B1:Below N w m:=by rw[q,B];exact((Below.refl _ w).drew).alloc (Kaq _) _
 have B3:Below N w W3:=by
  have a1:m.grownBy p (some N):=by rw[r];exact⟨rfl,rfl,rfl,by simp,fun k _ hk=>setRow_other m N k _ (fun e=>hk (by simp[e]))⟩
  have a2:p.grownBy W3 (some N):=by rw[C];exact⟨rfl,rfl,rfl,by simp,fun k _ hk=>setRow_other p.drew N k _ (fun e=>hk (by simp[e]))⟩
  exact B1.grown (a1.trans a2) (by rw[B];exact B ▸ B1.size) (fun k e=>by cases e;exact Kaq _)
 have ad:=Q00 (And.intro k3 (And.intro B3 (And.intro U (And.intro d (And.intro B V)))));rw[<-B]at u;have RZ:=Q00 u;have CPA:=Q00 H;have CPB:=Q00 I;have ap:=Q00 ar;clear hv V hx hc U h7 O D af ag hD ah ak aj s am ai al ab ac J u f an d ae R F T q k1 kg kx r H k2 ao C I k3 B1 B3 Y Z B h6 h5;generalize hn:l.length=n at *;have HN:=Q00 hn
 have av:cap=n:=by omega
 subst av;clear hn h4 aa
 have z0:((i:Int)==(cap:Int))=false:=by simp;omega
 have z1:(cap:Int) < (cap:Int)+1:=by omega
 have n1:i<=cap:=by omega
 have n3:¬(cap=i):=by omega
 have n5:¬(G=i):=by omega
 have n6:¬(G=i+1):=by omega
 have n7:cap+1<=G:=au
 have z3:(i:Int)+1<=(cap:Int)+1:=by omega
 have z4:(i:Int)<=(cap:Int):=by omega
 have z5:(i:Int)<=(cap:Int)+1:=by omega
 have ax:IntKind.i64.wrap ((i:Int)+1)=(i:Int)+1:=by rw[IntKind.wrap_i64];omega
 have ay:(0:Int)<=(i:Int)+1:=by omega
 have az:((i:Int)+1).toNat=i+1:=by omega
 have e3:1<=cap+1 - i:=by omega
 have aw:=CPA.out 3 (cap+1 - i) (G - i) e3;clear e3;go_enter Tryz.func247,Tryz.ntmps247;go_wp2_with (first|(at_builtin;refine Lib.wpList_append_run _ rfl _ _ _ _ rfl _ _ rfl rfl _ _ (RZ.out _) ?_))
 go_region_law (refine step_copy_runI rfl _ _ 26 26 rfl (.slice (some ⟨N,(i+1) * 3,none⟩) (cap - i) (G - (i+1))) (.slice (some ⟨g,i * 3,none⟩) (cap - i) (cap - i)) (by simp[Act.eval,Act.put]) (by simp[Act.eval,Act.put]) (CPB.out _ _ _ _ _ rfl rfl) ?_)
 go_wp2;go_ret;obtain⟨k3,B3,U,d,B,V⟩:=ad.out;refine⟨_,rfl, ?_,B ▸ B3⟩;have hs:=HS.out
 have t:(l.take i++b::l.drop i).length=cap+1:=by have:=HN.out;simp;omega
 refine⟨by rw[Q0f],.inr ⟨N,G,_,by rw[t];rfl,by omega,k3,by rw[t];omega,ap.out, ?_, ?_⟩⟩
 ·rw[List.size_toArray]
  exact hs.2.1.trans d
 ·rw[t]
  show List.take ((cap+1) * 3) _=_
  rw[hs.1,U,List.flatMap_append,List.flatMap_cons,List.append_assoc]
  have e2:l.flatMap Q0L.cs=(l.take i).flatMap Q0L.cs++(l.drop i).flatMap Q0L.cs:=by rw[<-List.flatMap_append,List.take_append_drop]
  have e4:((l.take i).flatMap Q0L.cs).length=i * 3:=by rw[Q0f,List.length_take,HN.out,Nat.min_eq_left n1];rfl
  rw[e2,List.take_left' e4,List.drop_left' e4]
theorem Q60 (base cap d i:Nat) (o:Option Addr) (l:List Bk) (b:Bk) (w:World) (hv:Q1F w base (.slice o l.length cap) l) (c:base<=w.heap.size) (n:w.heap[d]? =some (.cells (Q0L.cs b).toArray 259 (0,0))) (u:∀g,o=some ⟨g,0,none⟩->d≠g) (hi:i<=l.length) (t:l.length<=1000):
  Calls Tryz.prog 247 #[.slice o l.length cap,.int .i64 i,.slice (some ⟨d,0,none⟩) 1 1] w fun e p=> ∃v,e=.returned v/\Q1F p base v (l.take i++b::l.drop i)/\Below base w p:=by
 have y:d < w.heap.size:=by
  rcases Nat.lt_or_ge d w.heap.size with h|h
  ·exact h
  ·rw[Array.getElem?_eq_none h]at n;cases n
 rcases Nat.lt_or_ge i l.length with m|A
 ·rcases hv.2 with⟨a,h2⟩|⟨g,z,r,a,s,_⟩
  ·injection a with _ f _;omega
  ·injection a with a _ f
   subst a f
   by_cases hr:l.length+1<=cap
   ·refine(Qaw base g cap d i l b w hv n (u g rfl) m hr t).mono ?_
    rintro e p ⟨v,rfl,a,h2⟩;exact⟨v,rfl,a,(Below.refl base w).grown h2 c (fun k e=>by cases e;exact s)⟩
   ·refine(QbN base g cap d i l b w hv c n m (by omega) t).mono ?_
    rintro e p ⟨v,rfl,a,h2⟩;exact⟨v,rfl,a,h2.mono c⟩
 ·have e:i=l.length:=by omega
  subst e;refine(QcQ base cap d o l b w hv (.inr ⟨d,0,rfl,y,fun q B j C=>?_⟩) c t).mono ?_
  ·have x:q=0:=by simpa using B
   subst x;simp[World.cell?,n]
  ·rintro e p ⟨v,rfl,a,h2⟩
   refine⟨v,rfl,by simpa using a,(Below.refl base w).grown h2 c (fun k e=>?_)⟩
   rcases hv.2 with⟨f,_⟩|⟨g,z,r,f,s,_⟩
   ·rw[f]at e;cases e
   ·rw[f]at e;cases e;exact s
theorem Q66 {w:World} {o:Option Addr} {l:List Bk} (h:RdK w.heap.size w o l) (a:Obj):RdK (w.alloc a).heap.size (w.alloc a) o l:=
 (RdL.kept h ((Below.refl w.heap.size w).alloc (Kaq _) a) (Kaq _)).le (by simp)
theorem Q3E {α:Type} {x y:α} (h:x=y):x=y:=h
theorem Q2y (id:Int) (w:World):Calls Tryz.prog 293 #[.agg #[.int .i64 id]] w fun e b=>e=.returned (.int .i64 id)/\Below w.heap.size w b:=by
 have a:Below w.heap.size w w:=KBq;go_enter Tryz.func293,Tryz.ntmps293;go_wp2;go_ret;exact⟨rfl,by(repeat (first|with_reducible (first|exact a|exact KBq|refine KHq ?_|refine below_drewN ?_ _|refine KOq ?_ ?_ _|refine KNq ?_ ?_ _)|(focus (simp;first|done|omega))|omega))⟩
theorem Qhw (base pl:Nat) (v:Value) (l:List Bk) (x y:Int) (z:Bool) (w:World) (A:Obj) (hv:Q1F w base v l) (k:base<=w.heap.size) (r:pl<=l.length) (q:l.length<=1000):
  Calls Tryz.prog 247 #[v,.int .i64 pl,.slice (some ⟨w.heap.size+1,0,none⟩) 1 1] ((w.alloc A).alloc (.cells #[.int .i64 x,.int .i64 y,.bool z] 259)) fun e j=> ∃v,e=.returned v/\Q1F j base v (l.take pl++(x,y,z)::l.drop pl)/\Below base w j:=by
 have f:(w.alloc A).heap.size=w.heap.size+1:=by simp
 have b:Below w.heap.size w ((w.alloc A).alloc (.cells #[.int .i64 x,.int .i64 y,.bool z] 259)):=((Below.refl w.heap.size w).alloc (Kaq _) A).alloc (by omega) _;have i:Q1F ((w.alloc A).alloc (.cells #[.int .i64 x,.int .i64 y,.bool z] 259)) base v l:=Q0a hv b;have n:=heap_alloc_new (w.alloc A) (.cells #[.int .i64 x,.int .i64 y,.bool z] 259);rw[f]at n
 obtain⟨o,cap,e,d⟩:∃o cap,v=.slice o l.length cap/\∀g,o=some ⟨g,0,none⟩->w.heap.size+1≠g:=by
  rcases hv.2 with⟨a,h2⟩|⟨g,c,p,a,_,m,_⟩
  ·exact⟨none,0,by rw[a,h2],fun g e=>by cases e⟩
  ·refine⟨_,c,a,fun s e=>?_⟩
   cases e
   have:g < w.heap.size:=by
    rcases Nat.lt_or_ge g w.heap.size with h|h
    ·exact h
    ·rw[Array.getElem?_eq_none h]at m;cases m
   omega
 subst e;refine(Q60 base cap (w.heap.size+1) pl o l (x,y,z) _ i (Kdq k b.size) n d r q).mono ?_;rintro e j ⟨v,rfl,a,h2⟩;exact⟨v,rfl,a,(b.mono k).trans h2⟩
theorem Qfk (o:Option Addr) (cap:Nat) (l:List Bk) (id g:Int) (w:World) (p:RdK w.heap.size w o l) (F:o=none->cap=0) (E:l.length<=1000):
  Calls Tryz.prog 231 #[.slice o l.length cap,.iface 331 (.agg #[.int .i64 id,.int .i64 g])] w fun e B=> ∃v,e=.returned (.tuple #[v,.bool (!Q0m l id)])/\(Q0m l id=true->v=.slice none 0 0)/\(Q0m l id=false->Q1F B w.heap.size v (l.take (Q0e l id)++(id,g,false)::l.drop (Q0e l id)))/\Below w.heap.size w B:=by
 have q:=fun w p=>Q3b o cap l id w p (by omega)
 have A:=Q00 (Q3t l id);generalize Q0m l id=t at q ⊢;generalize Q0e l id=pl at q A ⊢
 have G:∀w,Sem.run Tryz.prog (Instr.typeAssert (.iface 331 (.agg #[.int .i64 id,.int .i64 g])) 316 331 true) w=.ok (.tuple #[.agg #[.int .i64 id,.int .i64 g],.bool true]) w:=fun w=>by kernel_rfl
 have L:∀args w,(callFunc 293 args).run Tryz.prog w=.ok (.enter 293 args) w:=enters_of Tryz.func293 (by kernel_rfl) rfl
 cases t
 ·go_enter Tryz.func231,Tryz.ntmps231
  go_wp2_with fail;rw[Q3E (x:=Sem.run Tryz.prog (method _ _ (.agg #[.int .i64 id,.int .i64 g]) _) w) (y:=Result.ok (293,.agg #[.int .i64 id]) w) ?hm]
  case hm=>kernel_rfl
  go_wp2_with (first|(go_at_call 293;refine(Q2y id _).mono ?_;rintro e I ⟨rfl,a⟩;have f:=Q00 ((RdL.kept p a (Kaq _)).le a.size);have c:=Q00 a;clear a)|(go_at_call 246;refine(q _ f.out).mono ?_;rintro e C ⟨rfl,b⟩;have z:=Q00 ((RdL.kept f.out b (Kaq _)).le b.size);have d:=Q00 b;clear b)|(go_at_call 182;refine(Q1t o cap l _ (Q66 z.out _) F (by omega)).mono ?_;rintro e J ⟨H,rfl,m,j⟩;have s:=Q00 m;have i:=Q00 j;clear m j)|(go_at_call 247;refine(Qhw _ pl H l id g false J _ s.out i.out.size A.out E).mono ?_;rintro e N ⟨M,rfl,n,k⟩;have u:=Q00 n;have r:=Q00 k;clear n k))
  go_ret2
  have s1:=c.out.size;have s2:=d.out.size;have D:Below w.heap.size w C:=c.out.trans (d.out.mono s1);have B2a:=D.alloc (Kdq s1 s2) (.cells #[.int .i64 id,.int .i64 g] 331);have s3:=B2a.size;refine⟨_,rfl, ?_,fun _=>Q06 u.out s3,(B2a.trans (i.out.mono s3)).trans (r.out.mono s3)⟩;intro h;cases h
 ·go_enter Tryz.func231,Tryz.ntmps231
  go_wp2_with fail;rw[Q3E (x:=Sem.run Tryz.prog (method _ _ (.agg #[.int .i64 id,.int .i64 g]) _) w) (y:=Result.ok (293,.agg #[.int .i64 id]) w) ?hm]
  case hm=>kernel_rfl
  go_wp2_with (first|(go_at_call 293;refine(Q2y id _).mono ?_;rintro e I ⟨rfl,a⟩;have f:=Q00 ((RdL.kept p a (Kaq _)).le a.size);have c:=Q00 a;clear a)|(go_at_call 246;refine(q _ f.out).mono ?_;rintro e C ⟨rfl,b⟩;have d:=Q00 b;clear b))
  go_ret2
  refine⟨_,rfl,fun _=>rfl, ?_, ?_⟩
  ·intro h;cases h
  ·exact(c.out.trans (d.out.mono c.out.size)).alloc (Kdq c.out.size d.out.size) _
theorem Q8s {l:List Bk} {id:Int} (h:Q0m l id=true):Q0e l id < l.length:=by
 unfold Q0m at h;simp at h;exact h.1
theorem Qft (base pl:Nat) (v:Value) (l:List Bk) (w b:World) (hv:Q1F w base v l) (j:base<=w.heap.size) (d:Below w.heap.size w b) (p:pl < l.length) (n:l.length<=1000):
  Calls Tryz.prog 248 #[v,.int .i64 pl,.int .i64 ((pl:Int)+1)] b fun e i=> ∃v,e=.returned v/\Q1F i base v (l.take pl++l.drop (pl+1))/\Below base w i:=by
 have h:Q1F b base v l:=Q0a hv d
 rcases hv.2 with⟨a,h2⟩|⟨g,c,m,a,f,q,_⟩
 ·omega
 ·subst a
  refine(Q5Y base g c pl l b h p n).mono ?_;rintro e i ⟨v,rfl,a,h2⟩;exact⟨v,rfl,a,(d.mono j).grown h2 (Kdq j d.size) (fun k e=>by cases e;exact f)⟩
theorem Qa6 (o:Option Addr) (cap:Nat) (l:List Bk) (id:Int) (w:World) (z:RdK w.heap.size w o l) (H:o=none->cap=0) (C:l.length<=1000):
  Calls Tryz.prog 231 #[.slice o l.length cap,.iface 335 (.agg #[.int .i64 id])] w fun e E=> ∃v,e=.returned (.tuple #[v,.bool (Q0m l id)])/\(Q0m l id=false->v=.slice none 0 0)/\(Q0m l id=true->Q1F E w.heap.size v (l.take (Q0e l id)++l.drop (Q0e l id+1)))/\Below w.heap.size w E:=by
 have A:=fun w z=>Q3b o cap l id w z (by omega)
 have u:=Q00 (Q8s (l:=l) (id:=id));generalize Q0m l id=t at A u ⊢;generalize Q0e l id=pl at A u ⊢
 have I:∀w,Sem.run Tryz.prog (Instr.typeAssert (.iface 335 (.agg #[.int .i64 id])) 316 331 true) w=.ok (.tuple #[.agg #[.int .i64 0,.int .i64 0],.bool false]) w:=fun w=>by kernel_rfl
 have J:∀w,Sem.run Tryz.prog (Instr.typeAssert (.iface 335 (.agg #[.int .i64 id])) 316 332 true) w=.ok (.tuple #[.agg #[.int .i64 0,.int .i64 0],.bool false]) w:=fun w=>by kernel_rfl
 have L:∀w,Sem.run Tryz.prog (Instr.typeAssert (.iface 335 (.agg #[.int .i64 id])) 316 334 true) w=.ok (.tuple #[.agg #[.int .i64 0],.bool false]) w:=fun w=>by kernel_rfl
 have M:∀w,Sem.run Tryz.prog (Instr.typeAssert (.iface 335 (.agg #[.int .i64 id])) 316 335 true) w=.ok (.tuple #[.agg #[.int .i64 id],.bool true]) w:=fun w=>by kernel_rfl
 have R:∀args w,(callFunc 293 args).run Tryz.prog w=.ok (.enter 293 args) w:=enters_of Tryz.func293 (by kernel_rfl) rfl
 cases t
 ·go_enter Tryz.func231,Tryz.ntmps231
  go_wp2_with fail;rw[Q3E (x:=Sem.run Tryz.prog (method _ _ (.agg #[.int .i64 id]) _) w) (y:=Result.ok (293,.agg #[.int .i64 id]) w) ?hm]
  case hm=>kernel_rfl
  go_wp2_with (first|(go_at_call 293;refine(Q2y id _).mono ?_;rintro e O ⟨rfl,a⟩;have i:=Q00 ((RdL.kept z a (Kaq _)).le a.size);have c:=Q00 a;clear a)|(go_at_call 246;refine(A _ i.out).mono ?_;rintro e F ⟨rfl,b⟩;have d:=Q00 b;clear b))
  go_ret2
  refine⟨_,rfl,fun _=>rfl, ?_, ?_⟩
  ·intro h;cases h
  ·exact(c.out.trans (d.out.mono c.out.size)).alloc (Kdq c.out.size d.out.size) _
 ·have n:Hid (pl < l.length):=u.out rfl
  have T:IntKind.i64.wrap ((pl:Int)+1)=(pl:Int)+1:=by have:=u.out rfl;rw[IntKind.wrap_i64];omega
  go_enter Tryz.func231,Tryz.ntmps231;go_wp2_with fail;rw[Q3E (x:=Sem.run Tryz.prog (method _ _ (.agg #[.int .i64 id]) _) w) (y:=Result.ok (293,.agg #[.int .i64 id]) w) ?hm]
  case hm=>kernel_rfl
  go_wp2_with (first|(go_at_call 293;refine(Q2y id _).mono ?_;rintro e O ⟨rfl,a⟩;have i:=Q00 ((RdL.kept z a (Kaq _)).le a.size);have c:=Q00 a;clear a)|(go_at_call 246;refine(A _ i.out).mono ?_;rintro e F ⟨rfl,b⟩;have B:=Q00 ((RdL.kept i.out b (Kaq _)).le b.size);have d:=Q00 b;clear b)|(go_at_call 182;refine(Q1t o cap l _ (Q66 B.out _) H (by omega)).mono ?_;rintro e k ⟨D,rfl,s,r⟩;have p:=Q00 s;have j:=Q00 r;clear s r)|(go_at_call 248;refine(Qft _ pl D l k _ p.out j.out.size (((Below.refl k.heap.size k).alloc (Kaq _) _)) n.out C).mono ?_;rintro e P ⟨N,rfl,g,f⟩;have q:=Q00 g;have m:=Q00 f;clear g f)|(go_at_call 248;refine(Qft _ pl D l k _ p.out j.out.size (Below.refl k.heap.size k) n.out C).mono ?_;rintro e P ⟨N,rfl,g,f⟩;have q:=Q00 g;have m:=Q00 f;clear g f))
  go_ret2
  have s1:=c.out.size;have s2:=d.out.size;have G:Below w.heap.size w F:=c.out.trans (d.out.mono s1);have B2a:=G.alloc (Kdq s1 s2) (.cells #[.int .i64 0,.int .i64 0] 331);have s3:=B2a.size;refine⟨_,rfl, ?_,fun _=>Q06 q.out s3,(B2a.trans (j.out.mono s3)).trans (m.out.mono s3)⟩;intro h;cases h
theorem Q9M {α:Type} (L:Lay α) {u:Value} {a:α} {j:Nat} (b:j < L.k):∀{l:List α} {k:Nat},k < l.length->L.cs a=(L.cs (l.getD k L.d)).set j u->(l.flatMap L.cs).set (k * L.k+j) u=(l.set k a).flatMap L.cs
 |[],k,hk,ha=>by simp at hk
 |x::l,0,hk,ha=>by
  simp only[List.flatMap_cons,List.set_cons_zero,Nat.zero_mul,Nat.zero_add];rw[ha,List.set_append_left _ _ (by rw[L.len];exact b)]
  rfl
 |x::l,k+1,hk,ha=>by
  simp only[List.flatMap_cons,List.set_cons_succ];rw[List.set_append_right _ _ (by rw[L.len,Nat.succ_mul];omega),L.len]
  have e:(k+1) * L.k+j - L.k=k * L.k+j:=by rw[Nat.succ_mul];omega
  rw[e,Q9M L b (l:=l) (k:=k) (by simpa using hk) (by simpa using ha)]
theorem Qcs {l:List Bk} {id:Int} (h:Q0m l id=true):(l.getD (Q0e l id) (0,0,false)).1=id:=by
 unfold Q0m at h;simp only[Bool.and_eq_true,beq_iff_eq]at h;exact h.2
theorem QiT {b:Bk} {id g:Int} (h:b.1=id):Q0L.cs (id,g,b.2.2)=(Q0L.cs b).set 1 (.int .i64 g):=by subst h;rfl
theorem QiO {b:Bk} {id:Int} (h:b.1=id):Q0L.cs (id,b.2.1,true)=(Q0L.cs b).set 2 (.bool true):=by subst h;rfl
theorem Qcv {w:World} {base:Nat} {v:Value} {l:List Bk} (h:Q1F w base v l) {pl:Nat} (f:pl < l.length) (A:Obj):
  ∃g c,v=.slice (some ⟨g,0,none⟩) l.length c/\base<=g/\(w.alloc A).ownsRow base 259 3 (.slice (some ⟨g,0,none⟩) l.length c) l.length (l.flatMap Q0L.cs):=by
 rcases h.2 with⟨a,h2⟩|⟨g,c,b,a,d,_⟩
 ·omega
 ·subst a
  exact⟨g,c,rfl,d,World.ownsRow.alloc h A⟩
theorem Q7K {w:World} {base g c:Nat} {l:List Bk} (h:w.ownsRow base 259 3 (.slice (some ⟨g,0,none⟩) l.length c) l.length (l.flatMap Q0L.cs)) {pl:Nat} (d:pl < l.length) (j:Nat) (b:j < 3):∃u,w.cell? ⟨g,pl * 3+j,none⟩=some u:=by
 have a:(l.flatMap Q0L.cs).length=l.length * 3:=by rw[Q0f];rfl
 exact⟨_,(h.cellAt (pl * 3+j) (by omega)).trans (KGq (by omega))⟩
theorem Qad {w:World} {base g c:Nat} {l:List Bk} (h:w.ownsRow base 259 3 (.slice (some ⟨g,0,none⟩) l.length c) l.length (l.flatMap Q0L.cs)) {pl:Nat} (m:pl < l.length) (j:Nat) (i:j < 3) (u:Value) {a:Bk} (f:Q0L.cs a=(Q0L.cs (l.getD pl Q0L.d)).set j u):Q1F (w.setCell ⟨g,pl * 3+j,none⟩ u) base (.slice (some ⟨g,0,none⟩) l.length c) (l.set pl a):=by
 have b:=(h.stored (pl * 3+j) u).1;rw[show pl * 3+j=pl * Q0L.k+j from rfl,Q9M Q0L (a:=a) i m f]at b;unfold Q1F ownL;rw[List.length_set];exact b
theorem QaW (o:Option Addr) (cap:Nat) (l:List Bk) (id g:Int) (w:World) (z:RdK w.heap.size w o l) (N:o=none->cap=0) (X:l.length<=1000):
  Calls Tryz.prog 231 #[.slice o l.length cap,.iface 332 (.agg #[.int .i64 id,.int .i64 g])] w fun e H=> ∃v,e=.returned (.tuple #[v,.bool (Q0m l id)])/\(Q0m l id=false->v=.slice none 0 0)/\(Q0m l id=true->Q1F H w.heap.size v (l.set (Q0e l id) (id,g,(l.getD (Q0e l id) (0,0,false)).2.2)))/\Below w.heap.size w H:=by
 have B:=fun w z=>Q3b o cap l id w z (by omega)
 have u:=Q00 (Q8s (l:=l) (id:=id));have s:=Q00 (Qcs (l:=l) (id:=id));generalize Q0m l id=t at B u s ⊢;generalize Q0e l id=pl at B u s ⊢
 have O:∀w,Sem.run Tryz.prog (Instr.typeAssert (.iface 332 (.agg #[.int .i64 id,.int .i64 g])) 316 331 true) w=.ok (.tuple #[.agg #[.int .i64 0,.int .i64 0],.bool false]) w:=fun w=>by kernel_rfl
 have P:∀w,Sem.run Tryz.prog (Instr.typeAssert (.iface 332 (.agg #[.int .i64 id,.int .i64 g])) 316 332 true) w=.ok (.tuple #[.agg #[.int .i64 id,.int .i64 g],.bool true]) w:=fun w=>by kernel_rfl
 have V:∀args w,(callFunc 293 args).run Tryz.prog w=.ok (.enter 293 args) w:=enters_of Tryz.func293 (by kernel_rfl) rfl
 cases t
 ·go_enter Tryz.func231,Tryz.ntmps231
  go_wp2_with fail;rw[Q3E (x:=Sem.run Tryz.prog (method _ _ (.agg #[.int .i64 id,.int .i64 g]) _) w) (y:=Result.ok (293,.agg #[.int .i64 id]) w) ?hm]
  case hm=>kernel_rfl
  go_wp2_with (first|(go_at_call 293;refine(Q2y id _).mono ?_;rintro e T ⟨rfl,b⟩;have i:=Q00 ((RdL.kept z b (Kaq _)).le b.size);have d:=Q00 b;clear b)|(go_at_call 246;refine(B _ i.out).mono ?_;rintro e I ⟨rfl,c⟩;have f:=Q00 c;clear c))
  go_ret2
  refine⟨_,rfl,fun _=>rfl, ?_, ?_⟩
  ·intro h;cases h
  ·exact(d.out.trans (f.out.mono d.out.size)).alloc (Kdq d.out.size f.out.size) _
 ·have j:Hid (pl < l.length):=u.out rfl
  have m:=s.out rfl;have D:=Q00 m;clear m s
  have z1:(pl:Int) < (l.length:Int):=by have:=u.out rfl;omega
  have z0:(0:Int)<=(pl:Int):=by omega
  go_enter Tryz.func231,Tryz.ntmps231;go_wp2_with fail;rw[Q3E (x:=Sem.run Tryz.prog (method _ _ (.agg #[.int .i64 id,.int .i64 g]) _) w) (y:=Result.ok (293,.agg #[.int .i64 id]) w) ?hm]
  case hm=>kernel_rfl
  go_wp2_with (first|(go_at_call 293;refine(Q2y id _).mono ?_;rintro e T ⟨rfl,b⟩;have i:=Q00 ((RdL.kept z b (Kaq _)).le b.size);have d:=Q00 b;clear b)|(go_at_call 246;refine(B _ i.out).mono ?_;rintro e I ⟨rfl,c⟩;have E:=Q00 ((RdL.kept i.out c (Kaq _)).le c.size);have f:=Q00 c;clear c)|(go_at_call 182;refine(Q1t o cap l _ (Q66 E.out _) N (by omega)).mono ?_;rintro e Z ⟨Y,rfl,r,n⟩;obtain⟨G,U,rfl,q,A⟩:=Qcv r j.out (.cells #[.int .i64 id,.int .i64 g] 332);have F:=Q7K A j.out 1 (by decide);have M:=A.frozenAt (pl * 3+1);have L:=Q00 A;have k:=Q00 n;have C:=Q00 q;clear A r n q;obtain⟨u3,R⟩:=F))
  go_ret2
  have s1:=d.out.size;have s2:=f.out.size;have J:Below w.heap.size w I:=d.out.trans (f.out.mono s1);have B2a:=J.alloc (Kdq s1 s2) (.cells #[.int .i64 0,.int .i64 0] 331);have s3:=B2a.size;have s4:=k.out.size;have s5:=C.out;refine⟨_,rfl, ?_,fun _=>Q06 (Qad L.out j.out 1 (by decide) (.int .i64 g) (a:=(id,g,(l.getD pl (0,0,false)).2.2)) (QiT D.out)) s3,(((B2a.trans (k.out.mono s3)).alloc (by omega) _).setCell (p:=⟨G,pl * 3+1,none⟩) (show w.heap.size<=G by omega) _)⟩;intro h;cases h
theorem Qbz (o:Option Addr) (cap:Nat) (l:List Bk) (id:Int) (w:World) (u:RdK w.heap.size w o l) (M:o=none->cap=0) (X:l.length<=1000):
  Calls Tryz.prog 231 #[.slice o l.length cap,.iface 334 (.agg #[.int .i64 id])] w fun e G=> ∃v,e=.returned (.tuple #[v,.bool (Q0m l id)])/\(Q0m l id=false->v=.slice none 0 0)/\(Q0m l id=true->Q1F G w.heap.size v (l.set (Q0e l id) (id,(l.getD (Q0e l id) (0,0,false)).2.1,true)))/\Below w.heap.size w G:=by
 have A:=fun w u=>Q3b o cap l id w u (by omega)
 have s:=Q00 (Q8s (l:=l) (id:=id));have r:=Q00 (Qcs (l:=l) (id:=id));generalize Q0m l id=t at A s r ⊢;generalize Q0e l id=pl at A s r ⊢
 have N:∀w,Sem.run Tryz.prog (Instr.typeAssert (.iface 334 (.agg #[.int .i64 id])) 316 331 true) w=.ok (.tuple #[.agg #[.int .i64 0,.int .i64 0],.bool false]) w:=fun w=>by kernel_rfl
 have O:∀w,Sem.run Tryz.prog (Instr.typeAssert (.iface 334 (.agg #[.int .i64 id])) 316 332 true) w=.ok (.tuple #[.agg #[.int .i64 0,.int .i64 0],.bool false]) w:=fun w=>by kernel_rfl
 have P:∀w,Sem.run Tryz.prog (Instr.typeAssert (.iface 334 (.agg #[.int .i64 id])) 316 334 true) w=.ok (.tuple #[.agg #[.int .i64 id],.bool true]) w:=fun w=>by kernel_rfl
 have V:∀args w,(callFunc 293 args).run Tryz.prog w=.ok (.enter 293 args) w:=enters_of Tryz.func293 (by kernel_rfl) rfl
 cases t
 ·go_enter Tryz.func231,Tryz.ntmps231
  go_wp2_with fail;rw[Q3E (x:=Sem.run Tryz.prog (method _ _ (.agg #[.int .i64 id]) _) w) (y:=Result.ok (293,.agg #[.int .i64 id]) w) ?hm]
  case hm=>kernel_rfl
  go_wp2_with (first|(go_at_call 293;refine(Q2y id _).mono ?_;rintro e T ⟨rfl,b⟩;have g:=Q00 ((RdL.kept u b (Kaq _)).le b.size);have d:=Q00 b;clear b)|(go_at_call 246;refine(A _ g.out).mono ?_;rintro e H ⟨rfl,c⟩;have f:=Q00 c;clear c))
  go_ret2
  refine⟨_,rfl,fun _=>rfl, ?_, ?_⟩
  ·intro h;cases h
  ·exact(d.out.trans (f.out.mono d.out.size)).alloc (Kdq d.out.size f.out.size) _
 ·have i:Hid (pl < l.length):=s.out rfl
  have k:=r.out rfl;have C:=Q00 k;clear k r
  have z1:(pl:Int) < (l.length:Int):=by have:=s.out rfl;omega
  have z0:(0:Int)<=(pl:Int):=by omega
  go_enter Tryz.func231,Tryz.ntmps231;go_wp2_with fail;rw[Q3E (x:=Sem.run Tryz.prog (method _ _ (.agg #[.int .i64 id]) _) w) (y:=Result.ok (293,.agg #[.int .i64 id]) w) ?hm]
  case hm=>kernel_rfl
  go_wp2_with (first|(go_at_call 293;refine(Q2y id _).mono ?_;rintro e T ⟨rfl,b⟩;have g:=Q00 ((RdL.kept u b (Kaq _)).le b.size);have d:=Q00 b;clear b)|(go_at_call 246;refine(A _ g.out).mono ?_;rintro e H ⟨rfl,c⟩;have D:=Q00 ((RdL.kept g.out c (Kaq _)).le c.size);have f:=Q00 c;clear c)|(go_at_call 182;refine(Q1t o cap l _ (Q66 D.out _) M (by omega)).mono ?_;rintro e Z ⟨Y,rfl,q,m⟩;obtain⟨F,U,rfl,n,z⟩:=Qcv q i.out (.cells #[.int .i64 id] 334);have E:=Q7K z i.out 2 (by decide);have L:=z.frozenAt (pl * 3+2);have J:=Q00 z;have j:=Q00 m;have B:=Q00 n;clear z q m n;obtain⟨u3,R⟩:=E))
  go_ret2
  have s1:=d.out.size;have s2:=f.out.size;have I:Below w.heap.size w H:=d.out.trans (f.out.mono s1);have B2a:=I.alloc (Kdq s1 s2) (.cells #[.int .i64 0,.int .i64 0] 331);have s3:=B2a.size;have s4:=j.out.size;have s5:=B.out;refine⟨_,rfl, ?_,fun _=>Q06 (Qad J.out i.out 2 (by decide) (.bool true) (a:=(id,(l.getD pl (0,0,false)).2.1,true)) (QiO C.out)) s3,(((B2a.trans (j.out.mono s3)).alloc (by omega) _).setCell (p:=⟨F,pl * 3+2,none⟩) (show w.heap.size<=F by omega) _)⟩;intro h;cases h
theorem Q7G (o:Option Addr) (cap:Nat) (l:List Bk) (k i g:Int) (w:World) (d:RdK w.heap.size w o l) (h:o=none->cap=0) (f:l.length<=1000) (p:Q1y k i g=true):
  Calls Tryz.prog 231 #[.slice o l.length cap,QdX k i g] w fun e c=> ∃v,e=.returned (.tuple #[v,.bool (doL l k i g).isSome])/\(∀m,doL l k i g=some m->Q1F c w.heap.size v m)/\Below w.heap.size w c:=by
 unfold QdX doL
 by_cases h0:k=0
 ·subst h0
  refine(Qfk o cap l i g w d h f).mono ?_;rintro e c ⟨v,rfl,_,h2,b⟩;refine⟨v, ?_, ?_,b⟩
  ·cases Q0m l i <;> rfl
  ·intro m a
   cases ht:Q0m l i with
   |true=>rw[ht]at a;simp at a
   |false=>rw[ht]at a;simp at a;rw[<-a];exact h2 ht
 ·have j:(k==0)=false:=beq_eq_false_iff_ne.2 h0
  rw[j]
  by_cases h1:k=1
  ·subst h1
   refine(QaW o cap l i g w d h f).mono ?_;rintro e c ⟨v,rfl,_,h2,b⟩;refine⟨v, ?_, ?_,b⟩
   ·cases Q0m l i <;> rfl
   ·intro m a
    cases ht:Q0m l i with
    |false=>rw[ht]at a;simp at a
    |true=>rw[ht]at a;simp at a;rw[<-a];exact h2 ht
  ·by_cases h2:k=2
   ·subst h2
    refine(Qbz o cap l i w d h f).mono ?_;rintro e c ⟨v,rfl,_,h2,b⟩;refine⟨v, ?_, ?_,b⟩
    ·cases Q0m l i <;> rfl
    ·intro m a
     cases ht:Q0m l i with
     |false=>rw[ht]at a;simp at a
     |true=>rw[ht]at a;simp at a;rw[<-a];exact h2 ht
   ·rw[if_neg h0,if_neg h1,if_neg h2]
    refine(Qa6 o cap l i w d h f).mono ?_;rintro e c ⟨v,rfl,_,n,b⟩;refine⟨v, ?_, ?_,b⟩
    ·cases Q0m l i <;> rfl
    ·intro m a
     cases ht:Q0m l i with
     |false=>rw[ht]at a;simp at a
     |true=>rw[ht]at a;simp[h0,h1,h2]at a;rw[<-a];exact n ht
theorem QeG:(Tryz.prog.info? 26).map (fun i=>(i.zero,i.size,i.bytes))=some (some (.slice none 0 0),1,24):=by kernel_rfl
theorem QiS:AppOk Q0q 292 26:=⟨Tryz.underlying292,⟨_,_,QeG,rfl,by decide⟩,by decide,fun a u hu=>by
 simp[Q0q]at hu;subst hu;rfl⟩
theorem Qid:(259:TypeId)≠26:=by decide
structure Served (S:Nat->List Bk) (k:Nat) (w:World) (base:Nat) (hs:List Hd):Prop where
 len:hs.length=k
 row:∀i,i < k->Q1F w base (hv hs i) (S i)
theorem Served.kept {S:Nat->List Bk} {k:Nat} {w w':World} {base:Nat} {hs:List Hd} (h:Served S k w base hs) (hb:Below w.heap.size w w'):Served S k w' base hs:=
 ⟨h.len,fun i hi=>Q0a (h.row i hi) hb⟩
theorem Served.other {S:Nat->List Bk} {k:Nat} {w b:World} {base c s2 f:Nat} {hs:List Hd} {a:Value} {g:List Value} (h:Served S k w base hs) (h2:w.ownsRow c 26 s2 a f g) (d:w.grownBy b a.ownBlock):Served S k b base hs:=
 ⟨h.len,fun i hi=>(h.row i hi).kept d (Q6O (h.row i hi) h2 Qid)⟩
theorem Served.snoc {S:Nat->List Bk} {k:Nat} {w:World} {base:Nat} {hs:List Hd} {o:Option Addr} {m c:Nat} (h:Served S k w base hs) (d:Q1F w base (.slice o m c) (S k)):Served S (k+1) w base (hs++[(o,m,c)]):=by
 have b:=h.len;refine⟨by simp[b],fun i hi=>?_⟩
 rcases Nat.lt_succ_iff_lt_or_eq.1 hi with a|a
 ·rw[Q5k (by omega)];exact h.row i a
 ·subst a;rw[<-b,Qbw,b];exact d
def Q0j (cs:List Cd) (q:Nat):List Bk:=(Q1h cs q).getD []
theorem Q61 {w:World} {base:Nat} {o:Option Addr} {n c:Nat} {l:List Bk} (h:Q1F w base (.slice o n c) l):o=none->c=0:=fun e=>(InRow.cap (InRow.of h)) n c (by rw[e])
theorem Q9s {e:TypeId} {w:World} {base g n c:Nat} {hs:List Hd} (h:ownL Q0q e w base (.slice (some ⟨g,0,none⟩) n c) hs) (i:Nat) (hi:i < hs.length):w.cell? ⟨g,i,none⟩=some (hv hs i):=by
 rcases ownL.rd (L:=Q0q) h with d|⟨b,f,a,_,r⟩
 ·subst d;simp at hi
 ·injection a with a
  injection a with e2 e3;subst e2 e3;have:=r i hi 0 (by decide)
  simpa[Q0q,hv]using this
theorem Q74 {e:TypeId} {w:World} {base:Nat} {v:Value} {hs:List Hd} (h:ownL Q0q e w base v hs) (d:0 < hs.length):∃g c,v=.slice (some ⟨g,0,none⟩) hs.length c:=by
 rcases h.2 with⟨a,h2⟩|⟨g,c,b,a,_⟩
 ·omega
 ·exact⟨g,c,a⟩
theorem Qi2 (w:World) (T:TypeId):ownL Q0q T (w.alloc (.cells #[.slice none 0 0] T)) w.heap.size (.slice (some ⟨w.heap.size,0,none⟩) 1 1) [(none,0,0)]:=
 ⟨by simp[Q0q],.inr ⟨w.heap.size,1,#[.slice none 0 0],rfl,Kaq _,heap_alloc_new w _,by simp,by unfold maxLen;omega,by simp[Q0q],by simp[Q0q]⟩⟩
theorem Qc4 {cs:List Cd} {k:Nat} (hk:k < cs.length) (h:Q7v (Q1h cs k) (cs.getD k (0,0,0))=none):(Q1h cs cs.length).isSome=false:=by
 rw[<-Q2V hk]at h;rw[Q7Q h (by omega)];rfl
theorem Qin {w:World} {o:Option Addr} {n c:Nat} {T:TypeId}:RdL Q0q (w.alloc (.cells #[.slice o n c] T)).heap.size (w.alloc (.cells #[.slice o n c] T)) (some ⟨w.heap.size,0,none⟩) [(o,n,c)]:=
 .inr ⟨w.heap.size,0,rfl,by simp,fun i hi j d=>by
  have a:i=0:=by simpa using hi
  have b:j=0:=by simpa[Q0q]using d
  subst a b
  simp[Q0q]⟩
theorem Q7Z (key z:Int) (b T cap:Nat) (cs:List Cd) (w:World) (G:cs.length≠0->b < w.heap.size) (N:∀i,i < cs.length->∀j,j < Q24.k->w.cell? ⟨b,T+i * Q24.k+j,none⟩=(Q24.cs (cs.getD i Q24.d))[j]?) (hk:Q1S key=true) (hl:cs.length<=100) (h0:0<=z) (h1:z<=(cs.length:Int)) (ob:Option Addr) (V:cs.length≠0->ob=some ⟨b,T,none⟩):
  Calls Tryz.prog 202 #[jrn key (.slice ob cs.length cap) z] w fun e w'=> ∃v,e=.returned (.tuple #[v,.bool (Q1h cs cs.length).isSome])/\((Q1h cs cs.length).isSome=true->∃hs,ownL Q0q 26 w' w.heap.size v hs/\Served (Q0j cs) (cs.length+1) w' w.heap.size hs)/\Below w.heap.size w w':=by
 have ab:=Q0N key;rw[hk]at ab;have HC:=Q00 N;have ag:=Q00 V;have af:=Q00 G;have q1:decide (100 < (cs.length:Int))=false:=decide_eq_false (by omega);have q2:decide (z < 0)=false:=decide_eq_false (by omega);have q3:decide ((cs.length:Int) < z)=false:=decide_eq_false (by omega);have HN:=Q00 hl;clear N V G h0 h1;obtain⟨W0,I⟩:∃W,(w.alloc (.cells #[.int .i64 key,.slice ob cs.length cap,.int .i64 z] 25))=W:=⟨_,rfl⟩;have M:=alb0v0v1 I;have n:=Q00 M;clear M;have zz:=alz0v0v1 I;obtain⟨z0,z1,z2⟩:=alc3v0v1 I;have ar:=z0;have au:=z1;have av:=z2
 obtain⟨W1,J⟩:∃W,(W0.alloc (.cells #[.slice none 0 0] 26))=W:=⟨_,rfl⟩;have q:=alb0v0v1 J;replace z0:=bKq0v0v0 q z0 zz;replace z1:=bKq0v0v0 q z1 zz;replace z2:=bKq0v0v0 q z2 zz;replace zz:w.heap.size < W1.heap.size:=Kbq zz q.size;replace n:=Q00 (n.out.trans (q.mono n.out.size));clear q;have zq:=alz0v0v1 J
 have q0:W1.cell? ⟨W0.heap.size,0,none⟩=some (.slice none 0 0):=by rw[<-J];simp[go_sem]
 have HF:Hid (ownL Q0q 26 W1 w.heap.size (.slice (some ⟨W0.heap.size,0,none⟩) 1 1) [(none,0,0)]):=by rw[<-J];exact Q06 (Qi2 W0 _) (KIq (by have:=zz;rw[<-I];simp))
 go_enter Tryz.func202,Tryz.ntmps202;go_wp2_with (go_at_call 133;refine(ab _).mono ?_;rintro e w9 ⟨rfl,rfl⟩)
 go_loopw [4,38] (fun sv iv wr=> ∃(k:Nat) (hs:List Hd),k<=cs.length/\iv=.int .i64 (k:Int)/\Hid (ownL Q0q 26 wr w.heap.size sv hs)/\Hid (Served (Q0j cs) (k+1) wr w.heap.size hs)/\Hid ((Q1h cs k).isSome=true)/\Hid (Below w.heap.size w wr))
  (fun _ iv _=>cs.length - (intOf iv).toNat)
 case atStart=>exact⟨0,_,Kcq _,rfl,HF.out,⟨rfl,fun i hi=>by have e:i=0:=(by omega);subst e;exact KLq _ _ _ _⟩,rfl,n.out⟩
 case round=>
  clear z0 z1 z2 zz q0 zq ar au av I J HF ab n;obtain⟨k,hs,ay,rfl,B,D,H,n⟩:=hrel
  by_cases hlt:k < cs.length
  ·skip
   have aw:(k:Int) < (cs.length:Int):=by omega
   have V:=ag.out (by omega);have G:=af.out (by omega);subst V;obtain⟨l,ac⟩:=Option.isSome_iff_exists.1 H.out
   have ai:Q0j cs k=l:=by unfold Q0j;rw[ac];rfl
   obtain⟨ax,az⟩:=Q3U k l (by omega) ac;obtain⟨c0,c1,c2⟩:=RdL.cmd (C:=w.heap.size) HC.out k hlt;replace c0:=(n.out.cell (p:=⟨b,T+k * 3,none⟩) G).trans c0;replace c1:=(n.out.cell (p:=⟨b,T+k * 3+1,none⟩) G).trans c1;replace c2:=(n.out.cell (p:=⟨b,T+k * 3+2,none⟩) G).trans c2;have s:=Q00 (Q2V hlt);obtain⟨x,y,u,R⟩:∃x y u,cs.getD k (0,0,0)=(x,y,u):=⟨_,_,_,rfl⟩;rw[R]at c0 c1 c2 s;have r:=Q00 (fun h=>Qc4 hlt (R ▸ h):Q7v (Q1h cs k) (x,y,u)=none->(Q1h cs cs.length).isSome=false);rw[ac]at s r;simp only[Q7v,Option.bind_some]at c0 c1 c2 s r
   clear R H;have U:=Q00 D.out.len;obtain⟨g,c,e⟩:=Q74 B.out (by rw[U.out];omega);subst e
   have aB:(k:Int) < (hs.length:Int):=by have:=U.out;omega
   cases hc:Q1y x y u with
   |false=>
    rw[hc]at r;have A:=Q00 (r.out (by simp));clear r s;obtain⟨W2,E⟩:∃W,(wr.alloc (.cells #[.int .i64 x,.int .i64 y,.int .i64 u] 256))=W:=⟨_,rfl⟩;have a:=alb0v0v1 E;replace D:=Q00 (D.out.kept a);replace B:=Q00 (Q0a B.out a);replace n:=Q00 (n.out.trans (a.mono n.out.size));clear a;have t:=alz0v0v1 E;obtain⟨X,Y,Z⟩:=alc3v0v1 E;have HD:=Q00 (Q80 x y u W2);rw[hc]at HD;simp only[Bool.false_eq_true,if_false]at HD;clear hc;go_wp2_with fail;refine(HD.out).mono ?_;rintro e v1 ⟨rfl,f⟩;replace X:=bKq0v0v0 f X t;replace Y:=bKq0v0v0 f Y t
    replace Z:=bKq0v0v0 f Z t;replace t:wr.heap.size < v1.heap.size:=Kbq t f.size;replace D:=Q00 (D.out.kept f);replace B:=Q00 (Q0a B.out f);replace n:=Q00 (n.out.trans (f.mono n.out.size));clear f;go_wp2
    go_ret2
    refine⟨.slice none 0 0, ?_, ?_,n.out⟩
    ·rw[A.out];rfl
    ·intro h;rw[A.out]at h;cases h
   |true=>
    rw[hc]at r s;simp only[if_true]at r s;obtain⟨W2,E⟩:∃W,(wr.alloc (.cells #[.int .i64 x,.int .i64 y,.int .i64 u] 256))=W:=⟨_,rfl⟩;have a:=alb0v0v1 E;replace D:=Q00 (D.out.kept a);replace B:=Q00 (Q0a B.out a);replace n:=Q00 (n.out.trans (a.mono n.out.size));clear a;have t:=alz0v0v1 E;obtain⟨X,Y,Z⟩:=alc3v0v1 E;have HD:=Q00 (Q80 x y u W2);rw[hc]at HD;simp only[if_true]at HD;have HA:=Q00 (fun o c W h1 h2=>Q7G o c l x y u W h1 h2 (by have:=HN.out;omega) hc);generalize QdX x y u=dv at *;clear hc;go_wp2_with fail;refine(HD.out).mono ?_
    rintro e v1 ⟨rfl,f⟩;replace X:=bKq0v0v0 f X t;replace Y:=bKq0v0v0 f Y t;replace Z:=bKq0v0v0 f Z t;replace t:wr.heap.size < v1.heap.size:=Kbq t f.size;replace D:=Q00 (D.out.kept f);replace B:=Q00 (Q0a B.out f);replace n:=Q00 (n.out.trans (f.mono n.out.size));clear f;obtain⟨o',c',e',ad⟩:=ownL.open (L:=Q0L) (D.out.row k (by omega));rw[ai]at e' ad;have aq:=Q9s B.out k (by rw[U.out];omega);rw[e']at aq;have O:=D.out.row k (by omega);rw[e',ai]at O;have F:=Q00 (HA.out o' c' v1 ad (Q61 O));clear ad O HA HD e'
    cases hdo:doL l x y u with
    |none=>
     rw[hdo]at r F;have A:=Q00 (r.out rfl);simp only[Option.isSome_none]at F;clear r s hdo;go_wp2_with fail;refine(F.out).mono ?_;rintro e v2 ⟨v9,rfl,_,f⟩;replace X:=bKq0v0v0 f X t;replace Y:=bKq0v0v0 f Y t;replace Z:=bKq0v0v0 f Z t;replace t:wr.heap.size < v2.heap.size:=Kbq t f.size;replace D:=Q00 (D.out.kept f);replace B:=Q00 (Q0a B.out f);replace n:=Q00 (n.out.trans (f.mono n.out.size));clear f;go_wp2
     go_ret2
     refine⟨.slice none 0 0, ?_, ?_,n.out⟩
     ·rw[A.out];rfl
     ·intro h;rw[A.out]at h;cases h
    |some m=>
     rw[hdo]at s F;simp only[Option.isSome_some]at F;have aA:=Q8w hdo;have al:=Q00 n.out.size;clear r hdo;go_wp2_with fail;refine(F.out).mono ?_;rintro e v2 ⟨v9,rfl,P,f⟩;have HW:=Q00 (P m rfl);have aC:=f.size;clear P;replace X:=bKq0v0v0 f X t;replace Y:=bKq0v0v0 f Y t;replace Z:=bKq0v0v0 f Z t;replace t:wr.heap.size < v2.heap.size:=Kbq t f.size;replace D:=Q00 (D.out.kept f);replace B:=Q00 (Q0a B.out f);replace n:=Q00 (n.out.trans (f.mono n.out.size));clear f;obtain⟨o9,c9,e9,_⟩:=ownL.open (L:=Q0L) HW.out;rw[e9]at HW ⊢;clear e9
     replace HW:=Q00 (Q06 HW.out (show w.heap.size<=_ from al.out));have ao:=Q00 (Served.snoc D.out (show Q1F _ w.heap.size (.slice o9 m.length c9) (Q0j cs (k+1))by unfold Q0j;rw[s.out];exact HW.out));have an:=Q00 (show(Q1h cs (k+1)).isSome=true by rw[s.out];rfl);have aj:=n.out.size;generalize m.length=ml at *;go_wp2_with (at_builtin;refine Q08 QiS rfl (.tmp 61) (.tmp 63) rfl w.heap.size _ hs rfl (B.out.alloc _) (some ⟨v2.heap.size,0,none⟩) 1 (v2.alloc (.cells #[.slice o9 ml c9] 26)).heap.size [(o9,ml,c9)] 1 rfl rfl ?c0 Qin ?c1 ?c2 ?_)
     case c0=>intro h;cases h
     case c1=>have:=U.out;have:=HN.out;simp;omega
     case c2=>simp;omega
     intro v5 w5 ah aa _;have ae:=Q00 (World.ownsRow.alloc B.out (.cells #[.slice o9 ml c9] 26));have ap:=Q00 (Served.other (ao.out.kept (KBq.alloc (Kaq _) (.cells #[.slice o9 ml c9] 26))) ae.out aa);have ak:=Q00 ((n.out.alloc aj _).grown aa (by simp;omega) (fun k h=>(ae.out.lt k h).1));have am:=Q00 ah;clear aa ah;go_wp2;go_roundw
     case rel=>exact⟨k+1,_,by omega,by go_num,am.out,ap.out,an.out,ak.out⟩
     case measure=>simp[intOf];omega
  ·have e:k=cs.length:=by omega
   subst e;clear HC ag af;go_wp2
   go_ret2
   refine⟨u4, ?_,fun _=>⟨hs,B.out,D.out⟩,n.out⟩;rw[H.out];rfl
theorem Qfm (key a:Int) (o:Option Addr) (cap:Nat) (cs:List Cd) (w:World) (n:RdC w.heap.size w o cs) (z:cs.length<=1048576):
  Calls Tryz.prog 202 #[jrn key (.slice o cs.length cap) a] w fun e s=> ∃v,e=.returned (.tuple #[v,.bool (Q0n key cs a)])/\(Q0n key cs a=true->∃hs,ownL Q0q 26 s w.heap.size v hs/\Served (Q0j cs) (cs.length+1) s w.heap.size hs)/\Below w.heap.size w s:=by
 by_cases hall:Q1S key=true/\cs.length<=100/\0<=a/\a<=(cs.length:Int)
 ·obtain⟨p,h2,k,l⟩:=hall
  have e:Q0n key cs a=(Q1h cs cs.length).isSome:=by unfold Q0n;simp[p,h2,k,l]
  rw[e]
  rcases n with n|⟨b,r,rfl,q,j⟩
  ·subst n
   exact Q7Z key a 0 0 cap [] w (fun h=>absurd rfl h) (fun i hi=>absurd hi (KMq _)) p h2 k l o (fun h=>absurd rfl h)
  ·exact Q7Z key a b r cap cs w (fun _=>q) j p h2 k l _ (fun _=>rfl)
 have f:=Q00 (show Q0n key cs a=false by
  rw[Bool.eq_false_iff];intro h;unfold Q0n at h;simp only[Bool.and_eq_true,decide_eq_true_eq]at h;exact hall ⟨h.1.1.1.1,h.1.1.1.2,h.1.1.2,h.1.2⟩)
 have c:=Q0N key;obtain⟨y,g⟩:∃W,(w.alloc (.cells #[.int .i64 key,.slice o cs.length cap,.int .i64 a] 25))=W:=⟨_,rfl⟩;have d:=alb0v0v1 g;have m:=Q00 d;clear d;have E:=alz0v0v1 g;obtain⟨B,C,D⟩:=alc3v0v1 g;clear n
 cases hk:Q1S key with
 |false=>
  rw[hk]at c;clear hall;go_enter Tryz.func202,Tryz.ntmps202;go_wp2_with (go_at_call 133;refine(c _).mono ?_;rintro e t ⟨rfl,rfl⟩)
  go_ret2
  refine⟨.slice none 0 0, ?_, ?_,m.out⟩
  ·rw[f.out];rfl
  ·intro h;rw[f.out]at h;cases h
 |true=>
  by_cases h2:cs.length<=100
  ·by_cases k:0<=a
   ·by_cases l:a<=(cs.length:Int)
    ·exact absurd ⟨hk,h2,k,l⟩ hall
    ·skip
     rw[hk]at c;have u:decide (100 < (cs.length:Int))=false:=decide_eq_false (by omega);have x:decide (a < 0)=false:=decide_eq_false (by omega);have A:decide ((cs.length:Int) < a)=true:=decide_eq_true (by omega);clear hall;go_enter Tryz.func202,Tryz.ntmps202;go_wp2_with (go_at_call 133;refine(c _).mono ?_;rintro e t ⟨rfl,rfl⟩)
     go_ret2
     refine⟨.slice none 0 0, ?_, ?_,m.out⟩
     ·rw[f.out];rfl
     ·intro h;rw[f.out]at h;cases h
   ·skip
    rw[hk]at c;have u:decide (100 < (cs.length:Int))=false:=decide_eq_false (by omega);have x:decide (a < 0)=true:=decide_eq_true (by omega);clear hall;go_enter Tryz.func202,Tryz.ntmps202;go_wp2_with (go_at_call 133;refine(c _).mono ?_;rintro e t ⟨rfl,rfl⟩)
    go_ret2
    refine⟨.slice none 0 0, ?_, ?_,m.out⟩
    ·rw[f.out];rfl
    ·intro h;rw[f.out]at h;cases h
  ·skip
   rw[hk]at c;have u:decide (100 < (cs.length:Int))=true:=decide_eq_true (by omega);clear hall;go_enter Tryz.func202,Tryz.ntmps202;go_wp2_with (go_at_call 133;refine(c _).mono ?_;rintro e t ⟨rfl,rfl⟩)
   go_ret2
   refine⟨.slice none 0 0, ?_, ?_,m.out⟩
   ·rw[f.out];rfl
   ·intro h;rw[f.out]at h;cases h
end Go.Proofs.YteffhdcankkfkaaGreat
