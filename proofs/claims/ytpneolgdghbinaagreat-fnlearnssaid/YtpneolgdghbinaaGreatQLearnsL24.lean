/- The library's Insert of one at rows of backs. -/
import Derived.Lib.Overlaps
import Derived.Laws.CopyRow
import Derived.Laws.Externs
import Derived.Shelf.Spec.SlicesInsert
import Derived.Test.YtpneolgdghbinaaGreatQLearnsL23
namespace Go.Proofs.YtpneolgdghbinaaGreat
open Go.ChangeShapes Go.WideShapes Go.ChangeAt Go.RowKit Go.Joins
set_option linter.unusedVariables false
set_option linter.unusedSimpArgs false
set_option maxRecDepth 100000
set_option maxHeartbeats 40000000
theorem QcS (base cap d:Nat) (o:Option Addr) (l:List Bk) (b:Bk) (w:World) (hv:Q1w w base (.slice o l.length cap) l) (g:RdK w.heap.size w (some ⟨d,0,none⟩) [b]) (p:base≤w.heap.size) (z:l.length≤1000):
  Calls Tryz.prog 160 #[.slice o l.length cap,.int .i64 l.length,.slice (some ⟨d,0,none⟩) 1 1] w fun e j=> ∃v,e=.returned v∧Q1w j base v (l++[b])∧w.grownBy j (Value.ownBlock (.slice o l.length cap)):=by
 have i:l.length≤cap:=by
  rcases hv.2 with ⟨f,_⟩|⟨u,x,q,f,_,_,A,_⟩
  ·injection f with _ h2 h3;omega
  ·injection f with _ _ h3;omega
 have m:=Q01 hv;have r:=Q01 g;clear hv g;generalize hn:l.length=n at *;have s:=Q01 hn;clear hn
 have t:((n:Int)==(n:Int))=true:=by simp
 go_enter Tryz.func160,Tryz.ntmps160;go_wp2_with (at_builtin;refine Q08 Q47 rfl _ _ rfl base _ l rfl m.out (some ⟨d,0,none⟩) 1 w.heap.size [b] 1 rfl rfl (fun h=> by cases h) r.out ?c1 p ?_)
 all_goals (try (case c1=> (have:=s.out;simp;omega)))
 all_goals (
  intro v8 y a c _;have k:=Q01 (And.intro a c);clear a c
  go_wp2)
 all_goals go_ret
 all_goals exact ⟨_,rfl,k.out.1,by have h:=k.out.2;cases o <;> exact h⟩
theorem Q2C {P:Program} (size:Nat) (w:World) (p x s d:TypeId) (g o b h:Nat) (a:Addr) (f m:Nat) (c:Array Value) (t:TypeId) (cs:List Value)
  (r:P.underlying p=some (.slice d)) (hs:(P.info? d).map (·.size)=some size)
  (z:w.heap[g]? =some (.cells c t (0,0))) (u:cs.length=Nat.min f b * size)
  (k:∀j v,cs[j]? =some v→w.cell? (a.add j)=some v) (l:o+cs.length≤c.size) (y:∀v∈cs,v.oneCell'=true):
  (Builtin.copy_ #[p,x] s #[.slice (some ⟨g,o,none⟩) b h,.slice (some a) f m]).run P w=
   .ok (goInt (Nat.min f b)) (w.setRow g (c.toList.take o++cs++c.toList.drop (o+cs.length)).toArray):=by
 have q:=run_loadCells_list (P:=P) w a cs k;have n:=run_storeCells_at (P:=P) g o t cs 0 c w z (by simpa using l) y
 cases hq:P.info? d with
 |none=> simp [hq] at hs
 |some i=>
  have hi:i.size=size:=by simpa [hq] using hs
  rw [u] at q;simp [Builtin.copy_,run_underlying r,Builtin.lenOf,Builtin.firstCells,sizeOf,typeInfo,hq,hi,q,n]
theorem Qc4 {X cs a:List Value} {i n k:Nat} (h:a.take (n * k)=X) (hi:i≤n) (q:cs.length=k) (g:(n+1) * k≤a.length):
  let b:=a.take ((i+1) * k)++X.drop (i * k)++a.drop ((i+1) * k+(X.drop (i * k)).length)
  (b.take (i * k)++cs++b.drop (i * k+cs.length)).take ((n+1) * k)=X.take (i * k)++cs++X.drop (i * k)∧(b.take (i * k)++cs++b.drop (i * k+cs.length)).length=a.length:=by
 intro b;have f:(i+1) * k=i * k+k:=Nat.succ_mul i k;have l:(n+1) * k=n * k+k:=Nat.succ_mul n k;have c:i * k≤n * k:=Nat.mul_le_mul_right k hi
 have d:X.length=n * k:=by rw [←h,List.length_take];omega
 have m:(a.take ((i+1) * k)).length=(i+1) * k:=by rw [List.length_take];omega
 have s:(X.drop (i * k)).length=n * k - i * k:=by rw [List.length_drop,d]
 have r:(X.take (i * k)).length=i * k:=by rw [List.length_take];omega
 have p:b.take (i * k)=X.take (i * k):=by
  show (a.take ((i+1) * k)++X.drop (i * k)++a.drop ((i+1) * k+(X.drop (i * k)).length)).take (i * k)=_
  rw [List.append_assoc,List.take_append_of_le_length (by omega),List.take_take,Nat.min_eq_left (by omega)]
  conv=> rhs;rw [←h]
  rw [List.take_take,Nat.min_eq_left c]
 have j:b.drop (i * k+cs.length)=X.drop (i * k)++a.drop ((i+1) * k+(X.drop (i * k)).length):=by
  show (a.take ((i+1) * k)++X.drop (i * k)++a.drop ((i+1) * k+(X.drop (i * k)).length)).drop (i * k+cs.length)=_
  rw [q,←f,List.append_assoc];exact List.drop_left' m
 rw [p,j]
 constructor
 ·rw [←List.append_assoc]
  exact List.take_left' (by rw [List.length_append,List.length_append];omega)
 ·simp only [List.length_append,List.length_drop] at *
  omega
theorem Qag (base g cap r i:Nat) (l:List Bk) (b:Bk) (w:World) (hv:Q1w w base (.slice (some ⟨g,0,none⟩) l.length cap) l) (hx:w.heap[r]? =some (.cells (Q1d.cs b).toArray 119 (0,0))) (O:r≠g) (hi:i < l.length) (G:l.length+1≤cap) (hl:l.length≤1000):
  Calls Tryz.prog 160 #[.slice (some ⟨g,0,none⟩) l.length cap,.int .i64 i,.slice (some ⟨r,0,none⟩) 1 1] w fun e w'=> ∃v,e=.returned v∧Q1w w' base v (l.take i++b::l.drop i)∧w.grownBy w' (some g):=by
 rcases hv.2 with ⟨x,_⟩|⟨g',c',c,x,hb,H,h4,h5,J,h7⟩
 ·cases x
 injection x with x _ h3;injection x with x;injection x with x _ _;subst x h3
 have Z:w.shape? r=some (119,3):=by simp [World.shape?,hx,Q1d]
 have N:w.shape? g=some (119,cap * 3):=by simp [World.shape?,H];exact J
 have E:∀q,w.frozen? ⟨r,q,none⟩=false:=fun q=> by simp [World.frozen?,hx]
 have ac:∀lb cb,(callFunc 181 #[.slice (some ⟨r,0,none⟩) 1 1,.slice (some ⟨g,(i+1) * 3,none⟩) lb cb]).run Tryz.prog w=.ok (.value (.bool false)) w:=fun lb cb=> by
  rw [run_callFunc_extern Tryz.func181 (by kernel_rfl) (by kernel_rfl) (by kernel_rfl) (e:=Extern.SlicesOverlaps.overlaps #[26,26] #[4]) (by kernel_rfl),
   Lib.run_overlaps_apart w 26 4 119 Tryz.underlying26 3 (fun w=> by kernel_rfl) ⟨r,0,none⟩ ⟨g,(i+1) * 3,none⟩ 1 1 lb cb O _ _ _ _ Z N (by omega) (E _) (E _)]
  rfl
 clear Z N E;obtain ⟨X,L⟩:∃X,X=l.flatMap Q1d.cs:=⟨_,rfl⟩
 have C:c.toList.take (l.length * 3)=X:=by rw [L];exact h7
 have Y:X.length=l.length * 3:=by rw [L,Q0n];rfl
 have R:∀v∈X,v.oneCell'=true:=by rw [L];exact Q5n Q47.one l
 have M:∀v∈Q1d.cs b,v.oneCell'=true:=fun v hv=> Q47.one b v hv
 have hD:(X.drop (i * 3)).length=(l.length - i) * 3:=by rw [List.length_drop,Y];omega
 have T:c.toList.length=cap * 3:=by rw [Array.length_toList];exact J
 have HS:=Q01 (Qc4 (cs:=Q1d.cs b) (i:=i) (n:=l.length) (k:=3) C (Nat.le_of_lt hi) rfl (by omega));dsimp only at HS;obtain ⟨d,u⟩:∃d,d=c.toList.take ((i+1) * 3)++X.drop (i * 3)++c.toList.drop ((i+1) * 3+(X.drop (i * 3)).length):=⟨_,rfl⟩
 have s:d.length=cap * 3:=by
  rw [u];simp only [List.length_append,List.length_take,List.length_drop] at *;omega
 rw [←u] at HS;obtain ⟨f,m⟩:∃f,f=w.drew.setRow g d.toArray:=⟨_,rfl⟩
 have z:∀B a F D sc,a=l.length - i→D=l.length+1 - i→(Builtin.copy_ #[26,26] B #[.slice (some ⟨g,(i+1) * 3,none⟩) a F,.slice (some ⟨g,i * 3,none⟩) D sc]).run Tryz.prog w.drew=.ok (goInt (Nat.min D a)) f:=fun B a F D sc e1 e2=> by
  have h:=Q2C (P:=Tryz.prog) 3 w.drew 26 26 B 119 g ((i+1) * 3) a F ⟨g,i * 3,none⟩ D sc c 119 (X.drop (i * 3)) Tryz.underlying26 (by kernel_rfl) H (by rw [hD,show Nat.min D a=l.length - i by show min D a=_;omega])
   (fun j v I=> by
    rw [List.getElem?_drop,←C,List.getElem?_take] at I
    split at I
    ·rw [Addr.add_lit];show w.cell? ⟨g,i * 3+j,none⟩=some v;simpa [World.cell?,H] using I
    ·cases I) (by rw [hD];rw [Array.length_toList] at T;omega) (fun v hv=> R v (List.mem_of_mem_drop hv))
  rw [h,m,u]
 have A:f.heap[g]? =some (.cells d.toArray 119 (0,0)):=by rw [m];exact setRow_heap w.drew g c _ 119 _ H
 have V:f.heap[r]? =some (.cells (Q1d.cs b).toArray 119 (0,0)):=by rw [m,setRow_other w.drew g r _ O];exact hx
 have y:∀(W:World),W.heap=f.heap→∀B a F,1≤a→(Builtin.copy_ #[26,26] B #[.slice (some ⟨g,i * 3,none⟩) a F,.slice (some ⟨r,0,none⟩) 1 1]).run Tryz.prog W=.ok (goInt (Nat.min 1 a)) (W.setRow g (d.take (i * 3)++Q1d.cs b++d.drop (i * 3+(Q1d.cs b).length)).toArray):=fun W hW B a F e1=> by
  have h:=Q2C (P:=Tryz.prog) 3 W 26 26 B 119 g (i * 3) a F ⟨r,0,none⟩ 1 1 d.toArray 119 (Q1d.cs b) Tryz.underlying26 (by kernel_rfl) (by rw [hW];exact A) (by rw [show Nat.min 1 a=1 by show min 1 a=_;omega];rfl)
   (fun j v I=> by
    rw [Addr.add_lit]
    simpa [World.cell?,hW,V] using I) (by simp only [List.size_toArray,s];show i * 3+3≤cap * 3;omega) M
  exact h
 have ae:=Q01 m;have HH:=Q01 (And.intro H hb);have HX:=Q01 L;have aa:Hid (f.heap[g]? =some (.cells d.toArray 119 (0,0))):=Q01 A;have H6:=Q01 J;have H5:=Q01 h5;have ab:=Q01 s;clear hv hx H V A L m u h7 C Y R M hD T J s;generalize hn:l.length=n at *;have HN:=Q01 hn;clear hn
 have z0:((i:Int)==(n:Int))=false:=by simp;omega
 have z1:¬((cap:Int) < (n:Int)+1):=by omega
 have z2:(n:Int)+1≤(cap:Int):=by omega
 have n0:n+1≤cap:=G
 have n1:i≤n:=by omega
 have n2:i+1≤n+1:=by omega
 have n3:¬(cap=i):=by omega
 have n4:¬(cap=i+1):=by omega
 have z3:(i:Int)+1≤(n:Int)+1:=by omega
 have z4:(i:Int)≤(n:Int):=by omega
 have ag:cap≤9223372036854775807:=by unfold maxLen at h5;omega
 have ai:IntKind.i64.wrap ((i:Int)+1)=(i:Int)+1:=by rw [IntKind.wrap_i64];omega
 have af:(0:Int)≤(i:Int)+1:=by omega
 have z5:(i:Int)≤(n:Int)+1:=by omega
 have ah:((i:Int)+1).toNat=i+1:=by omega
 have CP1:=Q01 z;have CP2:=Q01 y;clear z y h5;go_enter Tryz.func160,Tryz.ntmps160;go_wp2_with (simp only [ac])
 go_region_law (refine step_copy_runI rfl _ _ 26 26 rfl (.slice (some ⟨g,(i+1) * 3,none⟩) (n - i) (cap - (i+1))) (.slice (some ⟨g,i * 3,none⟩) (n+1 - i) (cap - i)) (by simp [Act.eval,Act.put]) (by simp [Act.eval,Act.put]) (CP1.out _ _ _ _ _ rfl rfl) ?_)
 have e3:1≤n+1 - i:=by omega
 obtain ⟨W2,t⟩:∃W2,W2=f.setRow g (d.take (i * 3)++Q1d.cs b++d.drop (i * 3+(Q1d.cs b).length)).toArray:=⟨_,rfl⟩;have U:=CP2.out f rfl 3 (n+1 - i) (cap - i) e3;rw [←t] at U;have ad:=Q01 t;clear e3 t;go_wp2;go_ret;have t:=ad.out;subst t;refine ⟨_,rfl, ?_, ?_⟩
 ·have hs:=HS.out
  have p:(l.take i++b::l.drop i).length=n+1:=by have:=HN.out;simp;omega
  have hC:=ab.out;refine ⟨by rw [Q0n],.inr ⟨g,cap,_,by rw [p];rfl,HH.out.2,setRow_heap f g d.toArray _ 119 _ aa.out,by rw [p];omega,H5.out, ?_, ?_⟩⟩
  ·have h2:=hs.2
   have J:=H6.out;rw [Array.length_toList] at h2;rw [List.size_toArray];exact h2.trans J
  ·rw [p]
   show List.take ((n+1) * 3) _=_
   rw [hs.1,HX.out,List.flatMap_append,List.flatMap_cons,List.append_assoc]
   have e2:l.flatMap Q1d.cs=(l.take i).flatMap Q1d.cs++(l.drop i).flatMap Q1d.cs:=by rw [←List.flatMap_append,List.take_append_drop]
   have e4:((l.take i).flatMap Q1d.cs).length=i * 3:=by rw [Q0n,List.length_take,HN.out,Nat.min_eq_left n1];rfl
   rw [e2,List.take_left' e4,List.drop_left' e4]
 ·have h:=ae.out
  have g1:w.grownBy f (some g):=by rw [h];exact ⟨rfl,rfl,rfl,by simp,fun k _ hk=> setRow_other w.drew g k _ (fun e=> hk (by simp [e]))⟩
  exact g1.trans ⟨rfl,rfl,rfl,by simp,fun k _ hk=> setRow_other f g k _ (fun e=> hk (by simp [e]))⟩
end Go.Proofs.YtpneolgdghbinaaGreat
