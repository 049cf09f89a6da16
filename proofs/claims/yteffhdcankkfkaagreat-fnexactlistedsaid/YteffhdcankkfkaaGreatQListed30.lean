/- The library's Insert of one at rows of backs. -/
import Derived.Lib.Overlaps
import Derived.Laws.CopyRow
import Derived.Laws.Externs
import Derived.Shelf.Spec.SlicesInsert
import Derived.Test.YteffhdcankkfkaaGreatQListed29
namespace Go.Proofs.YteffhdcankkfkaaGreat
open Go.ChangeShapes Go.WideShapes Go.ChangeAt Go.RowKit Go.Joins
set_option linter.unusedVariables false
set_option linter.unusedSimpArgs false
set_option maxRecDepth 100000
set_option maxHeartbeats 40000000
theorem QcQ (base cap d:Nat) (o:Option Addr) (l:List Bk) (b:Bk) (w:World) (hv:Q1F w base (.slice o l.length cap) l) (j:RdK w.heap.size w (some ⟨d,0,none⟩) [b]) (s:base<=w.heap.size) (y:l.length<=1000):
  Calls Tryz.prog 247 #[.slice o l.length cap,.int .i64 l.length,.slice (some ⟨d,0,none⟩) 1 1] w fun e k=> ∃v,e=.returned v/\Q1F k base v (l++[b])/\w.grownBy k (Value.ownBlock (.slice o l.length cap)):=by
 have i:l.length<=cap:=by
  rcases hv.2 with⟨f,_⟩|⟨u,t,r,f,_,_,x,_⟩
  ·injection f with _ h2 h3;omega
  ·injection f with _ _ h3;omega
 have p:=Q00 hv;have q:=Q00 j;clear hv j;generalize hn:l.length=n at *;have m:=Q00 hn;clear hn
 have B:((n:Int)==(n:Int))=true:=by simp
 go_enter Tryz.func247,Tryz.ntmps247;go_wp2_with (at_builtin;refine Q08 Q3Y rfl _ _ rfl base _ l rfl p.out (some ⟨d,0,none⟩) 1 w.heap.size [b] 1 rfl rfl (fun h=>by cases h) q.out ?c1 s ?_)
 all_goals (try (case c1=>(have:=m.out;simp;omega)))
 all_goals (
  intro z A c a _;have g:=Q00 (And.intro c a);clear c a
  go_wp2)
 all_goals go_ret
 all_goals exact⟨_,rfl,g.out.1,by have h:=g.out.2;cases o <;> exact h⟩
theorem Q29 {P:Program} (size:Nat) (w:World) (p y z d:TypeId) (g o c h:Nat) (a:Addr) (f m:Nat) (b:Array Value) (t:TypeId) (cs:List Value)
  (x:P.underlying p=some (.slice d)) (hs:(P.info? d).map (·.size)=some size)
  (s:w.heap[g]? =some (.cells b t (0,0))) (u:cs.length=Nat.min f c * size)
  (l:∀j v,cs[j]? =some v->w.cell? (a.add j)=some v) (k:o+cs.length<=b.size) (r:∀v∈cs,v.oneCell'=true):
  (Builtin.copy_ #[p,y] z #[.slice (some ⟨g,o,none⟩) c h,.slice (some a) f m]).run P w=
   .ok (goInt (Nat.min f c)) (w.setRow g (b.toList.take o++cs++b.toList.drop (o+cs.length)).toArray):=by
 have q:=run_loadCells_list (P:=P) w a cs l;have n:=run_storeCells_at (P:=P) g o t cs 0 b w s (by simpa using k) r
 cases hq:P.info? d with
 |none=>simp[hq]at hs
 |some i=>
  have hi:i.size=size:=by simpa[hq]using hs
  rw[u]at q;simp[Builtin.copy_,run_underlying x,Builtin.lenOf,Builtin.firstCells,sizeOf,typeInfo,hq,hi,q,n]
theorem Qbt {X cs a:List Value} {i n k:Nat} (g:a.take (n * k)=X) (hi:i<=n) (l:cs.length=k) (h:(n+1) * k<=a.length):
  let b:=a.take ((i+1) * k)++X.drop (i * k)++a.drop ((i+1) * k+(X.drop (i * k)).length)
  (b.take (i * k)++cs++b.drop (i * k+cs.length)).take ((n+1) * k)=X.take (i * k)++cs++X.drop (i * k)/\(b.take (i * k)++cs++b.drop (i * k+cs.length)).length=a.length:=by
 intro b;have f:(i+1) * k=i * k+k:=Nat.succ_mul i k;have m:(n+1) * k=n * k+k:=Nat.succ_mul n k;have d:i * k<=n * k:=Nat.mul_le_mul_right k hi
 have c:X.length=n * k:=by rw[<-g,List.length_take];omega
 have j:(a.take ((i+1) * k)).length=(i+1) * k:=by rw[List.length_take];omega
 have r:(X.drop (i * k)).length=n * k - i * k:=by rw[List.length_drop,c]
 have s:(X.take (i * k)).length=i * k:=by rw[List.length_take];omega
 have p:b.take (i * k)=X.take (i * k):=by
  show(a.take ((i+1) * k)++X.drop (i * k)++a.drop ((i+1) * k+(X.drop (i * k)).length)).take (i * k)=_
  rw[List.append_assoc,List.take_append_of_le_length (by omega),List.take_take,Nat.min_eq_left (by omega)]
  conv=>rhs;rw[<-g]
  rw[List.take_take,Nat.min_eq_left d]
 have q:b.drop (i * k+cs.length)=X.drop (i * k)++a.drop ((i+1) * k+(X.drop (i * k)).length):=by
  show(a.take ((i+1) * k)++X.drop (i * k)++a.drop ((i+1) * k+(X.drop (i * k)).length)).drop (i * k+cs.length)=_
  rw[l,<-f,List.append_assoc];exact List.drop_left' j
 rw[p,q]
 constructor
 ·rw[<-List.append_assoc]
  exact List.take_left' (by rw[List.length_append,List.length_append];omega)
 ·simp only[List.length_append,List.length_drop]at *
  omega
theorem Qaw (base g cap m i:Nat) (l:List Bk) (b:Bk) (w:World) (hv:Q1F w base (.slice (some ⟨g,0,none⟩) l.length cap) l) (hx:w.heap[m]? =some (.cells (Q0L.cs b).toArray 259 (0,0))) (U:m≠g) (hi:i < l.length) (E:l.length+1<=cap) (hl:l.length<=1000):
  Calls Tryz.prog 247 #[.slice (some ⟨g,0,none⟩) l.length cap,.int .i64 i,.slice (some ⟨m,0,none⟩) 1 1] w fun e w'=> ∃v,e=.returned v/\Q1F w' base v (l.take i++b::l.drop i)/\w.grownBy w' (some g):=by
 rcases hv.2 with⟨u,_⟩|⟨g',c',c,u,hb,I,h4,h5,H,h7⟩
 ·cases u
 injection u with u _ h3;injection u with u;injection u with u _ _;subst u h3
 have V:w.shape? m=some (259,3):=by simp[World.shape?,hx,Q0L]
 have Y:w.shape? g=some (259,cap * 3):=by simp[World.shape?,I];exact H
 have D:∀q,w.frozen? ⟨m,q,none⟩=false:=fun q=>by simp[World.frozen?,hx]
 have ae:∀lb cb,(callFunc 259 #[.slice (some ⟨m,0,none⟩) 1 1,.slice (some ⟨g,(i+1) * 3,none⟩) lb cb]).run Tryz.prog w=.ok (.value (.bool false)) w:=fun lb cb=>by
  rw[run_callFunc_extern Tryz.func259 (by kernel_rfl) (by kernel_rfl) (by kernel_rfl) (e:=Extern.SlicesOverlaps.overlaps #[26,26] #[4]) (by kernel_rfl),
   Lib.run_overlaps_apart w 26 4 259 Tryz.underlying26 3 (fun w=>by kernel_rfl) ⟨m,0,none⟩ ⟨g,(i+1) * 3,none⟩ 1 1 lb cb U _ _ _ _ V Y (by omega) (D _) (D _)]
  rfl
 clear V Y D;obtain⟨X,L⟩:∃X,X=l.flatMap Q0L.cs:=⟨_,rfl⟩
 have B:c.toList.take (l.length * 3)=X:=by rw[L];exact h7
 have N:X.length=l.length * 3:=by rw[L,Q0f];rfl
 have M:∀v∈X,v.oneCell'=true:=by rw[L];exact Q4H Q3Y.one l
 have O:∀v∈Q0L.cs b,v.oneCell'=true:=fun v hv=>Q3Y.one b v hv
 have hD:(X.drop (i * 3)).length=(l.length - i) * 3:=by rw[List.length_drop,N];omega
 have T:c.toList.length=cap * 3:=by rw[Array.length_toList];exact H
 have HS:=Q00 (Qbt (cs:=Q0L.cs b) (i:=i) (n:=l.length) (k:=3) B (KIq hi) rfl (by omega));dsimp only at HS;obtain⟨d,x⟩:∃d,d=c.toList.take ((i+1) * 3)++X.drop (i * 3)++c.toList.drop ((i+1) * 3+(X.drop (i * 3)).length):=⟨_,rfl⟩
 have p:d.length=cap * 3:=by
  rw[x];simp only[List.length_append,List.length_take,List.length_drop]at *;omega
 rw[<-x]at HS;obtain⟨f,r⟩:∃f,f=w.drew.setRow g d.toArray:=⟨_,rfl⟩
 have y:∀G a A F sc,a=l.length - i->F=l.length+1 - i->(Builtin.copy_ #[26,26] G #[.slice (some ⟨g,(i+1) * 3,none⟩) a A,.slice (some ⟨g,i * 3,none⟩) F sc]).run Tryz.prog w.drew=.ok (goInt (Nat.min F a)) f:=fun G a A F sc e1 e2=>by
  have h:=Q29 (P:=Tryz.prog) 3 w.drew 26 26 G 259 g ((i+1) * 3) a A ⟨g,i * 3,none⟩ F sc c 259 (X.drop (i * 3)) Tryz.underlying26 (by kernel_rfl) I (by rw[hD,show Nat.min F a=l.length - i by show min F a=_;omega])
   (fun j v J=>by
    rw[List.getElem?_drop,<-B,List.getElem?_take]at J
    split at J
    ·rw[Addr.add_lit];show w.cell? ⟨g,i * 3+j,none⟩=some v;simpa[World.cell?,I]using J
    ·cases J) (by rw[hD];rw[Array.length_toList]at T;omega) (fun v hv=>M v (List.mem_of_mem_drop hv))
  rw[h,r,x]
 have C:f.heap[g]? =some (.cells d.toArray 259 (0,0)):=by rw[r];exact setRow_heap w.drew g c _ 259 _ I
 have aa:f.heap[m]? =some (.cells (Q0L.cs b).toArray 259 (0,0)):=by rw[r,setRow_other w.drew g m _ U];exact hx
 have z:∀(W:World),W.heap=f.heap->∀G a A,1<=a->(Builtin.copy_ #[26,26] G #[.slice (some ⟨g,i * 3,none⟩) a A,.slice (some ⟨m,0,none⟩) 1 1]).run Tryz.prog W=.ok (goInt (Nat.min 1 a)) (W.setRow g (d.take (i * 3)++Q0L.cs b++d.drop (i * 3+(Q0L.cs b).length)).toArray):=fun W hW G a A e1=>by
  have h:=Q29 (P:=Tryz.prog) 3 W 26 26 G 259 g (i * 3) a A ⟨m,0,none⟩ 1 1 d.toArray 259 (Q0L.cs b) Tryz.underlying26 (by kernel_rfl) (by rw[hW];exact C) (by rw[show Nat.min 1 a=1 by show min 1 a=_;omega];rfl)
   (fun j v J=>by
    rw[Addr.add_lit]
    simpa[World.cell?,hW,aa]using J) (by simp only[List.size_toArray,p];show i * 3+3<=cap * 3;omega) O
  exact h
 have ac:=Q00 r;have HH:=Q00 (And.intro I hb);have HX:=Q00 L;have Z:Hid (f.heap[g]? =some (.cells d.toArray 259 (0,0))):=Q00 C;have H6:=Q00 H;have H5:=Q00 h5;have ab:=Q00 p;clear hv hx I aa C L r x h7 B N M O hD T H p;generalize hn:l.length=n at *;have HN:=Q00 hn;clear hn
 have z0:((i:Int)==(n:Int))=false:=by simp;omega
 have z1:¬((cap:Int) < (n:Int)+1):=by omega
 have z2:(n:Int)+1<=(cap:Int):=by omega
 have n0:n+1<=cap:=E
 have n1:i<=n:=by omega
 have n2:i+1<=n+1:=by omega
 have n3:¬(cap=i):=by omega
 have n4:¬(cap=i+1):=by omega
 have z3:(i:Int)+1<=(n:Int)+1:=by omega
 have z4:(i:Int)<=(n:Int):=by omega
 have af:cap<=9223372036854775807:=by unfold maxLen at h5;omega
 have ag:IntKind.i64.wrap ((i:Int)+1)=(i:Int)+1:=by rw[IntKind.wrap_i64];omega
 have ah:(0:Int)<=(i:Int)+1:=by omega
 have z5:(i:Int)<=(n:Int)+1:=by omega
 have ai:((i:Int)+1).toNat=i+1:=by omega
 have CP1:=Q00 y;have CP2:=Q00 z;clear y z h5;go_enter Tryz.func247,Tryz.ntmps247;go_wp2_with (simp only[ae])
 go_region_law (refine step_copy_runI rfl _ _ 26 26 rfl (.slice (some ⟨g,(i+1) * 3,none⟩) (n - i) (cap - (i+1))) (.slice (some ⟨g,i * 3,none⟩) (n+1 - i) (cap - i)) (by simp[Act.eval,Act.put]) (by simp[Act.eval,Act.put]) (CP1.out _ _ _ _ _ rfl rfl) ?_)
 have e3:1<=n+1 - i:=by omega
 obtain⟨W2,s⟩:∃W2,W2=f.setRow g (d.take (i * 3)++Q0L.cs b++d.drop (i * 3+(Q0L.cs b).length)).toArray:=⟨_,rfl⟩;have R:=CP2.out f rfl 3 (n+1 - i) (cap - i) e3;rw[<-s]at R;have ad:=Q00 s;clear e3 s;go_wp2;go_ret;have s:=ad.out;subst s;refine⟨_,rfl, ?_, ?_⟩
 ·have hs:=HS.out
  have t:(l.take i++b::l.drop i).length=n+1:=by have:=HN.out;simp;omega
  have hC:=ab.out;refine⟨by rw[Q0f],.inr ⟨g,cap,_,by rw[t];rfl,HH.out.2,setRow_heap f g d.toArray _ 259 _ Z.out,by rw[t];omega,H5.out, ?_, ?_⟩⟩
  ·have h2:=hs.2
   have H:=H6.out;rw[Array.length_toList]at h2;rw[List.size_toArray];exact h2.trans H
  ·rw[t]
   show List.take ((n+1) * 3) _=_
   rw[hs.1,HX.out,List.flatMap_append,List.flatMap_cons,List.append_assoc]
   have e2:l.flatMap Q0L.cs=(l.take i).flatMap Q0L.cs++(l.drop i).flatMap Q0L.cs:=by rw[<-List.flatMap_append,List.take_append_drop]
   have e4:((l.take i).flatMap Q0L.cs).length=i * 3:=by rw[Q0f,List.length_take,HN.out,Nat.min_eq_left n1];rfl
   rw[e2,List.take_left' e4,List.drop_left' e4]
 ·have h:=ac.out
  have g1:w.grownBy f (some g):=by rw[h];exact⟨rfl,rfl,rfl,by simp,fun k _ hk=>setRow_other w.drew g k _ (fun e=>hk (by simp[e]))⟩
  exact g1.trans ⟨rfl,rfl,rfl,by simp,fun k _ hk=>setRow_other f g k _ (fun e=>hk (by simp[e]))⟩
end Go.Proofs.YteffhdcankkfkaaGreat
