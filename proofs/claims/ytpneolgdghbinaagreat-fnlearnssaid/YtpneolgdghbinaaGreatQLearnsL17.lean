/- Several texts in one: SHeap6, DHeap, DHeap3, DHeap4, DHeap5. -/
import Derived.WalkSmall
import Derived.Test.YtpneolgdghbinaaGreatQLearnsL16
namespace Go.Proofs.YtpneolgdghbinaaGreat
open Go.ChangeShapes Go.WideShapes Go.ChangeAt Go.RowKit Go.Joins
set_option linter.unusedVariables false
set_option linter.unusedSimpArgs false
set_option maxRecDepth 100000
set_option maxHeartbeats 40000000
theorem Q17 {l:List Sc} {x:Sc} {i:Nat} (h:i < l.length):(l++[x]).getD i (0,0)=l.getD i (0,0):=by
 rw [List.getD_eq_getElem?_getD,List.getElem?_append_left h,←List.getD_eq_getElem?_getD]
theorem Q1Z {l:List Sc} {x:Sc}:(l++[x]).getD l.length (0,0)=x:=by
 rw [List.getD_eq_getElem?_getD,List.getElem?_append_right (Kaq _),Nat.sub_self];rfl
theorem Q9t {l:List Sc} {x:Sc} (h:HeapP l l.length):Q5Y (l++[x]) (l++[x]).length l.length:=by
 have c:(l++[x]).length=l.length+1:=by simp
 rw [c];refine ⟨fun i a h2 b=> ?_,fun d i a h2 b=> by omega⟩;have:=h i a (by omega);unfold fr at *;rw [Q17 (by omega),Q17 (by omega)];exact this
theorem Q9A {l:List Sc} {x:Sc} (h:okD l) (b:okS x):okD (l++[x]):=fun i hi=> by
 have c:(l++[x]).length=l.length+1:=by simp
 rcases Nat.lt_or_ge i l.length with a|a
 ·rw [Q17 a];exact h i a
 ·rw [show i=l.length by omega,Q1Z];exact b
theorem pushH_any (k:Nat) (v:Value) (l:List Sc) (i g:Int) (w:World) (I:BrdV k v w l) (q:okD l) (G:okS (i,g)) (M:HeapP l l.length) (f:l.length≤1000000):
  Calls Tryz.prog 152 #[.iface 262 (.pointer (some ⟨k,0,none⟩)),.iface 266 (.agg #[.int .i64 i,.int .i64 g])] w fun e t=> e=.returned (.tuple #[])∧∃D c m,Brd k D c t m∧HeapP m m.length∧Same (l++[(i,g)]) m (l.length+1)∧okD m∧Below k w t:=by
 have O:∀args w,(callFunc 217 args).run Tryz.prog w=.ok (.enter 217 args) w:=enters_of Tryz.func217 (by kernel_rfl) rfl
 have P:∀args w,(callFunc 214 args).run Tryz.prog w=.ok (.enter 214 args) w:=enters_of Tryz.func214 (by kernel_rfl) rfl
 have C:=fun w=> Q3r (k:=k) (w:=w) Q9B
 have z:(l++[(i,g)]).length=l.length+1:=by simp
 go_enter Tryz.func152,Tryz.ntmps152;go_wp2_with fail;refine (QdD k v l i g w I f).mono ?_;rintro e x ⟨rfl,A,u,a,n⟩;have y:=Q0r Q56 a.cell;rw [z] at y;go_wp2_with (go_at_call 214;refine (Q3A _ _ _ _).mono ?_;rintro e R ⟨rfl,rfl⟩)
 have B:(((l.length+1:Nat):Int) - 1)=(l.length:Int):=by omega
 refine (QeL k A u (l++[(i,g)]) l.length x a (by omega) (Q9A q G) (Q9t M) (by omega)).mono ?_;rintro e F ⟨rfl,p,s,j,d,r,h⟩;have J:=a.ge;have H:=a.lt;have N:Hid (Below k w F):=n.trans ((Below.refl k x).grown h (by omega) (fun b e=> by cases e;omega))
 have E:Hid (HeapP p p.length):=by unfold Hid;rw [d.1];exact j
 have L:Hid (Same (l++[(i,g)]) p (l.length+1)):=by unfold Hid;rw [←z];exact d
 clear y C j d n h;go_wp2
 go_end0
 exact ⟨rfl,A,u,p,s,E.out,L.out,r,N.out⟩
theorem QeP (k g c:Nat) (l:List Sc) (x y:Int) (w:World) (f:Brd k g c w (l++[(x,y)])) (q:l.length≤1000000):
  Calls Tryz.prog 216 #[.pointer (some ⟨k,0,none⟩)] w fun e t=> e=.returned (.iface 266 (.agg #[.int .i64 x,.int .i64 y]))∧Brd k g c t l∧Below k w t:=by
 have u:(l++[(x,y)]).length=l.length+1:=by simp
 have D:=f.cell;have L:=f.v.frozen;have B:=f.v.lt;rw [u] at D;have j:=f.row.rd
 rcases j with j|⟨b,off,C,z,d⟩
 ·simp at j
 cases C
 have m:=RdL.sc d l.length (by omega);rw [Q1Z] at m;simp only [Nat.zero_add] at m;obtain ⟨I,J⟩:=m;clear d
 have s:l.length+1≤c:=by
  rcases f.row.2 with ⟨i,_⟩|⟨H,r,E,i,_,_,A,_⟩
  ·simp at i
  ·simp only [Value.slice.injEq] at i
   rw [←i.2.2] at A;omega
 have h:w.ownsRow (k+1) 266 2 (.slice (some ⟨g,0,none⟩) l.length c) l.length (l.flatMap Q85.cs):=by
  have n:=f.row;unfold Q6E ownL at n;rw [u,List.flatMap_append] at n;exact ownsRow_pop (Q0n Q85 l) n
 have G:=Q01 f;have F:=Q01 h;clear f h;go_enter Tryz.func216,Tryz.ntmps216;go_wp2;go_ret;refine ⟨rfl,⟨?_, ?_⟩, ?_⟩
 ·exact (((Below.refl w.heap.size _).alloc (by simp) _).block k B).trans (Q5l G.out.box)
 ·exact (ownsRow_setCell_below F.out (a:=⟨k,0,none⟩) (Nat.lt_succ_self k) _).alloc _
 ·exact ((Below.refl k w).setCell (p:=⟨k,0,none⟩) (Kaq _) _).alloc (by simp;omega) _
def Qj0 (l l':List Sc):Prop:=l'.length+1=l.length∧∀z,(∃i,i < l'.length∧l'.getD i (0,0)=z)↔(∃i,1≤i∧i < l.length∧l.getD i (0,0)=z)
theorem Q6i {l:List Sc} {n:Nat} (h:HeapP l (n+1)) (d:n+1=l.length):Q2m (Q1m l 0 n) n 0:=by
 have F:∀m,fr (Q1m l 0 n) m=if m=n then fr l 0 else if m=0 then fr l n else fr l m:=fun m=> Q42 l 0 n m (by omega) (by omega)
 refine ⟨fun c b h2 a=> ?_,fun f=> by omega⟩;rw [F,F,if_neg (by omega),if_neg a,if_neg (by omega),if_neg (by omega)];exact h c b (by omega)
theorem Q4y {l:List Sc} {n i:Nat} (h:i < n):(l.take n).getD i (0,0)=l.getD i (0,0):=by
 simp [List.getD_eq_getElem?_getD,List.getElem?_take,h]
theorem popH_any (k g c:Nat) (l:List Sc) (n:Nat) (w:World) (f:Brd k g c w l) (N:n+1=l.length) (D:okD l) (hh:HeapP l l.length) (L:l.length≤1000000):
  Calls Tryz.prog 154 #[.iface 262 (.pointer (some ⟨k,0,none⟩))] w fun e O=> (∃v,e=.returned v)∧∃B,Brd k g c O B∧HeapP B B.length∧Qj0 l B∧okD B∧Below k w O:=by
 have eP:∀args w,(callFunc 216 args).run Tryz.prog w=.ok (.enter 216 args) w:=enters_of Tryz.func216 (by kernel_rfl) rfl
 have eN:∀args w,(callFunc 214 args).run Tryz.prog w=.ok (.enter 214 args) w:=enters_of Tryz.func214 (by kernel_rfl) rfl
 have eS:∀args w,(callFunc 218 args).run Tryz.prog w=.ok (.enter 218 args) w:=enters_of Tryz.func218 (by kernel_rfl) rfl
 have R:=fun w=> Q3r (k:=k) (w:=w) QbH
 have mN:=Q0r Q56 f.cell;have mS:=Q0r Q2e f.cell
 have Y:(l.length:Int) - 1=(n:Int):=by omega
 have a:=Q01 N;have aa:=f.ge;have X:=f.lt;clear N;go_enter Tryz.func154,Tryz.ntmps154;go_wp2_with (first|(go_at_call 214;refine (Q3A _ _ _ _).mono ?_;rintro e F ⟨rfl,rfl⟩));have x:=Q3J (k+1) g c l 0 n w f.row (by have:=a.out;omega) (by have:=a.out;omega) (by omega);refine x.mono ?_;rintro e G ⟨rfl,q,m⟩;have h:=f.swap q m;have p:Below k w G:=(Below.refl k w).grown m (by omega) (fun b e=> by cases e;omega);have M:=h.lt
 have s:=Q9b k g c (Q1m l 0 n) n G h (by rw [Q0u];have:=a.out;omega) (Q2b 0 n (by have:=a.out;omega) (by have:=a.out;omega) D) (Q6i (a.out.symm ▸ hh) a.out) (by rw [Q0u];omega);clear mN mS x q m f;go_wp2_with fail;refine s.mono ?_;rintro e F ⟨⟨r,rfl⟩,l2,t,A,j,u,C⟩;have H:Below k w F:=p.trans ((Below.refl k G).grown C (by omega) (fun b e=> by cases e;omega))
 have Z:l2.length=n+1:=by rw [j.1,Q0u];exact a.out.symm
 have P:l2=l2.take n++[((l2.getD n (0,0)).1,(l2.getD n (0,0)).2)]:=by
  have:=Q18 Q85 l2 n (by omega);rw [List.take_of_length_le (by omega)] at this;exact this
 have d:(l2.take n).length=n:=by simp;omega
 have y:=QeP k g c (l2.take n) (l2.getD n (0,0)).1 (l2.getD n (0,0)).2 F (P ▸ t) (by omega)
 have T:Hid (HeapP (l2.take n) (l2.take n).length):=by
  unfold Hid;rw [d];intro i J h2;have:=A i J h2;unfold fr at *;rw [Q4y (by omega),Q4y h2];exact this
 have V:Hid (okD (l2.take n)):=fun i hi=> by rw [Q4y (by omega)];exact u i (by omega)
 have HR:Hid (Qj0 l (l2.take n)):=by
  refine ⟨by rw [d];exact a.out,fun z=> ?_⟩;rw [d]
  have J:(∃i,i < n∧(l2.take n).getD i (0,0)=z)↔(∃i,i < n∧l2.getD i (0,0)=z):=
   ⟨fun ⟨i,hi,e⟩=> ⟨i,hi,by rw [←Q4y hi];exact e⟩,fun ⟨i,hi,e⟩=> ⟨i,hi,by rw [Q4y hi];exact e⟩⟩
  rw [J,j.2.1 z];have ac:=a.out
  constructor
  ·rintro ⟨i,hi,e⟩
   rw [Q1a l 0 n i (by omega) (by omega),if_neg (by omega)] at e
   by_cases h0:i=0
   ·rw [if_pos h0] at e
    subst h0;exact ⟨n,by omega,by omega,e⟩
   ·rw [if_neg h0] at e
    exact ⟨i,by omega,by omega,e⟩
  ·rintro ⟨i,U,ab,e⟩
   by_cases h0:i=n
   ·refine ⟨0,by omega, ?_⟩
    rw [Q1a l 0 n 0 (by omega) (by omega),if_neg (by omega),if_pos rfl,←h0];exact e
   ·refine ⟨i,by omega, ?_⟩
    rw [Q1a l 0 n i (by omega) (by omega),if_neg h0,if_neg (by omega)];exact e
 clear s h t A j u C P p;go_wp2_with fail;refine y.mono ?_;rintro e w3 ⟨rfl,I,E⟩;clear R y;go_wp2;go_ret;exact ⟨⟨_,rfl⟩,l2.take n,I,T.out,HR.out,V.out,H.trans E⟩
end Go.Proofs.YtpneolgdghbinaaGreat
namespace Go.Proofs.YtpneolgdghbinaaGreat.Dep
open Go.ChangeShapes Go.WideShapes Go.ChangeAt Go.RowKit Go.Joins
set_option linter.unusedVariables false
set_option linter.unusedSimpArgs false
set_option maxRecDepth 100000
set_option maxHeartbeats 40000000
theorem Q27:(Tryz.prog.info? 211).map (fun i=> (i.methods.find? (fun m=> m.name== "Less")).map (fun m=> (m.path,m.func)))=some (some (#[],some (209,false))):=by kernel_rfl
theorem Q2e:(Tryz.prog.info? 211).map (fun i=> (i.methods.find? (fun m=> m.name== "Swap")).map (fun m=> (m.path,m.func)))=some (some (#[],some (212,false))):=by kernel_rfl
theorem Q56:(Tryz.prog.info? 211).map (fun i=> (i.methods.find? (fun m=> m.name== "Len")).map (fun m=> (m.path,m.func)))=some (some (#[],some (153,false))):=by kernel_rfl
theorem Q9B:(Tryz.prog.info? 211).map (fun i=> (i.methods.find? (fun m=> m.name== "Push")).map (fun m=> (m.path,m.func)))=some (some (#[],some (211,true))):=by kernel_rfl
theorem QbH:(Tryz.prog.info? 211).map (fun i=> (i.methods.find? (fun m=> m.name== "Pop")).map (fun m=> (m.path,m.func)))=some (some (#[],some (210,true))):=by kernel_rfl
theorem QeS:Tryz.prog.underlying 211=some (.pointer 213):=Tryz.underlying211
theorem Q7t {a:String} {f:FuncId} {k:Nat} {v:Value} {w:World} (hm:(Tryz.prog.info? 211).map (fun i=> (i.methods.find? (fun m=> m.name==a)).map (fun m=> (m.path,m.func)))=some (some (#[],some (f,false))))
  (j:w.cell? ⟨k,0,none⟩=some v):Sem.run Tryz.prog (method (Tryz.prog.types.size+100) 211 (.pointer (some ⟨k,0,none⟩)) a) w=.ok (f,v) w:=by
 obtain ⟨i,hi,d⟩:=Option.map_eq_some_iff.1 hm;obtain ⟨m,c,b⟩:=Option.map_eq_some_iff.1 d;simp only [Prod.mk.injEq] at b;have h:=run_typeInfo (w:=w) hi;have g:=run_underlying QeS w;unfold method;simp only [Sem.run_bind,h,Result.andThen];rw [c];simp only [b.1,b.2];simp [follow,receiverAt,Sem.run_bind,g,Place.get,Qfa,asAddr,j,go_sem]
theorem Q7h {a:String} {f:FuncId} {k:Nat} {w:World} (hm:(Tryz.prog.info? 211).map (fun i=> (i.methods.find? (fun m=> m.name==a)).map (fun m=> (m.path,m.func)))=some (some (#[],some (f,true)))):
  Sem.run Tryz.prog (method (Tryz.prog.types.size+100) 211 (.pointer (some ⟨k,0,none⟩)) a) w=.ok (f,.pointer (some ⟨k,0,none⟩)) w:=by
 obtain ⟨i,hi,g⟩:=Option.map_eq_some_iff.1 hm;obtain ⟨m,c,b⟩:=Option.map_eq_some_iff.1 g;simp only [Prod.mk.injEq] at b;have d:=run_typeInfo (w:=w) hi;have h:=run_underlying QeS w;unfold method;simp only [Sem.run_bind,d,Result.andThen];rw [c];simp only [b.1,b.2];simp [follow,receiverAt,Sem.run_bind,h,Place.get,go_sem]
theorem Q0r {a:String} {f:FuncId} {k:Nat} {v:Value} {w:World} (hm:(Tryz.prog.info? 211).map (fun i=> (i.methods.find? (fun m=> m.name==a)).map (fun m=> (m.path,m.func)))=some (some (#[],some (f,false))))
  (b:w.cell? ⟨k,0,none⟩=some v):Sem.run Tryz.prog (method 383 211 (.pointer (some ⟨k,0,none⟩)) a) w=.ok (f,v) w:=by
 rw [←Q5L];exact Q7t hm b
theorem Q3r {a:String} {f:FuncId} {k:Nat} {w:World} (hm:(Tryz.prog.info? 211).map (fun i=> (i.methods.find? (fun m=> m.name==a)).map (fun m=> (m.path,m.func)))=some (some (#[],some (f,true)))):
  Sem.run Tryz.prog (method 383 211 (.pointer (some ⟨k,0,none⟩)) a) w=.ok (f,.pointer (some ⟨k,0,none⟩)) w:=by
 rw [←Q5L];exact Q7h hm
abbrev Q6E:=ownL Q85 172
def Q5j (a b:Sc):Bool:=if a.1=b.1 then decide (a.2 < b.2) else decide (a.1 < b.1)
theorem Q5z {w:World} {base g c:Nat} {l:List Sc} {n i:Nat} {x y:Int} (h:w.ownsRow base 172 2 (.slice (some ⟨g,0,none⟩) n c) n (l.flatMap Q85.cs)):
  ((w.setCell ⟨g,i * 2,none⟩ (.int .i64 x)).setCell ⟨g,i * 2+1,none⟩ (.int .i64 y)).ownsRow base 172 2 (.slice (some ⟨g,0,none⟩) n c) n ((l.set i (x,y)).flatMap Q85.cs)∧w.grownBy ((w.setCell ⟨g,i * 2,none⟩ (.int .i64 x)).setCell ⟨g,i * 2+1,none⟩ (.int .i64 y)) (some g):=by
 have b:=h.stored (i * 2) (.int .i64 x);have h2:=b.1.stored (i * 2+1) (.int .i64 y);rw [Q6a Q85 rfl (a:=(x,y)) rfl] at h2;exact ⟨h2.1,Q0G b.2 h2.2⟩
theorem Q7A {w:World} {base g c:Nat} {l:List Sc} {i j:Nat} {b a k d:Int} (h:Q6E w base (.slice (some ⟨g,0,none⟩) l.length c) l) (hi:l.getD i (0,0)=(b,a)) (n:l.getD j (0,0)=(k,d)):
  Q6E ((((w.setCell ⟨g,i * 2,none⟩ (.int .i64 k)).setCell ⟨g,i * 2+1,none⟩ (.int .i64 d)).setCell ⟨g,j * 2,none⟩ (.int .i64 b)).setCell ⟨g,j * 2+1,none⟩ (.int .i64 a)).drew base (.slice (some ⟨g,0,none⟩) l.length c) (Q1m l i j)∧
   w.grownBy ((((w.setCell ⟨g,i * 2,none⟩ (.int .i64 k)).setCell ⟨g,i * 2+1,none⟩ (.int .i64 d)).setCell ⟨g,j * 2,none⟩ (.int .i64 b)).setCell ⟨g,j * 2+1,none⟩ (.int .i64 a)).drew (some g):=by
 have m:=Q5z (i:=i) (x:=k) (y:=d) h;have h2:=Q5z (i:=j) (x:=b) (y:=a) m.1;have f:=Q0G m.2 h2.2;refine ⟨?_,⟨f.os,f.tape,f.output,f.size,f.block⟩⟩;have p:=h2.1.drew;unfold Q6E ownL Q1m;rw [hi,n,show ((l.set i (k,d)).set j (b,a)).length=l.length by simp];exact p
theorem dpLen_any (o:Option Addr) (n c:Nat) (w:World):Calls Tryz.prog 153 #[.slice o n c] w fun e a=> e=.returned (.int .i64 n)∧w=a:=by
 go_enter Tryz.func153,Tryz.ntmps153;go_wp2;go_ret;exact ⟨rfl,rfl⟩
theorem Q3N (o:Option Addr) (c:Nat) (l:List Sc) (i j:Nat) (w:World) (C:Nat) (m:RdL Q85 C w o l) (hi:i < l.length) (A:j < l.length) (n:l.length≤1048576):
  Calls Tryz.prog 209 #[.slice o l.length c,.int .i64 i,.int .i64 j] w fun e D=> e=.returned (.bool (Q5j (l.getD i (0,0)) (l.getD j (0,0))))∧∃q,D=w.drewN q:=by
 rcases m with m|⟨b,off,rfl,u,a⟩
 ·subst m;simp at hi
 have p:=RdL.sc a i hi;have r:=RdL.sc a j A;clear a;generalize l.getD i (0,0)=x at *;generalize l.getD j (0,0)=y at *;obtain ⟨d,k⟩:=x;obtain ⟨f,g⟩:=y;dsimp only at p r;obtain ⟨t,v⟩:=p;obtain ⟨s,B⟩:=r
 have E:(i:Int) < (l.length:Int):=by omega
 have F:(j:Int) < (l.length:Int):=by omega
 by_cases hs:d=f
 ·have z:(d !=f)=false:=by simp [hs]
  have h:=Q01 (show decide (k < g)=Q5j (d,k) (f,g) by simp [Q5j,hs]);clear hs;go_enter Tryz.func209,Tryz.ntmps209;go_wp2
  go_quiet (fail)
  go_wp2
  go_quiet (fail)
  go_wp2;go_ret;exact ⟨Q0d h.out,_,(World.drewN_drewN _ _ _)⟩
 ·have z:(d !=f)=true:=by simp [hs]
  have h:=Q01 (show decide (d < f)=Q5j (d,k) (f,g) by simp [Q5j,hs]);clear hs;go_enter Tryz.func209,Tryz.ntmps209;go_wp2
  go_quiet (fail)
  go_wp2
  go_quiet (fail)
  go_wp2;go_ret;exact ⟨Q0d h.out,_,(World.drewN_drewN _ _ _)⟩
theorem Q3Q (base g c:Nat) (l:List Sc) (i j:Nat) (w:World) (a:Q6E w base (.slice (some ⟨g,0,none⟩) l.length c) l) (hi:i < l.length) (G:j < l.length) (f:l.length≤1048576):
  Calls Tryz.prog 212 #[.slice (some ⟨g,0,none⟩) l.length c,.int .i64 i,.int .i64 j] w fun e B=> e=.returned (.tuple #[])∧Q6E B base (.slice (some ⟨g,0,none⟩) l.length c) (Q1m l i j)∧w.grownBy B (some g):=by
 have n:=a.rd
 rcases n with n|⟨b,off,L,E,d⟩
 ·subst n;simp at hi
 cases L
 have k:=RdL.sc d i hi;have q:=RdL.sc d j G;clear d;simp only [Nat.zero_add] at k q
 have z1:(i:Int) < (l.length:Int):=by omega
 have V:(j:Int) < (l.length:Int):=by omega
 have O:=a.frozenAt (i * 2);have N:=a.frozenAt (i * 2+1);have C:=a.frozenAt (j * 2);have H:=a.frozenAt (j * 2+1);have F:=Q01 a;clear a;have Y:=Q01 (show (l.set i (l.getD j (0,0))).set j (l.getD i (0,0))=Q1m l i j from rfl);have T:=Q01 f;generalize hgi:l.getD i (0,0)=x at *;generalize hgj:l.getD j (0,0)=y at *;have r:=Q01 hgi;have m:=Q01 hgj;clear hgi hgj;obtain ⟨J,U⟩:=x;obtain ⟨A,z⟩:=y;dsimp only at k q;obtain ⟨M,P⟩:=k;obtain ⟨h,v⟩:=q;obtain ⟨R,u⟩:=Q0D (w:=w) (p:=⟨g,i * 2,none⟩) (x:=.int .i64 A) h
 obtain ⟨Z,s⟩:=Q0D (w:=w) (p:=⟨g,i * 2,none⟩) (x:=.int .i64 A) v;obtain ⟨b0,I⟩:=Q0D (p:=⟨g,i * 2+1,none⟩) (x:=.int .i64 z) u;obtain ⟨b1,t⟩:=Q0D (p:=⟨g,i * 2+1,none⟩) (x:=.int .i64 z) s;obtain ⟨X,D⟩:=Q0D (p:=⟨g,j * 2,none⟩) (x:=.int .i64 J) t;go_enter Tryz.func212,Tryz.ntmps212;go_wp2
 go_region
 all_goals (try go_wp2)
 all_goals go_end0
 all_goals exact ⟨rfl,Q7A F.out r.out m.out⟩
def Q4i (a:Sc):Int:=16 * a.1+a.2
def okS (a:Sc):Prop:=0≤a.2∧a.2 < 16
theorem Q0K {a b:Sc} (g:okS a) (c:okS b):Q5j a b=decide (Q4i a < Q4i b):=by
 obtain ⟨f,j⟩:=a;obtain ⟨d,i⟩:=b;unfold okS at g c;unfold Q5j Q4i;dsimp only at *
 by_cases h:f=d
 ·rw [if_pos h];congr 1;apply propext;constructor <;> intro <;> omega
 ·rw [if_neg h];congr 1;apply propext;constructor <;> intro <;> omega
def Same (l l':List Sc) (n:Nat):Prop:=Go.Proofs.YtpneolgdghbinaaGreat.Same l l' n∧∀i,n≤i→l'.getD i (0,0)=l.getD i (0,0)
theorem Same.refl (l:List Sc) (n:Nat):Same l l n:=⟨Go.Proofs.YtpneolgdghbinaaGreat.Same.refl l n,fun _ _=> rfl⟩
theorem Same.trans {a b c:List Sc} {n:Nat} (h:Same a b n) (k:Same b c n):Same a c n:=⟨Go.Proofs.YtpneolgdghbinaaGreat.Same.trans h.1 k.1,fun i hi=> (k.2 i hi).trans (h.2 i hi)⟩
theorem swapD_same {l:List Sc} (i j n:Nat) (hi:i < n) (b:j < n) (a:n≤l.length):Same l (Q1m l i j) n:=
 ⟨Go.Proofs.YtpneolgdghbinaaGreat.swapD_same i j n hi b a,fun m hm=> by rw [Q1a l i j m (by omega) (by omega),if_neg (by omega),if_neg (by omega)]⟩
abbrev fr (l:List Sc) (i:Nat):Int:=Q4i (l.getD i (0,0))
def okD (l:List Sc):Prop:=∀i,i < l.length→okS (l.getD i (0,0))
def HeapP (l:List Sc) (n:Nat):Prop:=∀i,1≤i→i < n→fr l ((i - 1) / 2)≤fr l i
def Q5Y (l:List Sc) (n j:Nat):Prop:=(∀i,1≤i→i < n→i≠j→fr l ((i - 1) / 2)≤fr l i)∧(1≤j→∀i,1≤i→i < n→(i - 1) / 2=j→fr l ((j - 1) / 2)≤fr l i)
def Q2m (l:List Sc) (n i:Nat):Prop:=(∀c,1≤c→c < n→(c - 1) / 2≠i→fr l ((c - 1) / 2)≤fr l c)∧(1≤i→∀c,1≤c→c < n→(c - 1) / 2=i→fr l ((i - 1) / 2)≤fr l c)
theorem Q42 (l:List Sc) (i j m:Nat) (hi:i < l.length) (a:j < l.length):fr (Q1m l i j) m=if m=j then fr l i else if m=i then fr l j else fr l m:=by
 unfold fr;rw [Q1a l i j m hi a];split
 ·rfl
 ·split <;> rfl
theorem Q2b {l:List Sc} (i j:Nat) (hi:i < l.length) (a:j < l.length) (h:okD l):okD (Q1m l i j):=fun m hm=> by
 rw [Q0u] at hm;rw [Q1a l i j m hi a]
 split
 ·exact h i hi
 ·split
  ·exact h j a
  ·exact h m hm
theorem Q7G {l:List Sc} {n j:Nat} (h:Q5Y l n j) (b:j=0∨fr l ((j - 1) / 2)≤fr l j):HeapP l n:=fun i c h2=> by
 by_cases e:i=j
 ·subst e
  rcases b with a|a
  ·omega
  ·exact a
 ·exact h.1 i c h2 e
theorem Qbn {l:List Sc} {n j p:Nat} (h:Q5Y l n j) (f:p=(j - 1) / 2) (c:1≤j) (k:j < n) (u:n≤l.length) (r:fr l j < fr l p):Q5Y (Q1m l p j) n p:=by
 have t:p < j:=by omega
 have F:∀m,fr (Q1m l p j) m=if m=j then fr l p else if m=p then fr l j else fr l m:=fun m=> Q42 l p j m (by omega) (by omega)
 refine ⟨fun i b h2 a=> ?_,fun d i b h2 a=> ?_⟩
 ·by_cases e1:i=j
  ·subst e1
   rw [F,F,if_pos rfl,←f,if_neg (by omega),if_pos rfl];omega
  ·by_cases e2:(i - 1) / 2=j
   ·rw [e2,F,F,if_pos rfl,if_neg e1,if_neg a]
    have:=h.2 c i b h2 e2;rw [←f] at this;exact this
   ·by_cases e3:(i - 1) / 2=p
    ·have:=h.1 i b h2 e1
     rw [e3] at this ⊢;rw [F,F,if_neg (by omega),if_pos rfl,if_neg e1,if_neg a];omega
    ·have:=h.1 i b h2 e1
     rw [F,F,if_neg e2,if_neg e3,if_neg e1,if_neg a];exact this
 ·have g:(p - 1) / 2 < p:=by omega
  have s:=h.1 p d (by omega) (by omega);rw [F ((p - 1) / 2),if_neg (by omega),if_neg (by omega),F i]
  by_cases e1:i=j
  ·rw [if_pos e1];exact s
  ·rw [if_neg e1,if_neg (by omega)]
   have q:=h.1 i b h2 e1;rw [a] at q;omega
theorem Q26 {l:List Sc} {n i:Nat} (h:Q2m l n i) (hc:∀c,1≤c→c < n→(c - 1) / 2=i→fr l i≤fr l c):HeapP l n:=fun c h1 h2=> by
 by_cases e:(c - 1) / 2=i
 ·rw [e];exact hc c h1 h2 e
 ·exact h.1 c h1 h2 e
theorem Q2W {l:List Sc} {n i j:Nat} (h:Q2m l n i) (g:1≤j) (d:j < n) (k:(j - 1) / 2=i) (s:n≤l.length) (p:fr l j < fr l i) (a:∀c,1≤c→c < n→(c - 1) / 2=i→fr l j≤fr l c):Q2m (Q1m l i j) n j:=by
 have r:i < j:=by omega
 have F:∀m,fr (Q1m l i j) m=if m=j then fr l i else if m=i then fr l j else fr l m:=fun m=> Q42 l i j m (by omega) (by omega)
 refine ⟨fun c b h2 f=> ?_,fun _ c b h2 f=> ?_⟩
 ·by_cases e1:(c - 1) / 2=i
  ·rw [e1,F i,if_neg (by omega),if_pos rfl,F c]
   by_cases e2:c=j
   ·rw [if_pos e2];omega
   ·rw [if_neg e2,if_neg (by omega)];exact a c b h2 e1
  ·rw [F ((c - 1) / 2),if_neg f,if_neg e1,F c]
   have q:=h.1 c b h2 e1
   by_cases e2:c=j
   ·subst e2;omega
   ·rw [if_neg e2]
    by_cases e3:c=i
    ·subst e3
     rw [if_pos rfl];have:=h.2 b j g d k;exact this
    ·rw [if_neg e3];exact q
 ·rw [k,F i,if_neg (by omega),if_pos rfl,F c,if_neg (by omega),if_neg (by omega)]
  have:=h.1 c b h2 (by omega);rw [f] at this;exact this
theorem heap_top {l:List Sc} {n:Nat} (h:HeapP l n):∀i,i < n→fr l 0≤fr l i:=fun i=> by
 induction i using Nat.strongRecOn with
 |_ i ih=>
  intro hi
  by_cases h0:i=0
  ·subst h0;exact Int.le_refl _
  ·exact Int.le_trans (ih ((i - 1) / 2) (by omega) (by omega)) (h i (by omega) hi)
structure Brd (k g c:Nat) (w:World) (l:List Sc):Prop where
 box:w.heap[k]? =some (.cells #[.slice (some ⟨g,0,none⟩) l.length c] 213 (0,0))
 row:Q6E w (k+1) (.slice (some ⟨g,0,none⟩) l.length c) l
theorem Brd.cell {k g c:Nat} {w:World} {l:List Sc} (h:Brd k g c w l):w.cell? ⟨k,0,none⟩=some (.slice (some ⟨g,0,none⟩) l.length c):=by
 simp [World.cell?,h.box]
theorem Brd.ge {k g c:Nat} {w:World} {l:List Sc} (h:Brd k g c w l):k+1≤g:=(h.row.lt g rfl).1
theorem Brd.lt {k g c:Nat} {w:World} {l:List Sc} (h:Brd k g c w l):g < w.heap.size:=(h.row.lt g rfl).2
theorem Brd.drewN {k g c:Nat} {w:World} {l:List Sc} (h:Brd k g c w l) (q:Nat):Brd k g c (w.drewN q) l:=⟨h.box,h.row⟩
theorem Brd.swap {k g c:Nat} {w b:World} {l:List Sc} {i j:Nat} (h:Brd k g c w l) (d:Q6E b (k+1) (.slice (some ⟨g,0,none⟩) l.length c) (Q1m l i j)) (f:w.grownBy b (some g)):Brd k g c b (Q1m l i j):=by
 refine ⟨?_,by rw [Q0u];exact d⟩;rw [Q0u];have a:k < w.heap.size:=(Array.getElem?_eq_some_iff.1 h.box).1;exact (f.block k a (by have:=h.ge;simp;omega)).trans h.box
theorem QeL (k g c:Nat) (l:List Sc) (j:Nat) (w:World) (hb:Brd k g c w l) (hj:j < l.length) (hok:okD l) (hinv:Q5Y l l.length j) (hlen:l.length≤1048576):
  Calls Tryz.prog 179 #[.iface 211 (.pointer (some ⟨k,0,none⟩)),.int .i64 j] w fun e w'=> e=.returned (.tuple #[])∧∃l',Brd k g c w' l'∧HeapP l' l.length∧Same l l' l.length∧okD l'∧w.grownBy w' (some g):=by
 have eL:∀args w,(callFunc 209 args).run Tryz.prog w=.ok (.enter 209 args) w:=enters_of Tryz.func209 (by kernel_rfl) rfl
 have eS:∀args w,(callFunc 212 args).run Tryz.prog w=.ok (.enter 212 args) w:=enters_of Tryz.func212 (by kernel_rfl) rfl
 go_enter Tryz.func179,Tryz.ntmps179;go_wp2
 go_loopw [1] (fun jv wr=> ∃(q:Nat) (lq:List Sc),jv=.int .i64 q∧q < l.length∧lq.length=l.length∧Brd k g c wr lq∧Q5Y lq l.length q∧Same l lq l.length∧okD lq∧w.grownBy wr (some g))
  (fun jv _=> (intOf jv).toNat)
 case atStart=> exact ⟨j,l,rfl,hj,rfl,hb,hinv,Same.refl _ _,hok,World.grownBy.refl _ _⟩
 case round=>
  obtain ⟨q,lq,rfl,hq,hlq,hbq,hiq,hsq,hoq,hgq⟩:=hrel;have hcell:=hbq.cell
  rcases Nat.eq_zero_or_pos q with h0|h0
  ·subst h0
   have HF:=Q01 (Q7G hiq (.inl rfl));go_wp2
   go_end0
   exact ⟨rfl,lq,hbq,HF.out,hsq,hoq,hgq⟩
  ·obtain ⟨p,hp⟩:∃p,p=(q - 1) / 2:=⟨_,rfl⟩
   have hpi:((q:Int) - 1) / 2=(p:Int):=by omega
   have hpq:p < q:=by omega
   have HP:=Q01 hp;clear hp
   have mL:∀n,Sem.run Tryz.prog (method 383 211 (.pointer (some ⟨k,0,none⟩)) "Less") (wr.drewN n)=.ok (209,.slice (some ⟨g,0,none⟩) lq.length c) (wr.drewN n):=fun n=> Q0r Q27 (hbq.drewN n).cell
   have mL0:Sem.run Tryz.prog (method 383 211 (.pointer (some ⟨k,0,none⟩)) "Less") wr=.ok (209,.slice (some ⟨g,0,none⟩) lq.length c) wr:=Q0r Q27 hcell
   have mS:∀n,Sem.run Tryz.prog (method 383 211 (.pointer (some ⟨k,0,none⟩)) "Swap") (wr.drewN n)=.ok (212,.slice (some ⟨g,0,none⟩) lq.length c) (wr.drewN n):=fun n=> Q0r Q2e (hbq.drewN n).cell
   have hle:=Q3N (some ⟨g,0,none⟩) c lq q p wr wr.heap.size hbq.row.rd (by omega) (by omega) (by omega);rw [Q0K (hoq q (by omega)) (hoq p (by omega))] at hle
   have qp:¬((p:Int)=(q:Int)):=by omega
   have qpb:((p:Int)==(q:Int))=false:=by simp;omega
   by_cases hlt:fr lq q < fr lq p
   ·rw [decide_eq_true hlt] at hle
    have HS:=Q01 (fun m=> Q3Q (k+1) g c lq p q (wr.drewN m) (hbq.drewN m).row (by omega) (by omega) (by omega));have HU:=Q01 (Qbn hiq HP.out (by omega) (by omega) (by omega) hlt);have HM:=Q01 (Same.trans hsq (swapD_same (l:=lq) p q l.length (by omega) (by omega) (by omega)));have HO:=Q01 (Q2b p q (by omega) (by omega) hoq);have HG:=Q01 hgq;have HB:=Q01 hbq;have HLQ:=Q01 hlq;clear hgq hbq hiq hsq hoq hlt hcell hlq;go_wp2_with (first|(go_at_call 209;refine hle.mono ?_;rintro e w1 ⟨rfl,m1,rfl⟩)|(go_at_call 212;refine (HS.out _).mono ?_;rintro e w2 ⟨rfl,ho2,hg2⟩;clear mL mL0 mS));go_roundw
    case rel=> exact ⟨p,Q1m lq p q,rfl,by omega,by rw [Q0u];exact HLQ.out,(HB.out.drewN m1).swap ho2 hg2,HU.out,HM.out,HO.out,Q0G HG.out (Q0G (Q1p wr m1 _) hg2)⟩
    case measure=> simp [intOf];omega
   ·rw [decide_eq_false hlt] at hle
    have HF:=Q01 (Q7G hiq (.inr (by rw [←HP.out];omega)));have HG:=Q01 hgq;have HB:=Q01 hbq;clear hgq hbq hiq hlt hcell hlq;go_wp2_with (first|(go_at_call 209;refine hle.mono ?_;rintro e w1 ⟨rfl,m1,rfl⟩))
    go_end0
    exact ⟨rfl,lq,HB.out.drewN _,HF.out,hsq,hoq,Q0G HG.out (Q1p wr _ _)⟩
theorem Q9b (k g c:Nat) (l:List Sc) (n:Nat) (w:World) (hb:Brd k g c w l) (hn:n≤l.length) (ab:okD l) (aa:Q2m l n 0) (ae:l.length≤1048576):
  Calls Tryz.prog 180 #[.iface 211 (.pointer (some ⟨k,0,none⟩)),.int .i64 0,.int .i64 n] w fun e w'=> (∃r,e=.returned (.bool r))∧∃l',Brd k g c w' l'∧HeapP l' n∧Same l l' n∧okD l'∧w.grownBy w' (some g):=by
 have eL:∀args w,(callFunc 209 args).run Tryz.prog w=.ok (.enter 209 args) w:=enters_of Tryz.func209 (by kernel_rfl) rfl
 have eS:∀args w,(callFunc 212 args).run Tryz.prog w=.ok (.enter 212 args) w:=enters_of Tryz.func212 (by kernel_rfl) rfl
 go_enter Tryz.func180,Tryz.ntmps180;go_wp2
 go_loopw [7] (fun iv wr=> ∃(q:Nat) (d:List Sc),iv=.int .i64 q∧q≤n∧d.length=l.length∧Brd k g c wr d∧Q2m d n q∧Same l d n∧okD d∧w.grownBy wr (some g))
  (fun iv _=> n - (intOf iv).toNat)
 case atStart=> exact ⟨0,l,rfl,Kcq _,rfl,hb,aa,Same.refl _ _,ab,World.grownBy.refl _ _⟩
 case round=>
  obtain ⟨q,d,rfl,hq,u,B,i,j,b,Z⟩:=hrel;have z:=B.cell;have O:=Q01 u;have h:=Q01 B;have H:=Q01 Z
  have mL:=fun m=> Q0r Q27 (B.drewN m).cell
  have N:=Q0r Q27 z
  have P:=fun m m'=> Q0r Q27 ((B.drewN m).drewN m').cell
  have mS:=fun m=> Q0r Q2e (B.drewN m).cell
  have J:=Q0r Q2e z
  have M:=fun m m'=> Q0r Q2e ((B.drewN m).drewN m').cell
  obtain ⟨f,v⟩:∃f:Nat,f=2 * q+1:=⟨_,rfl⟩;obtain ⟨p,A⟩:∃p:Nat,p=f+1:=⟨_,rfl⟩
  have e1:2 * (q:Int)+1=(f:Int):=by omega
  have e2:(f:Int)+1=(p:Int):=by omega
  have y:True:=trivial;clear Z B z
  by_cases hA:f < n
  ·have ac:¬(n:Int)≤(f:Int):=by omega
   have af:¬(f:Int) < 0:=by omega
   by_cases hB2:p < n
   ·have R:=fun W (C:Brd k g c W d)=> Q3N (some ⟨g,0,none⟩) c d p f W W.heap.size C.row.rd (by omega) (by omega) (by omega)
    by_cases hl2:fr d p < fr d f
    ·rw [Q0K (b p (by omega)) (b f (by omega)),decide_eq_true hl2] at R
     have Y:=Q01 R;clear R
     have a:∀x,1≤x→x < n→(x - 1) / 2=q→fr d p≤fr d x:=fun x G h2 F=> by rcases (show x=f∨x=p by omega) with e|e <;> subst e <;> omega
     have s:=fun W (C:Brd k g c W d)=> Q3N (some ⟨g,0,none⟩) c d p q W W.heap.size C.row.rd (by omega) (by omega) (by omega)
     by_cases hlt:fr d p < fr d q
     ·rw [Q0K (b p (by omega)) (b q (by omega)),decide_eq_true hlt] at s
      have E:=Q01 s;have HS:=Q01 (fun W (C:Brd k g c W d)=> Q3Q (k+1) g c d q p W C.row (by omega) (by omega) (by omega));have U:=Q01 (Q2W i (by omega) (by omega) (by omega) (by omega) hlt a);have V:=Q01 (Same.trans j (swapD_same (l:=d) q p n (by omega) (by omega) (by omega)));have T:=Q01 (Q2b q p (by omega) (by omega) b);clear s i j b hlt a u y v A
      go_wp2_with (first|(go_at_call_of 209 (Value.int .i64 (q:Int));refine (E.out _ (by first|exact h.out|exact h.out.drewN _)).mono ?_;rintro e X ⟨rfl,I,rfl⟩)|(go_at_call 209;refine (Y.out _ (by first|exact h.out|exact h.out.drewN _)).mono ?_;rintro e w1 ⟨rfl,m1,rfl⟩)|(go_at_call 212;refine (HS.out _ (by first|exact h.out|exact h.out.drewN _|exact (h.out.drewN _).drewN _)).mono ?_;rintro e w3 ⟨rfl,D,t⟩;clear mL N mS J M P));go_roundw
      case rel=> exact ⟨p,Q1m d q p,rfl,by omega,by rw [Q0u];exact O.out,Brd.swap (h.out.drewN _) D t,U.out,V.out,T.out,Q0G H.out (Q0G (Q1p wr _ _) t)⟩
      case measure=> simp [intOf];omega
     ·rw [Q0K (b p (by omega)) (b q (by omega)),decide_eq_false hlt] at s
      have E:=Q01 s;have L:=Q01 (Q26 i (fun x G h2 F=> by have:=a x G h2 F;omega));clear s i hlt a u y v A;go_wp2_with (first|(go_at_call_of 209 (Value.int .i64 (q:Int));refine (E.out _ (by first|exact h.out|exact h.out.drewN _)).mono ?_;rintro e X ⟨rfl,I,rfl⟩)|(go_at_call 209;refine (Y.out _ (by first|exact h.out|exact h.out.drewN _)).mono ?_;rintro e w1 ⟨rfl,m1,rfl⟩));go_ret;exact ⟨⟨_,rfl⟩,d,h.out.drewN _,L.out,j,b,Q0G H.out (Q1p wr _ _)⟩
    ·rw [Q0K (b p (by omega)) (b f (by omega)),decide_eq_false hl2] at R
     have Y:=Q01 R;clear R
     have a:∀x,1≤x→x < n→(x - 1) / 2=q→fr d f≤fr d x:=fun x G h2 F=> by rcases (show x=f∨x=p by omega) with e|e <;> subst e <;> omega
     have s:=fun W (C:Brd k g c W d)=> Q3N (some ⟨g,0,none⟩) c d f q W W.heap.size C.row.rd (by omega) (by omega) (by omega)
     by_cases hlt:fr d f < fr d q
     ·rw [Q0K (b f (by omega)) (b q (by omega)),decide_eq_true hlt] at s
      have E:=Q01 s;have HS:=Q01 (fun W (C:Brd k g c W d)=> Q3Q (k+1) g c d q f W C.row (by omega) (by omega) (by omega));have U:=Q01 (Q2W i (by omega) (by omega) (by omega) (by omega) hlt a);have V:=Q01 (Same.trans j (swapD_same (l:=d) q f n (by omega) (by omega) (by omega)));have T:=Q01 (Q2b q f (by omega) (by omega) b);clear s i j b hlt a u y v A
      go_wp2_with (first|(go_at_call_of 209 (Value.int .i64 (q:Int));refine (E.out _ (by first|exact h.out|exact h.out.drewN _)).mono ?_;rintro e X ⟨rfl,I,rfl⟩)|(go_at_call 209;refine (Y.out _ (by first|exact h.out|exact h.out.drewN _)).mono ?_;rintro e w1 ⟨rfl,m1,rfl⟩)|(go_at_call 212;refine (HS.out _ (by first|exact h.out|exact h.out.drewN _|exact (h.out.drewN _).drewN _)).mono ?_;rintro e w3 ⟨rfl,D,t⟩;clear mL N mS J M P));go_roundw
      case rel=> exact ⟨f,Q1m d q f,rfl,by omega,by rw [Q0u];exact O.out,Brd.swap (h.out.drewN _) D t,U.out,V.out,T.out,Q0G H.out (Q0G (Q1p wr _ _) t)⟩
      case measure=> simp [intOf];omega
     ·rw [Q0K (b f (by omega)) (b q (by omega)),decide_eq_false hlt] at s
      have E:=Q01 s;have L:=Q01 (Q26 i (fun x G h2 F=> by have:=a x G h2 F;omega));clear s i hlt a u y v A;go_wp2_with (first|(go_at_call_of 209 (Value.int .i64 (q:Int));refine (E.out _ (by first|exact h.out|exact h.out.drewN _)).mono ?_;rintro e X ⟨rfl,I,rfl⟩)|(go_at_call 209;refine (Y.out _ (by first|exact h.out|exact h.out.drewN _)).mono ?_;rintro e w1 ⟨rfl,m1,rfl⟩));go_ret;exact ⟨⟨_,rfl⟩,d,h.out.drewN _,L.out,j,b,Q0G H.out (Q1p wr _ _)⟩
   ·have ad:¬(p:Int) < (n:Int):=by omega
    have a:∀x,1≤x→x < n→(x - 1) / 2=q→fr d f≤fr d x:=fun x G h2 F=> by rcases (show x=f by omega) with rfl;omega
    have s:=fun W (C:Brd k g c W d)=> Q3N (some ⟨g,0,none⟩) c d f q W W.heap.size C.row.rd (by omega) (by omega) (by omega)
    by_cases hlt:fr d f < fr d q
    ·rw [Q0K (b f (by omega)) (b q (by omega)),decide_eq_true hlt] at s
     have E:=Q01 s;have HS:=Q01 (fun W (C:Brd k g c W d)=> Q3Q (k+1) g c d q f W C.row (by omega) (by omega) (by omega));have U:=Q01 (Q2W i (by omega) (by omega) (by omega) (by omega) hlt a);have V:=Q01 (Same.trans j (swapD_same (l:=d) q f n (by omega) (by omega) (by omega)));have T:=Q01 (Q2b q f (by omega) (by omega) b);clear s i j b hlt a u y v A
     go_wp2_with (first|(go_at_call_of 209 (Value.int .i64 (q:Int));refine (E.out _ (by first|exact h.out|exact h.out.drewN _)).mono ?_;rintro e X ⟨rfl,I,rfl⟩)|(go_at_call 212;refine (HS.out _ (by first|exact h.out|exact h.out.drewN _|exact (h.out.drewN _).drewN _)).mono ?_;rintro e w3 ⟨rfl,D,t⟩;clear mL N mS J M P));go_roundw
     case rel=> exact ⟨f,Q1m d q f,rfl,by omega,by rw [Q0u];exact O.out,Brd.swap (h.out.drewN I) D t,U.out,V.out,T.out,Q0G H.out (Q0G (Q1p wr _ _) t)⟩
     case measure=> simp [intOf];omega
    ·rw [Q0K (b f (by omega)) (b q (by omega)),decide_eq_false hlt] at s
     have E:=Q01 s;have L:=Q01 (Q26 i (fun x G h2 F=> by have:=a x G h2 F;omega));clear s i hlt a u y v A;go_wp2_with (first|(go_at_call_of 209 (Value.int .i64 (q:Int));refine (E.out _ (by first|exact h.out|exact h.out.drewN _)).mono ?_;rintro e X ⟨rfl,I,rfl⟩));go_ret;exact ⟨⟨_,rfl⟩,d,h.out.drewN I,L.out,j,b,Q0G H.out (Q1p wr _ _)⟩
  ·have ac:(n:Int)≤(f:Int):=by omega
   have L:=Q01 (Q26 i (fun x G h2 F=> by omega));clear i u y v A;go_wp2;go_ret;exact ⟨⟨_,rfl⟩,d,h.out,L.out,j,b,H.out⟩
theorem QeG:(Tryz.prog.info? 172).map (fun i=> (i.zero,i.size,i.bytes))=some (some (.agg #[.int .i64 0,.int .i64 0]),2,16):=by kernel_rfl
structure BrdV (k:Nat) (v:Value) (w:World) (l:List Sc):Prop where
 box:w.heap[k]? =some (.cells #[v] 213 (0,0))
 row:Q6E w (k+1) v l
theorem Brd.v {k g c:Nat} {w:World} {l:List Sc} (h:Brd k g c w l):BrdV k (.slice (some ⟨g,0,none⟩) l.length c) w l:=⟨h.box,h.row⟩
theorem BrdV.cell {k:Nat} {v:Value} {w:World} {l:List Sc} (h:BrdV k v w l):w.cell? ⟨k,0,none⟩=some v:=by simp [World.cell?,h.box]
theorem BrdV.frozen {k:Nat} {v:Value} {w:World} {l:List Sc} (h:BrdV k v w l):w.frozen? ⟨k,0,none⟩=false:=by simp [World.frozen?,h.box]
theorem BrdV.lt {k:Nat} {v:Value} {w:World} {l:List Sc} (h:BrdV k v w l):k < w.heap.size:=(Array.getElem?_eq_some_iff.1 h.box).1
theorem BrdV.slice {k:Nat} {v:Value} {w:World} {l:List Sc} (h:BrdV k v w l):∃o c,v=.slice o l.length c:=by
 obtain ⟨o,c,e,_⟩:=h.row.open;exact ⟨o,c,e⟩
theorem BrdV.ne {k:Nat} {v:Value} {w:World} {l:List Sc} (h:BrdV k v w l):some k≠v.ownBlock:=fun e=> by have:=(h.row.lt k e.symm).1;omega
theorem Q8W {w:World} {k:Nat} {v:Value} (h:w.heap[k]? =some (.cells #[v] 213 (0,0))):w.cell? ⟨k,0,none⟩=some v:=by simp [World.cell?,h]
theorem Q63 {w:World} {k:Nat} {v:Value} (h:w.heap[k]? =some (.cells #[v] 213 (0,0))):w.frozen? ⟨k,0,none⟩=false:=by simp [World.frozen?,h]
theorem Q5l {w:World} {k:Nat} {v u:Value} (h:w.heap[k]? =some (.cells #[v] 213 (0,0))):(w.setCell ⟨k,0,none⟩ u).heap[k]? =some (.cells #[u] 213 (0,0)):=by
 simp [World.setCell,Array.getElem?_modify,h]
theorem Q3p {f:Array Oper} {o:Oper} {a:Act} {w:World} {K:Act→World→Prop} {Q:Exit→Act→World→Prop} {E:Prop} (l:o.guard=none) (s x:Operand)
  (D:o.op=.call { callee:=.builtin .append,args:=#[s,x],argTypes:=#[213,213] }) (base:Nat) (v:Value) (p:List Sc) (hs:a.eval s=v) (d:Q6E w base v p)
  (n:Nat) (i g:Int) (C:a.eval x=.slice (some ⟨n,0,none⟩) 1 1) (B:w.cell? ⟨n,0,none⟩=some (.int .i64 i)) (t:w.cell? ⟨n,1,none⟩=some (.int .i64 g)) (y:p.length≤1048576) (c:base≤w.heap.size)
  (h:∀v' k,Q6E k base v' (p++[(i,g)])→w.grownBy k v.ownBlock→K (a.put o.dst v') k):if Region.wanted o (yielded f a.tmps)=true then Oper.wp Tryz.prog o a w K Q else E:=by
 have z:Region.wanted o (yielded f a.tmps)=true:=by simp [Region.wanted,l]
 rw [if_pos z];obtain ⟨A,hi,q,m,r⟩:=info_parts QeG;refine wp_append_own _ s x 213 D base 172 A (.agg #[.int .i64 0,.int .i64 0]) 2 16 Tryz.underlying213 hi q m r rfl (by decide) v _ _ hs d ⟨n,0,none⟩ 1 1 [.int .i64 i,.int .i64 g] C rfl ?_ (by simp [Value.oneCell']) (by unfold maxLen;omega) (by omega) c ?_
 ·intro j u b
  match j,b with
  |0,b=> simp at b;subst b;exact B
  |1,b=> simp at b;subst b;exact t
 ·intro v' k t h2 _
  refine h v' k ?_ h2;unfold Q6E ownL
  simpa [Q85] using t
theorem assertSc (a:TypeId) (i g:Int) (w:World):Sem.run Tryz.prog (Instr.typeAssert (.iface 172 (.agg #[.int .i64 i,.int .i64 g])) a 172 false) w=.ok (.agg #[.int .i64 i,.int .i64 g]) w:=by kernel_rfl
theorem Qd8 (k:Nat) (v:Value) (l:List Sc) (i g:Int) (w:World) (d:BrdV k v w l) (n:l.length≤1000000):
  Calls Tryz.prog 211 #[.pointer (some ⟨k,0,none⟩),.iface 172 (.agg #[.int .i64 i,.int .i64 g])] w fun e t=> e=.returned (.tuple #[])∧∃z c,Brd k z c t (l++[(i,g)])∧Below k w t:=by
 obtain ⟨o,c,rfl⟩:=d.slice;have y:=d.cell;have H:=d.frozen;have r:=d.lt
 have E:∀O,(w.alloc O).cell? ⟨k,0,none⟩=some (.slice o l.length c):=fun O=> ((Below.refl w.heap.size w).alloc (Kaq _) O).cell (p:=⟨k,0,none⟩) r|>.trans y
 have C:=d.ne;have m:=d.box
 have G:=fun A=> assertSc A i g
 go_enter Tryz.func211,Tryz.ntmps211;go_wp2
 go_region_law (first|(refine Q3p rfl (.tmp 7) (.tmp 10) rfl (k+1) (.slice o l.length c) l rfl (d.row.alloc _) w.heap.size i g rfl ?h1 ?h2 ?h3 ?h4 ?_;(case h1=> simp);(case h2=> simp);(case h3=> omega);(case h4=> (show k+1≤(w.alloc _).heap.size;simp;omega));intro v8 F h j;obtain ⟨s,q,D⟩:=ownsRow_form h (by simp);rw [D] at h ⊢;have f:=Qcb m j C;have B:=Q8W f;have x:=Q63 f))
 all_goals (try go_wp2)
 all_goals go_end0
 all_goals (
  refine ⟨rfl,s,q,⟨?_, ?_⟩, ?_⟩
  ·have:=Q5l (u:=.slice (some ⟨s,0,none⟩) (l.length+1) q) f
   simpa using this
  ·exact ownsRow_setCell_below h (a:=⟨k,0,none⟩) (Nat.lt_succ_self k) _
  ·exact (Q8o r j (fun b e=> by have:=(d.row.lt b e).1;omega)).setCell (p:=⟨k,0,none⟩) (Kaq _) _)
theorem Q9t {l:List Sc} {x:Sc} (h:HeapP l l.length):Q5Y (l++[x]) (l++[x]).length l.length:=by
 have c:(l++[x]).length=l.length+1:=by simp
 rw [c];refine ⟨fun i a h2 b=> ?_,fun d i a h2 b=> by omega⟩;have:=h i a (by omega);unfold fr at *;rw [Q17 (by omega),Q17 (by omega)];exact this
theorem Q9A {l:List Sc} {x:Sc} (h:okD l) (b:okS x):okD (l++[x]):=fun i hi=> by
 have c:(l++[x]).length=l.length+1:=by simp
 rcases Nat.lt_or_ge i l.length with a|a
 ·rw [Q17 a];exact h i a
 ·rw [show i=l.length by omega,Q1Z];exact b
theorem pushH_any (k:Nat) (v:Value) (l:List Sc) (i g:Int) (w:World) (I:BrdV k v w l) (q:okD l) (G:okS (i,g)) (M:HeapP l l.length) (f:l.length≤1000000):
  Calls Tryz.prog 152 #[.iface 211 (.pointer (some ⟨k,0,none⟩)),.iface 172 (.agg #[.int .i64 i,.int .i64 g])] w fun e t=> e=.returned (.tuple #[])∧∃D c m,Brd k D c t m∧HeapP m m.length∧Go.Proofs.YtpneolgdghbinaaGreat.Same (l++[(i,g)]) m (l.length+1)∧okD m∧Below k w t:=by
 have O:∀args w,(callFunc 211 args).run Tryz.prog w=.ok (.enter 211 args) w:=enters_of Tryz.func211 (by kernel_rfl) rfl
 have P:∀args w,(callFunc 153 args).run Tryz.prog w=.ok (.enter 153 args) w:=enters_of Tryz.func153 (by kernel_rfl) rfl
 have C:=fun w=> Q3r (k:=k) (w:=w) Q9B
 have z:(l++[(i,g)]).length=l.length+1:=by simp
 go_enter Tryz.func152,Tryz.ntmps152;go_wp2_with fail;refine (Qd8 k v l i g w I f).mono ?_;rintro e x ⟨rfl,A,u,a,n⟩;have y:=Q0r Q56 a.cell;rw [z] at y;go_wp2_with (go_at_call 153;refine (dpLen_any _ _ _ _).mono ?_;rintro e R ⟨rfl,rfl⟩)
 have B:(((l.length+1:Nat):Int) - 1)=(l.length:Int):=by omega
 refine (QeL k A u (l++[(i,g)]) l.length x a (by omega) (Q9A q G) (Q9t M) (by omega)).mono ?_;rintro e F ⟨rfl,p,s,j,d,r,h⟩;have J:=a.ge;have H:=a.lt;have N:Hid (Below k w F):=n.trans ((Below.refl k x).grown h (by omega) (fun b e=> by cases e;omega))
 have E:Hid (HeapP p p.length):=by unfold Hid;rw [d.1.1];exact j
 have L:Hid (Go.Proofs.YtpneolgdghbinaaGreat.Same (l++[(i,g)]) p (l.length+1)):=by unfold Hid;rw [←z];exact d.1
 clear y C j d n h;go_wp2
 go_end0
 exact ⟨rfl,A,u,p,s,E.out,L.out,r,N.out⟩
theorem QeZ (k g c:Nat) (l:List Sc) (x y:Int) (w:World) (f:Brd k g c w (l++[(x,y)])) (q:l.length≤1000000):
  Calls Tryz.prog 210 #[.pointer (some ⟨k,0,none⟩)] w fun e t=> e=.returned (.iface 172 (.agg #[.int .i64 x,.int .i64 y]))∧Brd k g c t l∧Below k w t:=by
 have u:(l++[(x,y)]).length=l.length+1:=by simp
 have D:=f.cell;have L:=f.v.frozen;have B:=f.v.lt;rw [u] at D;have j:=f.row.rd
 rcases j with j|⟨b,off,C,z,d⟩
 ·simp at j
 cases C
 have m:=RdL.sc d l.length (by omega);rw [Q1Z] at m;simp only [Nat.zero_add] at m;obtain ⟨I,J⟩:=m;clear d
 have s:l.length+1≤c:=by
  rcases f.row.2 with ⟨i,_⟩|⟨H,r,E,i,_,_,A,_⟩
  ·simp at i
  ·simp only [Value.slice.injEq] at i
   rw [←i.2.2] at A;omega
 have h:w.ownsRow (k+1) 172 2 (.slice (some ⟨g,0,none⟩) l.length c) l.length (l.flatMap Q85.cs):=by
  have n:=f.row;unfold Q6E ownL at n;rw [u,List.flatMap_append] at n;exact ownsRow_pop (Q0n Q85 l) n
 have G:=Q01 f;have F:=Q01 h;clear f h;go_enter Tryz.func210,Tryz.ntmps210;go_wp2;go_ret;refine ⟨rfl,⟨?_, ?_⟩, ?_⟩
 ·exact (((Below.refl w.heap.size _).alloc (by simp) _).block k B).trans (Q5l G.out.box)
 ·exact (ownsRow_setCell_below F.out (a:=⟨k,0,none⟩) (Nat.lt_succ_self k) _).alloc _
 ·exact ((Below.refl k w).setCell (p:=⟨k,0,none⟩) (Kaq _) _).alloc (by simp;omega) _
theorem Q6i {l:List Sc} {n:Nat} (h:HeapP l (n+1)) (d:n+1=l.length):Q2m (Q1m l 0 n) n 0:=by
 have F:∀m,fr (Q1m l 0 n) m=if m=n then fr l 0 else if m=0 then fr l n else fr l m:=fun m=> Q42 l 0 n m (by omega) (by omega)
 refine ⟨fun c b h2 a=> ?_,fun f=> by omega⟩;rw [F,F,if_neg (by omega),if_neg a,if_neg (by omega),if_neg (by omega)];exact h c b (by omega)
theorem popH_any (k g c:Nat) (l:List Sc) (n:Nat) (w:World) (d:Brd k g c w l) (F:n+1=l.length) (v:okD l) (R:HeapP l l.length) (D:l.length≤1000000):
  Calls Tryz.prog 154 #[.iface 211 (.pointer (some ⟨k,0,none⟩))] w fun e N=> e=.returned (.iface 172 (.agg #[.int .i64 (l.getD 0 (0,0)).1,.int .i64 (l.getD 0 (0,0)).2]))∧Below k w N:=by
 have eP:∀args w,(callFunc 210 args).run Tryz.prog w=.ok (.enter 210 args) w:=enters_of Tryz.func210 (by kernel_rfl) rfl
 have eN:∀args w,(callFunc 153 args).run Tryz.prog w=.ok (.enter 153 args) w:=enters_of Tryz.func153 (by kernel_rfl) rfl
 have Y:∀args w,(callFunc 212 args).run Tryz.prog w=.ok (.enter 212 args) w:=enters_of Tryz.func212 (by kernel_rfl) rfl
 have I:=fun w=> Q3r (k:=k) (w:=w) QbH
 have U:=Q0r Q56 d.cell;have X:=Q0r Q2e d.cell
 have M:(l.length:Int) - 1=(n:Int):=by omega
 have a:=Q01 F;have P:=d.ge;have L:=d.lt;clear F;go_enter Tryz.func154,Tryz.ntmps154;go_wp2_with (first|(go_at_call 153;refine (dpLen_any _ _ _ _).mono ?_;rintro e z ⟨rfl,rfl⟩));have t:=Q3Q (k+1) g c l 0 n w d.row (by have:=a.out;omega) (by have:=a.out;omega) (by omega);refine t.mono ?_;rintro e A ⟨rfl,p,j⟩;have h:=d.swap p j;have m:Below k w A:=(Below.refl k w).grown j (by omega) (fun b e=> by cases e;omega);have E:=h.lt
 have q:=Q9b k g c (Q1m l 0 n) n A h (by rw [Q0u];have:=a.out;omega) (Q2b 0 n (by have:=a.out;omega) (by have:=a.out;omega) v) (Q6i (a.out.symm ▸ R) a.out) (by rw [Q0u];omega);clear U X t p j d;go_wp2_with fail;refine q.mono ?_;rintro e z ⟨⟨r,rfl⟩,l2,s,C,i,y,u⟩;have B:Below k w z:=m.trans ((Below.refl k A).grown u (by omega) (fun b e=> by cases e;omega))
 have O:l2.length=n+1:=by rw [i.1.1,Q0u];exact a.out.symm
 have H:l2=l2.take n++[((l2.getD n (0,0)).1,(l2.getD n (0,0)).2)]:=by
  have:=Q18 Q85 l2 n (by omega);rw [List.take_of_length_le (by omega)] at this;exact this
 have J:(l2.take n).length=n:=by simp;omega
 have f:=QeZ k g c (l2.take n) (l2.getD n (0,0)).1 (l2.getD n (0,0)).2 z (H ▸ s) (by omega)
 have G:l2.getD n (0,0)=l.getD 0 (0,0):=by
  have T:=a.out;rw [i.2 n (Kaq _),Q1a l 0 n n (by omega) (by omega),if_pos rfl]
 rw [G] at f;clear q h s C i y u H m G;go_wp2_with fail;refine f.mono ?_;rintro e Z ⟨rfl,V,x⟩;clear I f;go_wp2;go_ret;exact ⟨rfl,B.trans x⟩
end Go.Proofs.YtpneolgdghbinaaGreat.Dep
