/- Several texts in one: SHeap6, DHeap, DHeap3, DHeap4, DHeap5. -/
import Derived.WalkSmall
import Derived.Test.YtpneolgdghbinaaGreatQCrashesL16
namespace Go.Proofs.YtpneolgdghbinaaGreat
open Go.ChangeShapes Go.WideShapes Go.ChangeAt Go.RowKit Go.Joins
set_option linter.unusedVariables false
set_option linter.unusedSimpArgs false
set_option maxRecDepth 100000
set_option maxHeartbeats 40000000
theorem Q0Y {l:List Sc} {x:Sc} {i:Nat} (h:i < l.length):(l++[x]).getD i (0,0)=l.getD i (0,0):=by
 rw[KFq,List.getElem?_append_left h,<-KFq]
theorem Q1U {l:List Sc} {x:Sc}:(l++[x]).getD l.length (0,0)=x:=by
 rw[KFq,List.getElem?_append_right (Kaq _),Nat.sub_self];rfl
theorem Q93 {l:List Sc} {x:Sc} (h:HeapP l l.length):Q6l (l++[x]) (l++[x]).length l.length:=by
 have c:(l++[x]).length=l.length+1:=by simp
 rw[c];refine⟨fun i a h2 b=>?_,fun d i a h2 b=>by omega⟩;have:=h i a (by omega);unfold fr at *;rw[Q0Y (by omega),Q0Y (by omega)];exact this
theorem Q9x {l:List Sc} {x:Sc} (h:okD l) (b:okS x):okD (l++[x]):=fun i hi=>by
 have c:(l++[x]).length=l.length+1:=by simp
 rcases Nat.lt_or_ge i l.length with a|a
 ·rw[Q0Y a];exact h i a
 ·rw[show i=l.length by omega,Q1U];exact b
theorem pushH_any (k:Nat) (v:Value) (l:List Sc) (i g:Int) (w:World) (F:BrdV k v w l) (s:okD l) (L:okS (i,g)) (H:HeapP l l.length) (j:l.length<=1000000):
  Calls Tryz.prog 152 #[.iface 262 (.pointer (some ⟨k,0,none⟩)),.iface 266 (.agg #[.int .i64 i,.int .i64 g])] w fun e z=>e=.returned (.tuple #[])/\∃E c n,Brd k E c z n/\HeapP n n.length/\Same (l++[(i,g)]) n (l.length+1)/\okD n/\Below k w z:=by
 have P:∀args w,(callFunc 217 args).run Tryz.prog w=.ok (.enter 217 args) w:=enters_of Tryz.func217 (by kernel_rfl) rfl
 have O:∀args w,(callFunc 214 args).run Tryz.prog w=.ok (.enter 214 args) w:=enters_of Tryz.func214 (by kernel_rfl) rfl
 have M:=fun w=>Q3h (k:=k) (w:=w) Q8Z
 have x:(l++[(i,g)]).length=l.length+1:=by simp
 go_enter Tryz.func152,Tryz.ntmps152;go_wp2_with fail;refine(Qd6 k v l i g w F j).mono ?_;rintro e A ⟨rfl,u,t,a,m⟩;have y:=Q0q Q51 a.cell;rw[x]at y;go_wp2_with (go_at_call 214;refine(Q3p _ _ _ _).mono ?_;rintro e R ⟨rfl,rfl⟩)
 have I:(((l.length+1:Nat):Int) - 1)=(l.length:Int):=by omega
 refine(Qeu k u t (l++[(i,g)]) l.length A a (by omega) (Q9x s L) (Q93 H) (by omega)).mono ?_;rintro e N ⟨rfl,p,q,h,d,r,f⟩;have G:=a.ge;have J:=a.lt;have B:Hid (Below k w N):=m.trans ((Below.refl k A).grown f (by omega) (fun b e=>by cases e;omega))
 have C:Hid (HeapP p p.length):=by unfold Hid;rw[d.1];exact h
 have D:Hid (Same (l++[(i,g)]) p (l.length+1)):=by unfold Hid;rw[<-x];exact d
 clear y M h d m f;go_wp2
 go_end0
 exact⟨rfl,u,t,p,q,C.out,D.out,r,B.out⟩
theorem Qf2 (k g c:Nat) (l:List Sc) (x y:Int) (w:World) (f:Brd k g c w (l++[(x,y)])) (t:l.length<=1000000):
  Calls Tryz.prog 216 #[.pointer (some ⟨k,0,none⟩)] w fun e u=>e=.returned (.iface 266 (.agg #[.int .i64 x,.int .i64 y]))/\Brd k g c u l/\Below k w u:=by
 have s:(l++[(x,y)]).length=l.length+1:=by simp
 have B:=f.cell;have J:=f.v.frozen;have F:=f.v.lt;rw[s]at B;have m:=f.row.rd
 rcases m with m|⟨b,off,D,E,d⟩
 ·simp at m
 cases D
 have n:=RdL.sc d l.length (by omega);rw[Q1U]at n;simp only[Nat.zero_add]at n;obtain⟨H,I⟩:=n;clear d
 have r:l.length+1<=c:=by
  rcases f.row.2 with⟨i,_⟩|⟨L,q,C,i,_,_,G,_⟩
  ·simp at i
  ·simp only[Value.slice.injEq]at i
   rw[<-i.2.2]at G;omega
 have h:w.ownsRow (k+1) 266 2 (.slice (some ⟨g,0,none⟩) l.length c) l.length (l.flatMap Q7i.cs):=by
  have j:=f.row;unfold Q6H ownL at j;rw[s,List.flatMap_append]at j;exact ownsRow_pop (Q0l Q7i l) j
 have z:=Q02 f;have A:=Q02 h;clear f h;go_enter Tryz.func216,Tryz.ntmps216;go_wp2;go_ret;refine⟨rfl,⟨?_, ?_⟩, ?_⟩
 ·exact(((Below.refl w.heap.size _).alloc (by simp) _).block k F).trans (Q5J z.out.box)
 ·exact(ownsRow_setCell_below A.out (a:=⟨k,0,none⟩) (Nat.lt_succ_self k) _).alloc _
 ·exact((Below.refl k w).setCell (p:=⟨k,0,none⟩) (Kaq _) _).alloc (by simp;omega) _
def QiQ (l l':List Sc):Prop:=l'.length+1=l.length/\∀z,(∃i,i < l'.length/\l'.getD i (0,0)=z)↔(∃i,1<=i/\i < l.length/\l.getD i (0,0)=z)
theorem Q6c {l:List Sc} {n:Nat} (h:HeapP l (n+1)) (f:n+1=l.length):Q2c (Q1c l 0 n) n 0:=by
 have F:∀m,fr (Q1c l 0 n) m=if m=n then fr l 0 else if m=0 then fr l n else fr l m:=fun m=>Q3X l 0 n m (by omega) (by omega)
 refine⟨fun c a h2 b=>?_,fun d=>by omega⟩;rw[F,F,if_neg (by omega),if_neg b,if_neg (by omega),if_neg (by omega)];exact h c a (by omega)
theorem Q49 {l:List Sc} {n i:Nat} (h:i < n):(l.take n).getD i (0,0)=l.getD i (0,0):=by
 simp[KFq,List.getElem?_take,h]
theorem popH_any (k g c:Nat) (l:List Sc) (n:Nat) (w:World) (d:Brd k g c w l) (O:n+1=l.length) (H:okD l) (X:HeapP l l.length) (M:l.length<=1000000):
  Calls Tryz.prog 154 #[.iface 262 (.pointer (some ⟨k,0,none⟩))] w fun e P=>(∃v,e=.returned v)/\∃C,Brd k g c P C/\HeapP C C.length/\QiQ l C/\okD C/\Below k w P:=by
 have eP:∀args w,(callFunc 216 args).run Tryz.prog w=.ok (.enter 216 args) w:=enters_of Tryz.func216 (by kernel_rfl) rfl
 have eN:∀args w,(callFunc 214 args).run Tryz.prog w=.ok (.enter 214 args) w:=enters_of Tryz.func214 (by kernel_rfl) rfl
 have eS:∀args w,(callFunc 218 args).run Tryz.prog w=.ok (.enter 218 args) w:=enters_of Tryz.func218 (by kernel_rfl) rfl
 have mP:=fun w=>Q3h (k:=k) (w:=w) Qby
 have mN:=Q0q Q51 d.cell;have mS:=Q0q Q25 d.cell
 have ac:(l.length:Int) - 1=(n:Int):=by omega
 have a:=Q02 O;have V:=d.ge;have ab:=d.lt;clear O;go_enter Tryz.func154,Tryz.ntmps154;go_wp2_with (first|(go_at_call 214;refine(Q3p _ _ _ _).mono ?_;rintro e J ⟨rfl,rfl⟩));have B:=Q3s (k+1) g c l 0 n w d.row (by have:=a.out;omega) (by have:=a.out;omega) (by omega);refine B.mono ?_;rintro e I ⟨rfl,x,h⟩;have f:=d.swap x h;have p:Below k w I:=(Below.refl k w).grown h (by omega) (fun b e=>by cases e;omega);have N:=f.lt
 have s:=Q9w k g c (Q1c l 0 n) n I f (by rw[Q0u];have:=a.out;omega) (Q1W 0 n (by have:=a.out;omega) (by have:=a.out;omega) H) (Q6c (a.out.symm ▸ X) a.out) (by rw[Q0u];omega);clear mN mS B x h d;go_wp2_with fail;refine s.mono ?_;rintro e J ⟨⟨r,rfl⟩,l2,q,u,m,y,t⟩;have E:Below k w J:=p.trans ((Below.refl k I).grown t (by omega) (fun b e=>by cases e;omega))
 have aa:l2.length=n+1:=by rw[m.1,Q0u];exact a.out.symm
 have L:l2=l2.take n++[((l2.getD n (0,0)).1,(l2.getD n (0,0)).2)]:=by
  have:=Q11 Q7i l2 n (by omega);rw[List.take_of_length_le (by omega)]at this;exact this
 have j:(l2.take n).length=n:=by simp;omega
 have A:=Qf2 k g c (l2.take n) (l2.getD n (0,0)).1 (l2.getD n (0,0)).2 J (L ▸ q) (by omega)
 have R:Hid (HeapP (l2.take n) (l2.take n).length):=by
  unfold Hid;rw[j];intro i D h2;have:=u i D h2;unfold fr at *;rw[Q49 (by omega),Q49 h2];exact this
 have T:Hid (okD (l2.take n)):=fun i hi=>by rw[Q49 (by omega)];exact y i (by omega)
 have U:Hid (QiQ l (l2.take n)):=by
  refine⟨by rw[j];exact a.out,fun z=>?_⟩;rw[j]
  have D:(∃i,i < n/\(l2.take n).getD i (0,0)=z)↔(∃i,i < n/\l2.getD i (0,0)=z):=
   ⟨fun ⟨i,hi,e⟩=>⟨i,hi,by rw[<-Q49 hi];exact e⟩,fun ⟨i,hi,e⟩=>⟨i,hi,by rw[Q49 hi];exact e⟩⟩
  rw[D,m.2.1 z];have ad:=a.out
  constructor
  ·rintro⟨i,hi,e⟩
   rw[Q13 l 0 n i (by omega) (by omega),if_neg (by omega)]at e
   by_cases h0:i=0
   ·rw[if_pos h0]at e
    subst h0;exact⟨n,by omega,by omega,e⟩
   ·rw[if_neg h0]at e
    exact⟨i,by omega,by omega,e⟩
  ·rintro⟨i,Y,Z,e⟩
   by_cases h0:i=n
   ·refine⟨0,by omega, ?_⟩
    rw[Q13 l 0 n 0 (by omega) (by omega),if_neg (by omega),if_pos rfl,<-h0];exact e
   ·refine⟨i,by omega, ?_⟩
    rw[Q13 l 0 n i (by omega) (by omega),if_neg h0,if_neg (by omega)];exact e
 clear s f q u m y t L p;go_wp2_with fail;refine A.mono ?_;rintro e w3 ⟨rfl,G,F⟩;clear mP A;go_wp2;go_ret;exact⟨⟨_,rfl⟩,l2.take n,G,R.out,U.out,T.out,E.trans F⟩
end Go.Proofs.YtpneolgdghbinaaGreat
namespace Go.Proofs.YtpneolgdghbinaaGreat.Dep
open Go.ChangeShapes Go.WideShapes Go.ChangeAt Go.RowKit Go.Joins
set_option linter.unusedVariables false
set_option linter.unusedSimpArgs false
set_option maxRecDepth 100000
set_option maxHeartbeats 40000000
theorem Q21:(Tryz.prog.info? 211).map (fun i=>(i.methods.find? (fun m=>m.name== "Less")).map (fun m=>(m.path,m.func)))=some (some (#[],some (209,false))):=by kernel_rfl
theorem Q25:(Tryz.prog.info? 211).map (fun i=>(i.methods.find? (fun m=>m.name== "Swap")).map (fun m=>(m.path,m.func)))=some (some (#[],some (212,false))):=by kernel_rfl
theorem Q51:(Tryz.prog.info? 211).map (fun i=>(i.methods.find? (fun m=>m.name== "Len")).map (fun m=>(m.path,m.func)))=some (some (#[],some (153,false))):=by kernel_rfl
theorem Q8Z:(Tryz.prog.info? 211).map (fun i=>(i.methods.find? (fun m=>m.name== "Push")).map (fun m=>(m.path,m.func)))=some (some (#[],some (211,true))):=by kernel_rfl
theorem Qby:(Tryz.prog.info? 211).map (fun i=>(i.methods.find? (fun m=>m.name== "Pop")).map (fun m=>(m.path,m.func)))=some (some (#[],some (210,true))):=by kernel_rfl
theorem Qfz:Tryz.prog.underlying 211=some (.pointer 213):=Tryz.underlying211
theorem Q7O {a:String} {f:FuncId} {k:Nat} {v:Value} {w:World} (hm:(Tryz.prog.info? 211).map (fun i=>(i.methods.find? (fun m=>m.name==a)).map (fun m=>(m.path,m.func)))=some (some (#[],some (f,false))))
  (d:w.cell? ⟨k,0,none⟩=some v):Sem.run Tryz.prog (method (Tryz.prog.types.size+100) 211 (.pointer (some ⟨k,0,none⟩)) a) w=.ok (f,v) w:=by
 obtain⟨i,hi,g⟩:=Option.map_eq_some_iff.1 hm;obtain⟨m,c,b⟩:=Option.map_eq_some_iff.1 g;simp only[Prod.mk.injEq]at b;have h:=run_typeInfo (w:=w) hi;have j:=run_underlying Qfz w;unfold method;simp only[Sem.run_bind,h,Result.andThen];rw[c];simp only[b.1,b.2];simp[follow,receiverAt,Sem.run_bind,j,Place.get,Qem,asAddr,d,go_sem]
theorem Q76 {a:String} {f:FuncId} {k:Nat} {w:World} (hm:(Tryz.prog.info? 211).map (fun i=>(i.methods.find? (fun m=>m.name==a)).map (fun m=>(m.path,m.func)))=some (some (#[],some (f,true)))):
  Sem.run Tryz.prog (method (Tryz.prog.types.size+100) 211 (.pointer (some ⟨k,0,none⟩)) a) w=.ok (f,.pointer (some ⟨k,0,none⟩)) w:=by
 obtain⟨i,hi,d⟩:=Option.map_eq_some_iff.1 hm;obtain⟨m,c,b⟩:=Option.map_eq_some_iff.1 d;simp only[Prod.mk.injEq]at b;have g:=run_typeInfo (w:=w) hi;have h:=run_underlying Qfz w;unfold method;simp only[Sem.run_bind,g,Result.andThen];rw[c];simp only[b.1,b.2];simp[follow,receiverAt,Sem.run_bind,h,Place.get,go_sem]
theorem Q0q {a:String} {f:FuncId} {k:Nat} {v:Value} {w:World} (hm:(Tryz.prog.info? 211).map (fun i=>(i.methods.find? (fun m=>m.name==a)).map (fun m=>(m.path,m.func)))=some (some (#[],some (f,false))))
  (b:w.cell? ⟨k,0,none⟩=some v):Sem.run Tryz.prog (method 383 211 (.pointer (some ⟨k,0,none⟩)) a) w=.ok (f,v) w:=by
 rw[<-Q5E];exact Q7O hm b
theorem Q3h {a:String} {f:FuncId} {k:Nat} {w:World} (hm:(Tryz.prog.info? 211).map (fun i=>(i.methods.find? (fun m=>m.name==a)).map (fun m=>(m.path,m.func)))=some (some (#[],some (f,true)))):
  Sem.run Tryz.prog (method 383 211 (.pointer (some ⟨k,0,none⟩)) a) w=.ok (f,.pointer (some ⟨k,0,none⟩)) w:=by
 rw[<-Q5E];exact Q76 hm
abbrev Q6H:=ownL Q7i 172
def Q52 (a b:Sc):Bool:=if a.1=b.1 then decide (a.2 < b.2)else decide (a.1 < b.1)
theorem Q5z {w:World} {base g c:Nat} {l:List Sc} {n i:Nat} {x y:Int} (h:w.ownsRow base 172 2 (.slice (some ⟨g,0,none⟩) n c) n (l.flatMap Q7i.cs)):
  ((w.setCell ⟨g,i * 2,none⟩ (.int .i64 x)).setCell ⟨g,i * 2+1,none⟩ (.int .i64 y)).ownsRow base 172 2 (.slice (some ⟨g,0,none⟩) n c) n ((l.set i (x,y)).flatMap Q7i.cs)/\w.grownBy ((w.setCell ⟨g,i * 2,none⟩ (.int .i64 x)).setCell ⟨g,i * 2+1,none⟩ (.int .i64 y)) (some g):=by
 have b:=h.stored (i * 2) (.int .i64 x);have h2:=b.1.stored (i * 2+1) (.int .i64 y);rw[Q6b Q7i rfl (a:=(x,y)) rfl]at h2;exact⟨h2.1,Q0G b.2 h2.2⟩
theorem Q7d {w:World} {base g c:Nat} {l:List Sc} {i j:Nat} {b d f k:Int} (h:Q6H w base (.slice (some ⟨g,0,none⟩) l.length c) l) (hi:l.getD i (0,0)=(b,d)) (p:l.getD j (0,0)=(f,k)):
  Q6H ((((w.setCell ⟨g,i * 2,none⟩ (.int .i64 f)).setCell ⟨g,i * 2+1,none⟩ (.int .i64 k)).setCell ⟨g,j * 2,none⟩ (.int .i64 b)).setCell ⟨g,j * 2+1,none⟩ (.int .i64 d)).drew base (.slice (some ⟨g,0,none⟩) l.length c) (Q1c l i j)/\
   w.grownBy ((((w.setCell ⟨g,i * 2,none⟩ (.int .i64 f)).setCell ⟨g,i * 2+1,none⟩ (.int .i64 k)).setCell ⟨g,j * 2,none⟩ (.int .i64 b)).setCell ⟨g,j * 2+1,none⟩ (.int .i64 d)).drew (some g):=by
 have m:=Q5z (i:=i) (x:=f) (y:=k) h;have h2:=Q5z (i:=j) (x:=b) (y:=d) m.1;have a:=Q0G m.2 h2.2;refine⟨?_,⟨a.os,a.tape,a.output,a.size,a.block⟩⟩;have n:=h2.1.drew;unfold Q6H ownL Q1c;rw[hi,p,show((l.set i (f,k)).set j (b,d)).length=l.length by simp];exact n
theorem dpLen_any (o:Option Addr) (n c:Nat) (w:World):Calls Tryz.prog 153 #[.slice o n c] w fun e a=>e=.returned (.int .i64 n)/\w=a:=by
 go_enter Tryz.func153,Tryz.ntmps153;go_wp2;go_ret;exact⟨rfl,rfl⟩
theorem Q3v (o:Option Addr) (c:Nat) (l:List Sc) (i j:Nat) (w:World) (C:Nat) (h:RdL Q7i C w o l) (hi:i < l.length) (A:j < l.length) (r:l.length<=1048576):
  Calls Tryz.prog 209 #[.slice o l.length c,.int .i64 i,.int .i64 j] w fun e D=>e=.returned (.bool (Q52 (l.getD i (0,0)) (l.getD j (0,0))))/\∃q,D=w.drewN q:=by
 rcases h with h|⟨b,off,rfl,z,a⟩
 ·subst h;simp at hi
 have n:=RdL.sc a i hi;have p:=RdL.sc a j A;clear a;generalize l.getD i (0,0)=x at *;generalize l.getD j (0,0)=y at *;obtain⟨d,k⟩:=x;obtain⟨f,m⟩:=y;dsimp only at n p;obtain⟨s,t⟩:=n;obtain⟨u,v⟩:=p
 have E:(i:Int) < (l.length:Int):=by omega
 have F:(j:Int) < (l.length:Int):=by omega
 by_cases hs:d=f
 ·have B:(d !=f)=false:=by simp[hs]
  have g:=Q02 (show decide (k < m)=Q52 (d,k) (f,m)by simp[Q52,hs]);clear hs;go_enter Tryz.func209,Tryz.ntmps209;go_wp2
  go_quiet (fail)
  go_wp2
  go_quiet (fail)
  go_wp2;go_ret;exact⟨Q08 g.out,_,(World.drewN_drewN _ _ _)⟩
 ·have B:(d !=f)=true:=by simp[hs]
  have g:=Q02 (show decide (d < f)=Q52 (d,k) (f,m)by simp[Q52,hs]);clear hs;go_enter Tryz.func209,Tryz.ntmps209;go_wp2
  go_quiet (fail)
  go_wp2
  go_quiet (fail)
  go_wp2;go_ret;exact⟨Q08 g.out,_,(World.drewN_drewN _ _ _)⟩
theorem Q3x (base g c:Nat) (l:List Sc) (i j:Nat) (w:World) (a:Q6H w base (.slice (some ⟨g,0,none⟩) l.length c) l) (hi:i < l.length) (O:j < l.length) (f:l.length<=1048576):
  Calls Tryz.prog 212 #[.slice (some ⟨g,0,none⟩) l.length c,.int .i64 i,.int .i64 j] w fun e z=>e=.returned (.tuple #[])/\Q6H z base (.slice (some ⟨g,0,none⟩) l.length c) (Q1c l i j)/\w.grownBy z (some g):=by
 have s:=a.rd
 rcases s with s|⟨b,off,F,M,d⟩
 ·subst s;simp at hi
 cases F
 have m:=RdL.sc d i hi;have n:=RdL.sc d j O;clear d;simp only[Nat.zero_add]at m n
 have z1:(i:Int) < (l.length:Int):=by omega
 have z2:(j:Int) < (l.length:Int):=by omega
 have G:=a.frozenAt (i * 2);have H:=a.frozenAt (i * 2+1);have I:=a.frozenAt (j * 2);have J:=a.frozenAt (j * 2+1);have C:=Q02 a;clear a;have T:=Q02 (show(l.set i (l.getD j (0,0))).set j (l.getD i (0,0))=Q1c l i j from rfl);have R:=Q02 f;generalize hgi:l.getD i (0,0)=x at *;generalize hgj:l.getD j (0,0)=y at *;have h:=Q02 hgi;have k:=Q02 hgj;clear hgi hgj;obtain⟨P,Z⟩:=x;obtain⟨A,B⟩:=y;dsimp only at m n;obtain⟨D,E⟩:=m;obtain⟨q,r⟩:=n;obtain⟨U,t⟩:=Q0C (w:=w) (p:=⟨g,i * 2,none⟩) (x:=.int .i64 A) q
 obtain⟨V,u⟩:=Q0C (w:=w) (p:=⟨g,i * 2,none⟩) (x:=.int .i64 A) r;obtain⟨b0,L⟩:=Q0C (p:=⟨g,i * 2+1,none⟩) (x:=.int .i64 B) t;obtain⟨X,v⟩:=Q0C (p:=⟨g,i * 2+1,none⟩) (x:=.int .i64 B) u;obtain⟨Y,N⟩:=Q0C (p:=⟨g,j * 2,none⟩) (x:=.int .i64 P) v;go_enter Tryz.func212,Tryz.ntmps212;go_wp2
 go_region
 all_goals (try go_wp2)
 all_goals go_end0
 all_goals exact⟨rfl,Q7d C.out h.out k.out⟩
def Q45 (a:Sc):Int:=16 * a.1+a.2
def okS (a:Sc):Prop:=0<=a.2/\a.2 < 16
theorem Q0I {a b:Sc} (f:okS a) (g:okS b):Q52 a b=decide (Q45 a < Q45 b):=by
 obtain⟨c,i⟩:=a;obtain⟨d,j⟩:=b;unfold okS at f g;unfold Q52 Q45;dsimp only at *
 by_cases h:c=d
 ·rw[if_pos h];congr 1;apply propext;constructor <;> intro <;> omega
 ·rw[if_neg h];congr 1;apply propext;constructor <;> intro <;> omega
def Same (l l':List Sc) (n:Nat):Prop:=Go.Proofs.YtpneolgdghbinaaGreat.Same l l' n/\∀i,n<=i->l'.getD i (0,0)=l.getD i (0,0)
theorem Same.refl (l:List Sc) (n:Nat):Same l l n:=⟨Go.Proofs.YtpneolgdghbinaaGreat.Same.refl l n,fun _ _=>rfl⟩
theorem Same.trans {a b c:List Sc} {n:Nat} (h:Same a b n) (k:Same b c n):Same a c n:=⟨Go.Proofs.YtpneolgdghbinaaGreat.Same.trans h.1 k.1,fun i hi=>(k.2 i hi).trans (h.2 i hi)⟩
theorem swapD_same {l:List Sc} (i j n:Nat) (hi:i < n) (a:j < n) (b:n<=l.length):Same l (Q1c l i j) n:=
 ⟨Go.Proofs.YtpneolgdghbinaaGreat.swapD_same i j n hi a b,fun m hm=>by rw[Q13 l i j m (by omega) (by omega),if_neg (by omega),if_neg (by omega)]⟩
abbrev fr (l:List Sc) (i:Nat):Int:=Q45 (l.getD i (0,0))
def okD (l:List Sc):Prop:=∀i,i < l.length->okS (l.getD i (0,0))
def HeapP (l:List Sc) (n:Nat):Prop:=∀i,1<=i->i < n->fr l ((i - 1) / 2)<=fr l i
def Q6l (l:List Sc) (n j:Nat):Prop:=(∀i,1<=i->i < n->i≠j->fr l ((i - 1) / 2)<=fr l i)/\(1<=j->∀i,1<=i->i < n->(i - 1) / 2=j->fr l ((j - 1) / 2)<=fr l i)
def Q2c (l:List Sc) (n i:Nat):Prop:=(∀c,1<=c->c < n->(c - 1) / 2≠i->fr l ((c - 1) / 2)<=fr l c)/\(1<=i->∀c,1<=c->c < n->(c - 1) / 2=i->fr l ((i - 1) / 2)<=fr l c)
theorem Q3X (l:List Sc) (i j m:Nat) (hi:i < l.length) (a:j < l.length):fr (Q1c l i j) m=if m=j then fr l i else if m=i then fr l j else fr l m:=by
 unfold fr;rw[Q13 l i j m hi a];split
 ·rfl
 ·split <;> rfl
theorem Q1W {l:List Sc} (i j:Nat) (hi:i < l.length) (a:j < l.length) (h:okD l):okD (Q1c l i j):=fun m hm=>by
 rw[Q0u]at hm;rw[Q13 l i j m hi a]
 split
 ·exact h i hi
 ·split
  ·exact h j a
  ·exact h m hm
theorem Q7e {l:List Sc} {n j:Nat} (h:Q6l l n j) (c:j=0\/fr l ((j - 1) / 2)<=fr l j):HeapP l n:=fun i b h2=>by
 by_cases e:i=j
 ·subst e
  rcases c with a|a
  ·omega
  ·exact a
 ·exact h.1 i b h2 e
theorem QbO {l:List Sc} {n j p:Nat} (h:Q6l l n j) (f:p=(j - 1) / 2) (c:1<=j) (q:j < n) (t:n<=l.length) (r:fr l j < fr l p):Q6l (Q1c l p j) n p:=by
 have u:p < j:=by omega
 have F:∀m,fr (Q1c l p j) m=if m=j then fr l p else if m=p then fr l j else fr l m:=fun m=>Q3X l p j m (by omega) (by omega)
 refine⟨fun i a h2 b=>?_,fun d i a h2 b=>?_⟩
 ·by_cases e1:i=j
  ·subst e1
   rw[F,F,if_pos rfl,<-f,if_neg (by omega),if_pos rfl];omega
  ·by_cases e2:(i - 1) / 2=j
   ·rw[e2,F,F,if_pos rfl,if_neg e1,if_neg b]
    have:=h.2 c i a h2 e2;rw[<-f]at this;exact this
   ·by_cases e3:(i - 1) / 2=p
    ·have:=h.1 i a h2 e1
     rw[e3]at this ⊢;rw[F,F,if_neg (by omega),if_pos rfl,if_neg e1,if_neg b];omega
    ·have:=h.1 i a h2 e1
     rw[F,F,if_neg e2,if_neg e3,if_neg e1,if_neg b];exact this
 ·have s:(p - 1) / 2 < p:=by omega
  have g:=h.1 p d (by omega) (by omega);rw[F ((p - 1) / 2),if_neg (by omega),if_neg (by omega),F i]
  by_cases e1:i=j
  ·rw[if_pos e1];exact g
  ·rw[if_neg e1,if_neg (by omega)]
   have k:=h.1 i a h2 e1;rw[b]at k;omega
theorem Q23 {l:List Sc} {n i:Nat} (h:Q2c l n i) (hc:∀c,1<=c->c < n->(c - 1) / 2=i->fr l i<=fr l c):HeapP l n:=fun c h1 h2=>by
 by_cases e:(c - 1) / 2=i
 ·rw[e];exact hc c h1 h2 e
 ·exact h.1 c h1 h2 e
theorem Q2L {l:List Sc} {n i j:Nat} (h:Q2c l n i) (f:1<=j) (g:j < n) (k:(j - 1) / 2=i) (r:n<=l.length) (q:fr l j < fr l i) (a:∀c,1<=c->c < n->(c - 1) / 2=i->fr l j<=fr l c):Q2c (Q1c l i j) n j:=by
 have s:i < j:=by omega
 have F:∀m,fr (Q1c l i j) m=if m=j then fr l i else if m=i then fr l j else fr l m:=fun m=>Q3X l i j m (by omega) (by omega)
 refine⟨fun c b h2 d=>?_,fun _ c b h2 d=>?_⟩
 ·by_cases e1:(c - 1) / 2=i
  ·rw[e1,F i,if_neg (by omega),if_pos rfl,F c]
   by_cases e2:c=j
   ·rw[if_pos e2];omega
   ·rw[if_neg e2,if_neg (by omega)];exact a c b h2 e1
  ·rw[F ((c - 1) / 2),if_neg d,if_neg e1,F c]
   have p:=h.1 c b h2 e1
   by_cases e2:c=j
   ·subst e2;omega
   ·rw[if_neg e2]
    by_cases e3:c=i
    ·subst e3
     rw[if_pos rfl];have:=h.2 b j f g k;exact this
    ·rw[if_neg e3];exact p
 ·rw[k,F i,if_neg (by omega),if_pos rfl,F c,if_neg (by omega),if_neg (by omega)]
  have:=h.1 c b h2 (by omega);rw[d]at this;exact this
theorem heap_top {l:List Sc} {n:Nat} (h:HeapP l n):∀i,i < n->fr l 0<=fr l i:=fun i=>by
 induction i using Nat.strongRecOn with
 |_ i ih=>
  intro hi
  by_cases h0:i=0
  ·subst h0;exact Int.le_refl _
  ·exact Int.le_trans (ih ((i - 1) / 2) (by omega) (by omega)) (h i (by omega) hi)
structure Brd (k g c:Nat) (w:World) (l:List Sc):Prop where
 box:w.heap[k]? =some (.cells #[.slice (some ⟨g,0,none⟩) l.length c] 213 (0,0))
 row:Q6H w (k+1) (.slice (some ⟨g,0,none⟩) l.length c) l
theorem Brd.cell {k g c:Nat} {w:World} {l:List Sc} (h:Brd k g c w l):w.cell? ⟨k,0,none⟩=some (.slice (some ⟨g,0,none⟩) l.length c):=by
 simp[World.cell?,h.box]
theorem Brd.ge {k g c:Nat} {w:World} {l:List Sc} (h:Brd k g c w l):k+1<=g:=(h.row.lt g rfl).1
theorem Brd.lt {k g c:Nat} {w:World} {l:List Sc} (h:Brd k g c w l):g < w.heap.size:=(h.row.lt g rfl).2
theorem Brd.drewN {k g c:Nat} {w:World} {l:List Sc} (h:Brd k g c w l) (q:Nat):Brd k g c (w.drewN q) l:=⟨h.box,h.row⟩
theorem Brd.swap {k g c:Nat} {w b:World} {l:List Sc} {i j:Nat} (h:Brd k g c w l) (f:Q6H b (k+1) (.slice (some ⟨g,0,none⟩) l.length c) (Q1c l i j)) (d:w.grownBy b (some g)):Brd k g c b (Q1c l i j):=by
 refine⟨?_,by rw[Q0u];exact f⟩;rw[Q0u];have a:k < w.heap.size:=(KEq h.box);exact(d.block k a (by have:=h.ge;simp;omega)).trans h.box
theorem Qeu (k g c:Nat) (l:List Sc) (j:Nat) (w:World) (hb:Brd k g c w l) (hj:j < l.length) (hok:okD l) (hinv:Q6l l l.length j) (hlen:l.length<=1048576):
  Calls Tryz.prog 179 #[.iface 211 (.pointer (some ⟨k,0,none⟩)),.int .i64 j] w fun e w'=>e=.returned (.tuple #[])/\∃l',Brd k g c w' l'/\HeapP l' l.length/\Same l l' l.length/\okD l'/\w.grownBy w' (some g):=by
 have eL:∀args w,(callFunc 209 args).run Tryz.prog w=.ok (.enter 209 args) w:=enters_of Tryz.func209 (by kernel_rfl) rfl
 have eS:∀args w,(callFunc 212 args).run Tryz.prog w=.ok (.enter 212 args) w:=enters_of Tryz.func212 (by kernel_rfl) rfl
 go_enter Tryz.func179,Tryz.ntmps179;go_wp2
 go_loopw [1] (fun jv wr=> ∃(q:Nat) (lq:List Sc),jv=.int .i64 q/\q < l.length/\lq.length=l.length/\Brd k g c wr lq/\Q6l lq l.length q/\Same l lq l.length/\okD lq/\w.grownBy wr (some g))
  (fun jv _=>(intOf jv).toNat)
 case atStart=>exact⟨j,l,rfl,hj,rfl,hb,hinv,Same.refl _ _,hok,World.grownBy.refl _ _⟩
 case round=>
  obtain⟨q,lq,rfl,hq,hlq,hbq,hiq,hsq,hoq,hgq⟩:=hrel;have hcell:=hbq.cell
  rcases Nat.eq_zero_or_pos q with h0|h0
  ·subst h0
   have HF:=Q02 (Q7e hiq (.inl rfl));go_wp2
   go_end0
   exact⟨rfl,lq,hbq,HF.out,hsq,hoq,hgq⟩
  ·obtain⟨p,hp⟩:∃p,p=(q - 1) / 2:=⟨_,rfl⟩
   have hpi:((q:Int) - 1) / 2=(p:Int):=by omega
   have hpq:p < q:=by omega
   have HP:=Q02 hp;clear hp
   have mL:∀n,Sem.run Tryz.prog (method 383 211 (.pointer (some ⟨k,0,none⟩)) "Less") (wr.drewN n)=.ok (209,.slice (some ⟨g,0,none⟩) lq.length c) (wr.drewN n):=fun n=>Q0q Q21 (hbq.drewN n).cell
   have mL0:Sem.run Tryz.prog (method 383 211 (.pointer (some ⟨k,0,none⟩)) "Less") wr=.ok (209,.slice (some ⟨g,0,none⟩) lq.length c) wr:=Q0q Q21 hcell
   have mS:∀n,Sem.run Tryz.prog (method 383 211 (.pointer (some ⟨k,0,none⟩)) "Swap") (wr.drewN n)=.ok (212,.slice (some ⟨g,0,none⟩) lq.length c) (wr.drewN n):=fun n=>Q0q Q25 (hbq.drewN n).cell
   have hle:=Q3v (some ⟨g,0,none⟩) c lq q p wr wr.heap.size hbq.row.rd (by omega) (by omega) (by omega);rw[Q0I (hoq q (by omega)) (hoq p (by omega))]at hle
   have qp:¬((p:Int)=(q:Int)):=by omega
   have qpb:((p:Int)==(q:Int))=false:=by simp;omega
   by_cases hlt:fr lq q < fr lq p
   ·rw[decide_eq_true hlt]at hle
    have HS:=Q02 (fun m=>Q3x (k+1) g c lq p q (wr.drewN m) (hbq.drewN m).row (by omega) (by omega) (by omega));have HU:=Q02 (QbO hiq HP.out (by omega) (by omega) (by omega) hlt);have HM:=Q02 (Same.trans hsq (swapD_same (l:=lq) p q l.length (by omega) (by omega) (by omega)));have HO:=Q02 (Q1W p q (by omega) (by omega) hoq);have HG:=Q02 hgq;have HB:=Q02 hbq;have HLQ:=Q02 hlq;clear hgq hbq hiq hsq hoq hlt hcell hlq;go_wp2_with (first|(go_at_call 209;refine hle.mono ?_;rintro e w1 ⟨rfl,m1,rfl⟩)|(go_at_call 212;refine(HS.out _).mono ?_;rintro e w2 ⟨rfl,ho2,hg2⟩;clear mL mL0 mS));go_roundw
    case rel=>exact⟨p,Q1c lq p q,rfl,by omega,by rw[Q0u];exact HLQ.out,(HB.out.drewN m1).swap ho2 hg2,HU.out,HM.out,HO.out,Q0G HG.out (Q0G (Q1g wr m1 _) hg2)⟩
    case measure=>simp[intOf];omega
   ·rw[decide_eq_false hlt]at hle
    have HF:=Q02 (Q7e hiq (.inr (by rw[<-HP.out];omega)));have HG:=Q02 hgq;have HB:=Q02 hbq;clear hgq hbq hiq hlt hcell hlq;go_wp2_with (first|(go_at_call 209;refine hle.mono ?_;rintro e w1 ⟨rfl,m1,rfl⟩))
    go_end0
    exact⟨rfl,lq,HB.out.drewN _,HF.out,hsq,hoq,Q0G HG.out (Q1g wr _ _)⟩
theorem Q9w (k g c:Nat) (l:List Sc) (n:Nat) (w:World) (hb:Brd k g c w l) (hn:n<=l.length) (ac:okD l) (aa:Q2c l n 0) (ae:l.length<=1048576):
  Calls Tryz.prog 180 #[.iface 211 (.pointer (some ⟨k,0,none⟩)),.int .i64 0,.int .i64 n] w fun e w'=>(∃r,e=.returned (.bool r))/\∃l',Brd k g c w' l'/\HeapP l' n/\Same l l' n/\okD l'/\w.grownBy w' (some g):=by
 have eL:∀args w,(callFunc 209 args).run Tryz.prog w=.ok (.enter 209 args) w:=enters_of Tryz.func209 (by kernel_rfl) rfl
 have eS:∀args w,(callFunc 212 args).run Tryz.prog w=.ok (.enter 212 args) w:=enters_of Tryz.func212 (by kernel_rfl) rfl
 go_enter Tryz.func180,Tryz.ntmps180;go_wp2
 go_loopw [7] (fun iv wr=> ∃(q:Nat) (d:List Sc),iv=.int .i64 q/\q<=n/\d.length=l.length/\Brd k g c wr d/\Q2c d n q/\Same l d n/\okD d/\w.grownBy wr (some g))
  (fun iv _=>n - (intOf iv).toNat)
 case atStart=>exact⟨0,l,rfl,Kcq _,rfl,hb,aa,Same.refl _ _,ac,World.grownBy.refl _ _⟩
 case round=>
  obtain⟨q,d,rfl,hq,u,v,i,j,b,Z⟩:=hrel;have y:=v.cell;have J:=Q02 u;have f:=Q02 v;have I:=Q02 Z
  have mL:=fun m=>Q0q Q21 (v.drewN m).cell
  have M:=Q0q Q21 y
  have N:=fun m m'=>Q0q Q21 ((v.drewN m).drewN m').cell
  have mS:=fun m=>Q0q Q25 (v.drewN m).cell
  have O:=Q0q Q25 y
  have P:=fun m m'=>Q0q Q25 ((v.drewN m).drewN m').cell
  obtain⟨h,A⟩:∃h:Nat,h=2 * q+1:=⟨_,rfl⟩;obtain⟨p,B⟩:∃p:Nat,p=h+1:=⟨_,rfl⟩
  have e1:2 * (q:Int)+1=(h:Int):=by omega
  have e2:(h:Int)+1=(p:Int):=by omega
  have z:True:=trivial;clear Z v y
  by_cases hA:h < n
  ·have ab:¬(n:Int)<=(h:Int):=by omega
   have af:¬(h:Int) < 0:=by omega
   by_cases hB2:p < n
   ·have R:=fun W (C:Brd k g c W d)=>Q3v (some ⟨g,0,none⟩) c d p h W W.heap.size C.row.rd (by omega) (by omega) (by omega)
    by_cases hl2:fr d p < fr d h
    ·rw[Q0I (b p (by omega)) (b h (by omega)),decide_eq_true hl2]at R
     have T:=Q02 R;clear R
     have a:∀x,1<=x->x < n->(x - 1) / 2=q->fr d p<=fr d x:=fun x F h2 G=>by rcases(show x=h\/x=p by omega)with e|e <;> subst e <;> omega
     have s:=fun W (C:Brd k g c W d)=>Q3v (some ⟨g,0,none⟩) c d p q W W.heap.size C.row.rd (by omega) (by omega) (by omega)
     by_cases hlt:fr d p < fr d q
     ·rw[Q0I (b p (by omega)) (b q (by omega)),decide_eq_true hlt]at s
      have D:=Q02 s;have X:=Q02 (fun W (C:Brd k g c W d)=>Q3x (k+1) g c d q p W C.row (by omega) (by omega) (by omega));have Y:=Q02 (Q2L i (by omega) (by omega) (by omega) (by omega) hlt a);have U:=Q02 (Same.trans j (swapD_same (l:=d) q p n (by omega) (by omega) (by omega)));have V:=Q02 (Q1W q p (by omega) (by omega) b);clear s i j b hlt a u z A B
      go_wp2_with (first|(go_at_call_of 209 (Value.int .i64 (q:Int));refine(D.out _ (by first|exact f.out|exact f.out.drewN _)).mono ?_;rintro e w2 ⟨rfl,L,rfl⟩)|(go_at_call 209;refine(T.out _ (by first|exact f.out|exact f.out.drewN _)).mono ?_;rintro e w1 ⟨rfl,m1,rfl⟩)|(go_at_call 212;refine(X.out _ (by first|exact f.out|exact f.out.drewN _|exact(f.out.drewN _).drewN _)).mono ?_;rintro e w3 ⟨rfl,E,t⟩;clear mL M mS O P N));go_roundw
      case rel=>exact⟨p,Q1c d q p,rfl,by omega,by rw[Q0u];exact J.out,Brd.swap (f.out.drewN _) E t,Y.out,U.out,V.out,Q0G I.out (Q0G (Q1g wr _ _) t)⟩
      case measure=>simp[intOf];omega
     ·rw[Q0I (b p (by omega)) (b q (by omega)),decide_eq_false hlt]at s
      have D:=Q02 s;have H:=Q02 (Q23 i (fun x F h2 G=>by have:=a x F h2 G;omega));clear s i hlt a u z A B;go_wp2_with (first|(go_at_call_of 209 (Value.int .i64 (q:Int));refine(D.out _ (by first|exact f.out|exact f.out.drewN _)).mono ?_;rintro e w2 ⟨rfl,L,rfl⟩)|(go_at_call 209;refine(T.out _ (by first|exact f.out|exact f.out.drewN _)).mono ?_;rintro e w1 ⟨rfl,m1,rfl⟩));go_ret;exact⟨⟨_,rfl⟩,d,f.out.drewN _,H.out,j,b,Q0G I.out (Q1g wr _ _)⟩
    ·rw[Q0I (b p (by omega)) (b h (by omega)),decide_eq_false hl2]at R
     have T:=Q02 R;clear R
     have a:∀x,1<=x->x < n->(x - 1) / 2=q->fr d h<=fr d x:=fun x F h2 G=>by rcases(show x=h\/x=p by omega)with e|e <;> subst e <;> omega
     have s:=fun W (C:Brd k g c W d)=>Q3v (some ⟨g,0,none⟩) c d h q W W.heap.size C.row.rd (by omega) (by omega) (by omega)
     by_cases hlt:fr d h < fr d q
     ·rw[Q0I (b h (by omega)) (b q (by omega)),decide_eq_true hlt]at s
      have D:=Q02 s;have X:=Q02 (fun W (C:Brd k g c W d)=>Q3x (k+1) g c d q h W C.row (by omega) (by omega) (by omega));have Y:=Q02 (Q2L i (by omega) (by omega) (by omega) (by omega) hlt a);have U:=Q02 (Same.trans j (swapD_same (l:=d) q h n (by omega) (by omega) (by omega)));have V:=Q02 (Q1W q h (by omega) (by omega) b);clear s i j b hlt a u z A B
      go_wp2_with (first|(go_at_call_of 209 (Value.int .i64 (q:Int));refine(D.out _ (by first|exact f.out|exact f.out.drewN _)).mono ?_;rintro e w2 ⟨rfl,L,rfl⟩)|(go_at_call 209;refine(T.out _ (by first|exact f.out|exact f.out.drewN _)).mono ?_;rintro e w1 ⟨rfl,m1,rfl⟩)|(go_at_call 212;refine(X.out _ (by first|exact f.out|exact f.out.drewN _|exact(f.out.drewN _).drewN _)).mono ?_;rintro e w3 ⟨rfl,E,t⟩;clear mL M mS O P N));go_roundw
      case rel=>exact⟨h,Q1c d q h,rfl,by omega,by rw[Q0u];exact J.out,Brd.swap (f.out.drewN _) E t,Y.out,U.out,V.out,Q0G I.out (Q0G (Q1g wr _ _) t)⟩
      case measure=>simp[intOf];omega
     ·rw[Q0I (b h (by omega)) (b q (by omega)),decide_eq_false hlt]at s
      have D:=Q02 s;have H:=Q02 (Q23 i (fun x F h2 G=>by have:=a x F h2 G;omega));clear s i hlt a u z A B;go_wp2_with (first|(go_at_call_of 209 (Value.int .i64 (q:Int));refine(D.out _ (by first|exact f.out|exact f.out.drewN _)).mono ?_;rintro e w2 ⟨rfl,L,rfl⟩)|(go_at_call 209;refine(T.out _ (by first|exact f.out|exact f.out.drewN _)).mono ?_;rintro e w1 ⟨rfl,m1,rfl⟩));go_ret;exact⟨⟨_,rfl⟩,d,f.out.drewN _,H.out,j,b,Q0G I.out (Q1g wr _ _)⟩
   ·have ad:¬(p:Int) < (n:Int):=by omega
    have a:∀x,1<=x->x < n->(x - 1) / 2=q->fr d h<=fr d x:=fun x F h2 G=>by rcases(show x=h by omega)with rfl;omega
    have s:=fun W (C:Brd k g c W d)=>Q3v (some ⟨g,0,none⟩) c d h q W W.heap.size C.row.rd (by omega) (by omega) (by omega)
    by_cases hlt:fr d h < fr d q
    ·rw[Q0I (b h (by omega)) (b q (by omega)),decide_eq_true hlt]at s
     have D:=Q02 s;have X:=Q02 (fun W (C:Brd k g c W d)=>Q3x (k+1) g c d q h W C.row (by omega) (by omega) (by omega));have Y:=Q02 (Q2L i (by omega) (by omega) (by omega) (by omega) hlt a);have U:=Q02 (Same.trans j (swapD_same (l:=d) q h n (by omega) (by omega) (by omega)));have V:=Q02 (Q1W q h (by omega) (by omega) b);clear s i j b hlt a u z A B
     go_wp2_with (first|(go_at_call_of 209 (Value.int .i64 (q:Int));refine(D.out _ (by first|exact f.out|exact f.out.drewN _)).mono ?_;rintro e w2 ⟨rfl,L,rfl⟩)|(go_at_call 212;refine(X.out _ (by first|exact f.out|exact f.out.drewN _|exact(f.out.drewN _).drewN _)).mono ?_;rintro e w3 ⟨rfl,E,t⟩;clear mL M mS O P N));go_roundw
     case rel=>exact⟨h,Q1c d q h,rfl,by omega,by rw[Q0u];exact J.out,Brd.swap (f.out.drewN L) E t,Y.out,U.out,V.out,Q0G I.out (Q0G (Q1g wr _ _) t)⟩
     case measure=>simp[intOf];omega
    ·rw[Q0I (b h (by omega)) (b q (by omega)),decide_eq_false hlt]at s
     have D:=Q02 s;have H:=Q02 (Q23 i (fun x F h2 G=>by have:=a x F h2 G;omega));clear s i hlt a u z A B;go_wp2_with (first|(go_at_call_of 209 (Value.int .i64 (q:Int));refine(D.out _ (by first|exact f.out|exact f.out.drewN _)).mono ?_;rintro e w2 ⟨rfl,L,rfl⟩));go_ret;exact⟨⟨_,rfl⟩,d,f.out.drewN L,H.out,j,b,Q0G I.out (Q1g wr _ _)⟩
  ·have ab:(n:Int)<=(h:Int):=by omega
   have H:=Q02 (Q23 i (fun x F h2 G=>by omega));clear i u z A B;go_wp2;go_ret;exact⟨⟨_,rfl⟩,d,f.out,H.out,j,b,I.out⟩
theorem QeR:(Tryz.prog.info? 172).map (fun i=>(i.zero,i.size,i.bytes))=some (some (.agg #[.int .i64 0,.int .i64 0]),2,16):=by kernel_rfl
structure BrdV (k:Nat) (v:Value) (w:World) (l:List Sc):Prop where
 box:w.heap[k]? =some (.cells #[v] 213 (0,0))
 row:Q6H w (k+1) v l
theorem Brd.v {k g c:Nat} {w:World} {l:List Sc} (h:Brd k g c w l):BrdV k (.slice (some ⟨g,0,none⟩) l.length c) w l:=⟨h.box,h.row⟩
theorem BrdV.cell {k:Nat} {v:Value} {w:World} {l:List Sc} (h:BrdV k v w l):w.cell? ⟨k,0,none⟩=some v:=by simp[World.cell?,h.box]
theorem BrdV.frozen {k:Nat} {v:Value} {w:World} {l:List Sc} (h:BrdV k v w l):w.frozen? ⟨k,0,none⟩=false:=by simp[World.frozen?,h.box]
theorem BrdV.lt {k:Nat} {v:Value} {w:World} {l:List Sc} (h:BrdV k v w l):k < w.heap.size:=(KEq h.box)
theorem BrdV.slice {k:Nat} {v:Value} {w:World} {l:List Sc} (h:BrdV k v w l):∃o c,v=.slice o l.length c:=by
 obtain⟨o,c,e,_⟩:=h.row.open;exact⟨o,c,e⟩
theorem BrdV.ne {k:Nat} {v:Value} {w:World} {l:List Sc} (h:BrdV k v w l):some k≠v.ownBlock:=fun e=>by have:=(h.row.lt k e.symm).1;omega
theorem Q9I {w:World} {k:Nat} {v:Value} (h:w.heap[k]? =some (.cells #[v] 213 (0,0))):w.cell? ⟨k,0,none⟩=some v:=by simp[World.cell?,h]
theorem Q6d {w:World} {k:Nat} {v:Value} (h:w.heap[k]? =some (.cells #[v] 213 (0,0))):w.frozen? ⟨k,0,none⟩=false:=by simp[World.frozen?,h]
theorem Q5J {w:World} {k:Nat} {v u:Value} (h:w.heap[k]? =some (.cells #[v] 213 (0,0))):(w.setCell ⟨k,0,none⟩ u).heap[k]? =some (.cells #[u] 213 (0,0)):=by
 simp[World.setCell,Array.getElem?_modify,h]
theorem Q3c {f:Array Oper} {o:Oper} {a:Act} {w:World} {K:Act->World->Prop} {Q:Exit->Act->World->Prop} {E:Prop} (p:o.guard=none) (s x:Operand)
  (B:o.op=.call { callee:=.builtin .append,args:=#[s,x],argTypes:=#[213,213] }) (base:Nat) (v:Value) (y:List Sc) (hs:a.eval s=v) (d:Q6H w base v y)
  (n:Nat) (i g:Int) (D:a.eval x=.slice (some ⟨n,0,none⟩) 1 1) (A:w.cell? ⟨n,0,none⟩=some (.int .i64 i)) (m:w.cell? ⟨n,1,none⟩=some (.int .i64 g)) (z:y.length<=1048576) (b:base<=w.heap.size)
  (h:∀l k,Q6H k base l (y++[(i,g)])->w.grownBy k v.ownBlock->K (a.put o.dst l) k):if Region.wanted o (yielded f a.tmps)=true then Oper.wp Tryz.prog o a w K Q else E:=by
 have C:Region.wanted o (yielded f a.tmps)=true:=by simp[Region.wanted,p]
 rw[if_pos C];obtain⟨F,hi,q,r,t⟩:=info_parts QeR;refine wp_append_own _ s x 213 B base 172 F (.agg #[.int .i64 0,.int .i64 0]) 2 16 Tryz.underlying213 hi q r t rfl (by decide) v _ _ hs d ⟨n,0,none⟩ 1 1 [.int .i64 i,.int .i64 g] D rfl ?_ (by simp[Value.oneCell']) (by unfold maxLen;omega) (by omega) b ?_
 ·intro j u c
  match j,c with
  |0,c=>simp at c;subst c;exact A
  |1,c=>simp at c;subst c;exact m
 ·intro l k m h2 _
  refine h l k ?_ h2;unfold Q6H ownL
  simpa[Q7i]using m
theorem assertSc (a:TypeId) (i g:Int) (w:World):Sem.run Tryz.prog (Instr.typeAssert (.iface 172 (.agg #[.int .i64 i,.int .i64 g])) a 172 false) w=.ok (.agg #[.int .i64 i,.int .i64 g]) w:=by kernel_rfl
theorem Qdw (k:Nat) (v:Value) (l:List Sc) (i g:Int) (w:World) (d:BrdV k v w l) (s:l.length<=1000000):
  Calls Tryz.prog 211 #[.pointer (some ⟨k,0,none⟩),.iface 172 (.agg #[.int .i64 i,.int .i64 g])] w fun e t=>e=.returned (.tuple #[])/\∃C c,Brd k C c t (l++[(i,g)])/\Below k w t:=by
 obtain⟨o,c,rfl⟩:=d.slice;have y:=d.cell;have F:=d.frozen;have r:=d.lt
 have E:∀O,(w.alloc O).cell? ⟨k,0,none⟩=some (.slice o l.length c):=fun O=>((Below.refl w.heap.size w).alloc (Kaq _) O).cell (p:=⟨k,0,none⟩) r|>.trans y
 have x:=d.ne;have m:=d.box
 have G:=fun D=>assertSc D i g
 go_enter Tryz.func211,Tryz.ntmps211;go_wp2
 go_region_law (first|(refine Q3c rfl (.tmp 7) (.tmp 10) rfl (k+1) (.slice o l.length c) l rfl (d.row.alloc _) w.heap.size i g rfl ?h1 ?h2 ?h3 ?h4 ?_;(case h1=>simp);(case h2=>simp);(case h3=>omega);(case h4=>(show k+1<=(w.alloc _).heap.size;simp;omega));intro H I h j;obtain⟨q,n,A⟩:=ownsRow_form h (by simp);rw[A]at h ⊢;have f:=Qc9 m j x;have z:=Q9I f;have B:=Q6d f))
 all_goals (try go_wp2)
 all_goals go_end0
 all_goals (
  refine⟨rfl,q,n,⟨?_, ?_⟩, ?_⟩
  ·have:=Q5J (u:=.slice (some ⟨q,0,none⟩) (l.length+1) n) f
   simpa using this
  ·exact ownsRow_setCell_below h (a:=⟨k,0,none⟩) (Nat.lt_succ_self k) _
  ·exact(Q8U r j (fun b e=>by have:=(d.row.lt b e).1;omega)).setCell (p:=⟨k,0,none⟩) (Kaq _) _)
theorem Q93 {l:List Sc} {x:Sc} (h:HeapP l l.length):Q6l (l++[x]) (l++[x]).length l.length:=by
 have c:(l++[x]).length=l.length+1:=by simp
 rw[c];refine⟨fun i a h2 b=>?_,fun d i a h2 b=>by omega⟩;have:=h i a (by omega);unfold fr at *;rw[Q0Y (by omega),Q0Y (by omega)];exact this
theorem Q9x {l:List Sc} {x:Sc} (h:okD l) (b:okS x):okD (l++[x]):=fun i hi=>by
 have c:(l++[x]).length=l.length+1:=by simp
 rcases Nat.lt_or_ge i l.length with a|a
 ·rw[Q0Y a];exact h i a
 ·rw[show i=l.length by omega,Q1U];exact b
theorem pushH_any (k:Nat) (v:Value) (l:List Sc) (i g:Int) (w:World) (F:BrdV k v w l) (s:okD l) (L:okS (i,g)) (H:HeapP l l.length) (j:l.length<=1000000):
  Calls Tryz.prog 152 #[.iface 211 (.pointer (some ⟨k,0,none⟩)),.iface 172 (.agg #[.int .i64 i,.int .i64 g])] w fun e z=>e=.returned (.tuple #[])/\∃E c n,Brd k E c z n/\HeapP n n.length/\Go.Proofs.YtpneolgdghbinaaGreat.Same (l++[(i,g)]) n (l.length+1)/\okD n/\Below k w z:=by
 have P:∀args w,(callFunc 211 args).run Tryz.prog w=.ok (.enter 211 args) w:=enters_of Tryz.func211 (by kernel_rfl) rfl
 have O:∀args w,(callFunc 153 args).run Tryz.prog w=.ok (.enter 153 args) w:=enters_of Tryz.func153 (by kernel_rfl) rfl
 have M:=fun w=>Q3h (k:=k) (w:=w) Q8Z
 have x:(l++[(i,g)]).length=l.length+1:=by simp
 go_enter Tryz.func152,Tryz.ntmps152;go_wp2_with fail;refine(Qdw k v l i g w F j).mono ?_;rintro e A ⟨rfl,u,t,a,m⟩;have y:=Q0q Q51 a.cell;rw[x]at y;go_wp2_with (go_at_call 153;refine(dpLen_any _ _ _ _).mono ?_;rintro e R ⟨rfl,rfl⟩)
 have I:(((l.length+1:Nat):Int) - 1)=(l.length:Int):=by omega
 refine(Qeu k u t (l++[(i,g)]) l.length A a (by omega) (Q9x s L) (Q93 H) (by omega)).mono ?_;rintro e N ⟨rfl,p,q,h,d,r,f⟩;have G:=a.ge;have J:=a.lt;have B:Hid (Below k w N):=m.trans ((Below.refl k A).grown f (by omega) (fun b e=>by cases e;omega))
 have C:Hid (HeapP p p.length):=by unfold Hid;rw[d.1.1];exact h
 have D:Hid (Go.Proofs.YtpneolgdghbinaaGreat.Same (l++[(i,g)]) p (l.length+1)):=by unfold Hid;rw[<-x];exact d.1
 clear y M h d m f;go_wp2
 go_end0
 exact⟨rfl,u,t,p,q,C.out,D.out,r,B.out⟩
theorem QdX (k g c:Nat) (l:List Sc) (x y:Int) (w:World) (f:Brd k g c w (l++[(x,y)])) (t:l.length<=1000000):
  Calls Tryz.prog 210 #[.pointer (some ⟨k,0,none⟩)] w fun e u=>e=.returned (.iface 172 (.agg #[.int .i64 x,.int .i64 y]))/\Brd k g c u l/\Below k w u:=by
 have s:(l++[(x,y)]).length=l.length+1:=by simp
 have B:=f.cell;have J:=f.v.frozen;have F:=f.v.lt;rw[s]at B;have m:=f.row.rd
 rcases m with m|⟨b,off,D,E,d⟩
 ·simp at m
 cases D
 have n:=RdL.sc d l.length (by omega);rw[Q1U]at n;simp only[Nat.zero_add]at n;obtain⟨H,I⟩:=n;clear d
 have r:l.length+1<=c:=by
  rcases f.row.2 with⟨i,_⟩|⟨L,q,C,i,_,_,G,_⟩
  ·simp at i
  ·simp only[Value.slice.injEq]at i
   rw[<-i.2.2]at G;omega
 have h:w.ownsRow (k+1) 172 2 (.slice (some ⟨g,0,none⟩) l.length c) l.length (l.flatMap Q7i.cs):=by
  have j:=f.row;unfold Q6H ownL at j;rw[s,List.flatMap_append]at j;exact ownsRow_pop (Q0l Q7i l) j
 have z:=Q02 f;have A:=Q02 h;clear f h;go_enter Tryz.func210,Tryz.ntmps210;go_wp2;go_ret;refine⟨rfl,⟨?_, ?_⟩, ?_⟩
 ·exact(((Below.refl w.heap.size _).alloc (by simp) _).block k F).trans (Q5J z.out.box)
 ·exact(ownsRow_setCell_below A.out (a:=⟨k,0,none⟩) (Nat.lt_succ_self k) _).alloc _
 ·exact((Below.refl k w).setCell (p:=⟨k,0,none⟩) (Kaq _) _).alloc (by simp;omega) _
theorem Q6c {l:List Sc} {n:Nat} (h:HeapP l (n+1)) (f:n+1=l.length):Q2c (Q1c l 0 n) n 0:=by
 have F:∀m,fr (Q1c l 0 n) m=if m=n then fr l 0 else if m=0 then fr l n else fr l m:=fun m=>Q3X l 0 n m (by omega) (by omega)
 refine⟨fun c a h2 b=>?_,fun d=>by omega⟩;rw[F,F,if_neg (by omega),if_neg b,if_neg (by omega),if_neg (by omega)];exact h c a (by omega)
theorem popH_any (k g c:Nat) (l:List Sc) (n:Nat) (w:World) (d:Brd k g c w l) (H:n+1=l.length) (A:okD l) (L:HeapP l l.length) (F:l.length<=1000000):
  Calls Tryz.prog 154 #[.iface 211 (.pointer (some ⟨k,0,none⟩))] w fun e X=>e=.returned (.iface 172 (.agg #[.int .i64 (l.getD 0 (0,0)).1,.int .i64 (l.getD 0 (0,0)).2]))/\Below k w X:=by
 have Z:∀args w,(callFunc 210 args).run Tryz.prog w=.ok (.enter 210 args) w:=enters_of Tryz.func210 (by kernel_rfl) rfl
 have Y:∀args w,(callFunc 153 args).run Tryz.prog w=.ok (.enter 153 args) w:=enters_of Tryz.func153 (by kernel_rfl) rfl
 have eS:∀args w,(callFunc 212 args).run Tryz.prog w=.ok (.enter 212 args) w:=enters_of Tryz.func212 (by kernel_rfl) rfl
 have U:=fun w=>Q3h (k:=k) (w:=w) Qby
 have T:=Q0q Q51 d.cell;have V:=Q0q Q25 d.cell
 have P:(l.length:Int) - 1=(n:Int):=by omega
 have a:=Q02 H;have J:=d.ge;have O:=d.lt;clear H;go_enter Tryz.func154,Tryz.ntmps154;go_wp2_with (first|(go_at_call 153;refine(dpLen_any _ _ _ _).mono ?_;rintro e C ⟨rfl,rfl⟩));have u:=Q3x (k+1) g c l 0 n w d.row (by have:=a.out;omega) (by have:=a.out;omega) (by omega);refine u.mono ?_;rintro e B ⟨rfl,t,h⟩;have f:=d.swap t h;have m:Below k w B:=(Below.refl k w).grown h (by omega) (fun b e=>by cases e;omega);have G:=f.lt
 have q:=Q9w k g c (Q1c l 0 n) n B f (by rw[Q0u];have:=a.out;omega) (Q1W 0 n (by have:=a.out;omega) (by have:=a.out;omega) A) (Q6c (a.out.symm ▸ L) a.out) (by rw[Q0u];omega);clear T V u t h d;go_wp2_with fail;refine q.mono ?_;rintro e C ⟨⟨r,rfl⟩,l2,p,y,j,z,s⟩;have v:Below k w C:=m.trans ((Below.refl k B).grown s (by omega) (fun b e=>by cases e;omega))
 have M:l2.length=n+1:=by rw[j.1.1,Q0u];exact a.out.symm
 have E:l2=l2.take n++[((l2.getD n (0,0)).1,(l2.getD n (0,0)).2)]:=by
  have:=Q11 Q7i l2 n (by omega);rw[List.take_of_length_le (by omega)]at this;exact this
 have N:(l2.take n).length=n:=by simp;omega
 have i:=QdX k g c (l2.take n) (l2.getD n (0,0)).1 (l2.getD n (0,0)).2 C (E ▸ p) (by omega)
 have D:l2.getD n (0,0)=l.getD 0 (0,0):=by
  have R:=a.out;rw[j.2 n (Kaq _),Q13 l 0 n n (by omega) (by omega),if_pos rfl]
 rw[D]at i;clear q f p y j z s E m D;go_wp2_with fail;refine i.mono ?_;rintro e w3 ⟨rfl,I,x⟩;clear U i;go_wp2;go_ret;exact⟨rfl,v.trans x⟩
end Go.Proofs.YtpneolgdghbinaaGreat.Dep
