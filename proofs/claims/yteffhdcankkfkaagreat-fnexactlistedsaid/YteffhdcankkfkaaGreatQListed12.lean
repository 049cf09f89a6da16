/- The library's Push over the scoreboard; the scoreboard's Pop. -/
import Derived.WalkSmall
import Derived.Test.YteffhdcankkfkaaGreatQListed11
namespace Go.Proofs.YteffhdcankkfkaaGreat
open Go.ChangeShapes Go.WideShapes Go.ChangeAt Go.RowKit Go.Joins
set_option linter.unusedVariables false
set_option linter.unusedSimpArgs false
set_option maxRecDepth 100000
set_option maxHeartbeats 40000000
theorem Q1m {l:List Sc} {x:Sc} {i:Nat} (h:i < l.length):(l++[x]).getD i (0,0)=l.getD i (0,0):=by
 rw[KFq,List.getElem?_append_left h,<-KFq]
theorem Q2B {l:List Sc} {x:Sc}:(l++[x]).getD l.length (0,0)=x:=by
 rw[KFq,List.getElem?_append_right (Kaq _),Nat.sub_self];rfl
theorem Qgk {l:List Sc} {x:Sc} (h:Q3j l l.length):QcJ (l++[x]) (l++[x]).length l.length:=by
 have c:(l++[x]).length=l.length+1:=by simp
 rw[c];refine⟨fun i a h2 b=>?_,fun d i a h2 b=>by omega⟩;have:=h i a (by omega);unfold fr at *;rw[Q1m (by omega),Q1m (by omega)];exact this
theorem Qgg {l:List Sc} {x:Sc} (h:okD l) (b:okS x):okD (l++[x]):=fun i hi=>by
 have c:(l++[x]).length=l.length+1:=by simp
 rcases Nat.lt_or_ge i l.length with a|a
 ·rw[Q1m a];exact h i a
 ·rw[show i=l.length by omega,Q2B];exact b
theorem QeS (k:Nat) (v:Value) (l:List Sc) (i g:Int) (w:World) (F:BrdV k v w l) (s:okD l) (L:okS (i,g)) (H:Q3j l l.length) (j:l.length<=1000000):
  Calls Tryz.prog 267 #[.iface 356 (.pointer (some ⟨k,0,none⟩)),.iface 361 (.agg #[.int .i64 i,.int .i64 g])] w fun e z=>e=.returned (.tuple #[])/\∃E c n,Brd k E c z n/\Q3j n n.length/\Same (l++[(i,g)]) n (l.length+1)/\okD n/\Below k w z:=by
 have P:∀args w,(callFunc 297 args).run Tryz.prog w=.ok (.enter 297 args) w:=enters_of Tryz.func297 (by kernel_rfl) rfl
 have O:∀args w,(callFunc 294 args).run Tryz.prog w=.ok (.enter 294 args) w:=enters_of Tryz.func294 (by kernel_rfl) rfl
 have M:=fun w=>Q7V (k:=k) (w:=w) Qgh
 have x:(l++[(i,g)]).length=l.length+1:=by simp
 go_enter Tryz.func267,Tryz.ntmps267;go_wp2_with fail;refine(Qdm k v l i g w F j).mono ?_;rintro e A ⟨rfl,u,t,a,m⟩;have y:=Q0C Q8G a.cell;rw[x]at y;go_wp2_with (go_at_call 294;refine(Q2Q _ _ _ _).mono ?_;rintro e R ⟨rfl,rfl⟩)
 have I:(((l.length+1:Nat):Int) - 1)=(l.length:Int):=by omega
 refine(Qi0 k u t (l++[(i,g)]) l.length A a (by omega) (Qgg s L) (Qgk H) (by omega)).mono ?_;rintro e N ⟨rfl,p,q,h,d,r,f⟩;have G:=a.ge;have J:=a.lt;have B:Hid (Below k w N):=m.trans ((Below.refl k A).grown f (by omega) (fun b e=>by cases e;omega))
 have C:Hid (Q3j p p.length):=by unfold Hid;rw[d.1];exact h
 have D:Hid (Same (l++[(i,g)]) p (l.length+1)):=by unfold Hid;rw[<-x];exact d
 clear y M h d m f;go_wp2
 go_end0
 exact⟨rfl,u,t,p,q,C.out,D.out,r,B.out⟩
theorem Qe8 (k g c:Nat) (l:List Sc) (x y:Int) (w:World) (f:Brd k g c w (l++[(x,y)])) (t:l.length<=1000000):
  Calls Tryz.prog 296 #[.pointer (some ⟨k,0,none⟩)] w fun e u=>e=.returned (.iface 361 (.agg #[.int .i64 x,.int .i64 y]))/\Brd k g c u l/\Below k w u:=by
 have s:(l++[(x,y)]).length=l.length+1:=by simp
 have B:=f.cell;have L:=f.v.frozen;have F:=f.v.lt;rw[s]at B;have m:=f.row.rd
 rcases m with m|⟨b,H,D,E,d⟩
 ·simp at m
 cases D
 have n:=RdL.sc d l.length (by omega);rw[Q2B]at n;simp only[Nat.zero_add]at n;obtain⟨I,J⟩:=n;clear d
 have r:l.length+1<=c:=by
  rcases f.row.2 with⟨i,_⟩|⟨M,q,C,i,_,_,G,_⟩
  ·simp at i
  ·simp only[Value.slice.injEq]at i
   rw[<-i.2.2]at G;omega
 have h:w.ownsRow (k+1) 361 2 (.slice (some ⟨g,0,none⟩) l.length c) l.length (l.flatMap Qcq.cs):=by
  have j:=f.row;unfold QdT ownL at j;rw[s,List.flatMap_append]at j;exact ownsRow_pop (Q0f Qcq l) j
 have z:=Q00 f;have A:=Q00 h;clear f h;go_enter Tryz.func296,Tryz.ntmps296;go_wp2;go_ret;refine⟨rfl,⟨?_, ?_⟩, ?_⟩
 ·exact(((Below.refl w.heap.size _).alloc (by simp) _).block k F).trans (Qc9 z.out.box)
 ·exact(ownsRow_setCell_below A.out (a:=⟨k,0,none⟩) (Nat.lt_succ_self k) _).alloc _
 ·exact((Below.refl k w).setCell (p:=⟨k,0,none⟩) (Kaq _) _).alloc (by simp;omega) _
def QiL (l l':List Sc):Prop:=l'.length+1=l.length/\∀z,(∃i,i < l'.length/\l'.getD i (0,0)=z)↔(∃i,1<=i/\i < l.length/\l.getD i (0,0)=z)
theorem QcV {l:List Sc} {n:Nat} (h:Q3j l (n+1)) (f:n+1=l.length):Q5e (Q28 l 0 n) n 0:=by
 have F:∀m,fr (Q28 l 0 n) m=if m=n then fr l 0 else if m=0 then fr l n else fr l m:=fun m=>Q90 l 0 n m (by omega) (by omega)
 refine⟨fun c a h2 b=>?_,fun d=>by omega⟩;rw[F,F,if_neg (by omega),if_neg b,if_neg (by omega),if_neg (by omega)];exact h c a (by omega)
theorem Q3C {l:List Sc} {n i:Nat} (h:i < n):(l.take n).getD i (0,0)=l.getD i (0,0):=by
 simp[KFq,List.getElem?_take,h]
theorem QfR (k g c:Nat) (l:List Sc) (n:Nat) (w:World) (d:Brd k g c w l) (O:n+1=l.length) (H:okD l) (X:Q3j l l.length) (M:l.length<=1000000):
  Calls Tryz.prog 266 #[.iface 356 (.pointer (some ⟨k,0,none⟩))] w fun e P=>(∃v,e=.returned v)/\∃C,Brd k g c P C/\Q3j C C.length/\QiL l C/\okD C/\Below k w P:=by
 have eP:∀args w,(callFunc 296 args).run Tryz.prog w=.ok (.enter 296 args) w:=enters_of Tryz.func296 (by kernel_rfl) rfl
 have eN:∀args w,(callFunc 294 args).run Tryz.prog w=.ok (.enter 294 args) w:=enters_of Tryz.func294 (by kernel_rfl) rfl
 have eS:∀args w,(callFunc 298 args).run Tryz.prog w=.ok (.enter 298 args) w:=enters_of Tryz.func298 (by kernel_rfl) rfl
 have mP:=fun w=>Q7V (k:=k) (w:=w) QhI
 have mN:=Q0C Q8G d.cell;have mS:=Q0C Q4T d.cell
 have ac:(l.length:Int) - 1=(n:Int):=by omega
 have a:=Q00 O;have V:=d.ge;have ab:=d.lt;clear O;go_enter Tryz.func266,Tryz.ntmps266;go_wp2_with (first|(go_at_call 294;refine(Q2Q _ _ _ _).mono ?_;rintro e J ⟨rfl,rfl⟩));have B:=Q2H (k+1) g c l 0 n w d.row (by have:=a.out;omega) (by have:=a.out;omega) (by omega);refine B.mono ?_;rintro e I ⟨rfl,x,h⟩;have f:=d.swap x h;have p:Below k w I:=(Below.refl k w).grown h (by omega) (fun b e=>by cases e;omega);have N:=f.lt
 have s:=Qga k g c (Q28 l 0 n) n I f (by rw[Q0J];have:=a.out;omega) (Q4o 0 n (by have:=a.out;omega) (by have:=a.out;omega) H) (QcV (a.out.symm ▸ X) a.out) (by rw[Q0J];omega);clear mN mS B x h d;go_wp2_with fail;refine s.mono ?_;rintro e J ⟨⟨r,rfl⟩,l2,q,u,m,y,t⟩;have E:Below k w J:=p.trans ((Below.refl k I).grown t (by omega) (fun b e=>by cases e;omega))
 have aa:l2.length=n+1:=by rw[m.1,Q0J];exact a.out.symm
 have L:l2=l2.take n++[((l2.getD n (0,0)).1,(l2.getD n (0,0)).2)]:=by
  have:=Q1q Qcq l2 n (by omega);rw[List.take_of_length_le (by omega)]at this;exact this
 have j:(l2.take n).length=n:=by simp;omega
 have A:=Qe8 k g c (l2.take n) (l2.getD n (0,0)).1 (l2.getD n (0,0)).2 J (L ▸ q) (by omega)
 have R:Hid (Q3j (l2.take n) (l2.take n).length):=by
  unfold Hid;rw[j];intro i D h2;have:=u i D h2;unfold fr at *;rw[Q3C (by omega),Q3C h2];exact this
 have T:Hid (okD (l2.take n)):=fun i hi=>by rw[Q3C (by omega)];exact y i (by omega)
 have U:Hid (QiL l (l2.take n)):=by
  refine⟨by rw[j];exact a.out,fun z=>?_⟩;rw[j]
  have D:(∃i,i < n/\(l2.take n).getD i (0,0)=z)↔(∃i,i < n/\l2.getD i (0,0)=z):=
   ⟨fun ⟨i,hi,e⟩=>⟨i,hi,by rw[<-Q3C hi];exact e⟩,fun ⟨i,hi,e⟩=>⟨i,hi,by rw[Q3C hi];exact e⟩⟩
  rw[D,m.2.1 z];have ad:=a.out
  constructor
  ·rintro⟨i,hi,e⟩
   rw[Q1k l 0 n i (by omega) (by omega),if_neg (by omega)]at e
   by_cases h0:i=0
   ·rw[if_pos h0]at e
    subst h0;exact⟨n,by omega,by omega,e⟩
   ·rw[if_neg h0]at e
    exact⟨i,by omega,by omega,e⟩
  ·rintro⟨i,Y,Z,e⟩
   by_cases h0:i=n
   ·refine⟨0,by omega, ?_⟩
    rw[Q1k l 0 n 0 (by omega) (by omega),if_neg (by omega),if_pos rfl,<-h0];exact e
   ·refine⟨i,by omega, ?_⟩
    rw[Q1k l 0 n i (by omega) (by omega),if_neg h0,if_neg (by omega)];exact e
 clear s f q u m y t L p;go_wp2_with fail;refine A.mono ?_;rintro e w3 ⟨rfl,G,F⟩;clear mP A;go_wp2;go_ret;exact⟨⟨_,rfl⟩,l2.take n,G,R.out,U.out,T.out,E.trans F⟩
end Go.Proofs.YteffhdcankkfkaaGreat
