/- Several texts in one: SWay, SWay2. -/
import Derived.RangeFuncNested
import Derived.RangeFuncBound
import Derived.RangeFuncCalls
import Derived.RangeFuncLeaves
import Derived.RangeFuncBox
import Derived.Shelf.Abstract
import Derived.Shelf.RegionOpen
import Derived.OwnWalkIn
import Derived.TacticsInMore
import Derived.LoopNIn
import Derived.LoopIn
import Derived.Test.YtpneolgdghbinaaGreatQLearnsL04
namespace Go.Proofs.YtpneolgdghbinaaGreat
open Go.ChangeShapes Go.WideShapes Go.ChangeAt Go.RowKit Go.Joins Go.Shelf
set_option linter.unusedVariables false
set_option linter.unusedSimpArgs false
set_option maxRecDepth 100000
set_option maxHeartbeats 40000000
attribute [local go_sem] Oper.semAt_some
abbrev QgK (a p:Int):Value:=.agg #[.int .i64 a,.int .i64 p]
theorem QcD (o:Option Addr) (n c:Nat) (a p:Int) (w:World) (f:0 < n) (q:n≤1048576) (d:Q0h a p=true):
  Calls Tryz.prog 157 #[tab (.slice o n c),QgK a p] w fun e k=> e=.returned (.int .i64 (Q0S n a p))∧Below w.heap.size w k:=by
 have i:Below w.heap.size w w:=Below.refl _ _;have l:=QbT f d;have j:=Q1o f a p;have h:=Q2l.1 d
 have b:¬((n:Int)=0):=by omega
 have g:((n:Int)==0)=false:=by simpa using b
 obtain ⟨s,h2,m,r⟩:=h;go_enter Tryz.func157,Tryz.ntmps157;go_wp2;go_ret;exact ⟨rfl,by (repeat (first|with_reducible (first|exact i|exact Below.refl _ _|refine Below.drew ?_|refine below_drewN ?_ _|refine Below.alloc ?_ ?_ _|refine Below.setCell ?_ ?_ _)|(focus (simp;first|done|omega))|omega))⟩
theorem Q4R (o:Option Addr) (n c i:Nat) (w:World) (d:0 < n) (h:n≤1048576) (hi:i < n):
  Calls Tryz.prog 155 #[tab (.slice o n c),.int .i64 i] w fun e g=> e=.returned (.int .i64 ((i+1) % n:Nat))∧Below w.heap.size w g:=by
 have b:Below w.heap.size w w:=Below.refl _ _;have j:=Q5w n i;have f:=Q3j d i;have a:((n:Int)==0)=false:=beq_eq_false_iff_ne.2 (by omega);go_enter Tryz.func155,Tryz.ntmps155;go_wp2;go_ret;exact ⟨rfl,by (repeat (first|with_reducible (first|exact b|exact Below.refl _ _|refine Below.drew ?_|refine below_drewN ?_ _|refine Below.alloc ?_ ?_ _|refine Below.setCell ?_ ?_ _)|(focus (simp;first|done|omega))|omega))⟩
theorem Qen (o:Option Addr) (n c i k:Nat) (w:World) (h:n≤1048576) (hi:i < n) (f:k < n):
  Calls Tryz.prog 156 #[tab (.slice o n c),.int .i64 i,.int .i64 k] w fun e d=> e=.returned (.int .i64 (Q1C n i k))∧Below w.heap.size w d:=by
 have b:Below w.heap.size w w:=Below.refl _ _;have g:=Q94 hi f;have a:((n:Int)==0)=false:=beq_eq_false_iff_ne.2 (by omega);go_enter Tryz.func156,Tryz.ntmps156;go_wp2
 all_goals first|(go_ret;exact ⟨rfl,by (repeat (first|with_reducible (first|exact b|exact Below.refl _ _|refine Below.drew ?_|refine below_drewN ?_ _|refine Below.alloc ?_ ?_ _|refine Below.setCell ?_ ?_ _)|(focus (simp;first|done|omega))|omega))⟩)|skip
abbrev Met:=Nat × Sl
def Q3b (l:List Sl) (h j:Nat):Met:=((h+j) % l.length,l.getD ((h+j) % l.length) sl0)
def Q2M (f:Nat→Met) (k:Nat):List Met:=(List.range k).map f
theorem Q3t (f:Nat→Met) (k:Nat):Q2M f (k+1)=Q2M f k++[f k]:=by simp [Q2M,List.range_succ]
theorem Qam (f:Nat→Met) (k:Nat):(Q2M f k).length=k:=by simp [Q2M]
theorem Qdh (f:Nat→Met) (k:Nat):Q2M f (k+1)=f 0::Q2M (fun j=> f (j+1)) k:=by
 simp [Q2M,List.range_succ_eq_map,Function.comp_def]
theorem Qhi (f:Nat→Met) {k m:Nat} (h:k≤m):∃r,Q2M f m=Q2M f k++r:=by
 obtain ⟨d,rfl⟩:=Nat.exists_eq_add_of_le h
 induction d with
 |zero=> exact ⟨[],by simp⟩
 |succ d ih=> obtain ⟨r,a⟩:=ih (by omega);exact ⟨r++[f (k+d)],by rw [←Nat.add_assoc,Q3t,a,List.append_assoc]⟩
def Q3H (a p:Int) (x:Met):Option (Int × Bool):=if x.2.u=true then (if x.2.a=a∧x.2.p=p then some ((x.1:Int),true) else none) else some ((x.1:Int),false)
def Q7s (a p:Int) (l:List Met):Option (Int × Bool):=l.findSome? (Q3H a p)
theorem Q7f (a p:Int) (l:List Met) (x:Met) (h:Q7s a p l=none):Q7s a p (l++[x])=Q3H a p x:=by
 unfold Q7s at *;rw [List.findSome?_append,h];simp
theorem QaR (a p:Int) (l r:List Met) {E:Int × Bool} (h:Q7s a p l=some E):Q7s a p (l++r)=some E:=by
 unfold Q7s at *;rw [List.findSome?_append,h];simp
theorem Q6e (l:List Sl) (b:0 < l.length) (a p:Int):∀(f i:Nat),i < l.length→Q4Y l a p f i=(Q7s a p (Q2M (Q3b l i) f)).getD (-1,false)
 |0,i,_=> rfl
 |f+1,i,hi=> by
  have c:Q3b l i 0=(i,l.getD i sl0):=by simp [Q3b,Q32 hi]
  have d:(fun j=> Q3b l i (j+1))=Q3b l ((i+1) % l.length):=by
   funext j
   unfold Q3b;rw [show (i+(j+1)) % l.length=((i+1) % l.length+j) % l.length by rw [Nat.add_mod ((i+1) % l.length),Nat.mod_mod,←Nat.add_mod];congr 1;omega]
  rw [Qdh,c,d];unfold Q7s;rw [List.findSome?_cons]
  cases hu:(l.getD i sl0).u with
  |false=> rw [Q2I hu,show Q3H a p (i,l.getD i sl0)=some ((i:Int),false) by unfold Q3H;rw [if_neg (by rw [hu];decide)]];rfl
  |true=>
   by_cases h:(l.getD i sl0).a=a∧(l.getD i sl0).p=p
   ·rw [Q5M hu h.1 h.2,show Q3H a p (i,l.getD i sl0)=some ((i:Int),true) by unfold Q3H;rw [if_pos hu,if_pos h]];rfl
   ·rw [Q4W hu h,show Q3H a p (i,l.getD i sl0)=none by unfold Q3H;rw [if_pos hu,if_neg h]]
    exact Q6e l b a p f _ (Q3j b i)
theorem Qe6 {l:List Sl} (hn:0 < l.length) {a p:Int} (h:Q7s a p (Q2M (Q3b l (Q0S l.length a p)) l.length)=none):Q0Z l a p=(-1,false):=by
 unfold Q0Z;rw [Q6e l hn a p _ _ (Q1o hn a p),h];rfl
theorem Q80 {l:List Sl} (b:0 < l.length) {a p:Int} {k:Nat} {E:Int × Bool} (d:k≤l.length) (h:Q7s a p (Q2M (Q3b l (Q0S l.length a p)) k)=some E):Q0Z l a p=E:=by
 obtain ⟨r,c⟩:=Qhi (Q3b l (Q0S l.length a p)) d;unfold Q0Z;rw [Q6e l b a p _ _ (Q1o b a p),c,QaR _ _ _ r h];rfl
attribute [local go_sem] Oper.semAt_some
def KpW (n₀ Bs:Nat) (W W':World):Prop:=Below n₀ W W'∧W'.heap[Bs]? =W.heap[Bs]?
theorem KpW.trans {n₀ Bs:Nat} {A B C:World} (h:KpW n₀ Bs A B) (k:KpW n₀ Bs B C):KpW n₀ Bs A C:=⟨h.1.trans k.1,k.2.trans h.2⟩
theorem Q3m {W W':World} {B o:Nat} (h:W'.heap[B]? =W.heap[B]?):W'.cell? ⟨B,o,none⟩=W.cell? ⟨B,o,none⟩:=by simp [World.cell?,h]
theorem Q8h {W W':World} (h:Below W.heap.size W W'):W.grownBy W' none:=⟨h.os,h.tape,h.output,h.size,fun k hk _=> h.block k hk⟩
theorem Qha (h k n:Nat):(h+(k+1)) % n=((h+k) % n+1) % n:=by rw [Nat.mod_add_mod,Nat.add_assoc]
theorem Qh5 (l:List Sl) (h k:Nat):Q3b l h k=((h+k) % l.length,l.getD ((h+k) % l.length) sl0):=rfl
theorem QfQ (n:Nat) (aj:1≤n) (y Bs Bf B b off cap:Nat) (l:List Sl) (a p:Int) (V:0 < l.length) (hl:l.length≤1048576) (hf:Q0h a p=true) (E:b < B) (J Jx:List Met→World→Prop)
  (hY:∀c x W,J c W→c.length < l.length→YieldAt Fence.wide (n - 1) Tryz.prog y #[.int .i64 (x.1:Nat),slot x.2] W fun e W'=>
   (e=.returned (.bool true)∧J (c++[x]) W'∧KpW B Bs W W')∨(e=.returned (.bool false)∧Jx (c++[x]) W'))
  (W:World) (N:W.cell? ⟨Bs,0,none⟩=some (.slice (some ⟨b,off,none⟩) l.length cap)) (al:W.cell? ⟨Bf,0,none⟩=some (.int .i64 a)) (ah:W.cell? ⟨Bf,1,none⟩=some (.int .i64 p))
  (hc:∀i,i < l.length→∀j,j < Q0g.k→W.cell? ⟨b,off+i * Q0g.k+j,none⟩=(Q0g.cs (l.getD i Q0g.d))[j]?) (O:∀c W W',J c W→Below W.heap.size W W'→J c W') (R:B≤W.heap.size) (w:Bs < W.heap.size) (h0:J [] W):
  CallsIn Fence.wide n Tryz.prog 187 #[.func (.yield y) #[] #[],.pointer (some ⟨Bs,0,none⟩),.pointer (some ⟨Bf,0,none⟩)] W fun e W'=> (∃v,e=.returned v)∧
   ((∃ys,ys=Q2M (Q3b l (Q0S l.length a p)) l.length∧J ys W')∨(∃c,(∃k,k≤l.length∧c=Q2M (Q3b l (Q0S l.length a p)) k)∧Jx c W')):=by
 refine callsIn_of_wp Tryz.func187 rfl trivial ?_ rfl;simp only [Tryz.ntmps187,List.size_toArray,List.length_cons,List.length_nil,Nat.reduceAdd,Nat.reduceSub,Array.replicate_succ,Array.replicate_zero,List.push_toArray,List.append_toArray,List.nil_append,List.cons_append];have HC:=Q01 hc;have hh:=Q1o V a p;clear hc
 gi_wp2_with (refine ⟨trivial, ?_⟩;gi_at_call 157;refine (callsIn_wide.2 (QcD (some ⟨b,off,none⟩) l.length cap a p W V hl hf)).mono ?_;rintro e z ⟨rfl,A⟩;have P:=(A.cell (p:=⟨Bs,0,none⟩) w).trans N;have m:=Q01 A;clear A)
 have U:=Q01 (O _ _ _ h0 m.out);have ac:B≤z.heap.size:=Kdq R m.out.size;have G:Bs < z.heap.size:=Kbq w m.out.size
 have H:Hid (∀i,i < l.length→∀j,j < Q0g.k→z.cell? ⟨b,off+i * Q0g.k+j,none⟩=(Q0g.cs (l.getD i Q0g.d))[j]?):=fun i hi j hj=> (m.out.cell (p:=⟨b,off+i * Q0g.k+j,none⟩) (Kbq E R)).trans (HC.out i hi j hj)
 clear HC h0 N m
 gi_loopw [4,11] (fun at' i wr=> ∃k:Nat,k≤l.length∧i=.int .i64 k∧at'=.int .i64 (((Q0S l.length a p+k) % l.length:Nat))∧J (Q2M (Q3b l (Q0S l.length a p)) k) wr∧KpW B Bs z wr∧z.heap.size≤wr.heap.size)
  (fun _ i _=> l.length - (intOf i).toNat)
 case atStart=> exact ⟨0,Kcq _,rfl,by rw [Nat.add_zero,Q32 hh],U.out,⟨Below.refl _ _,rfl⟩,Kaq _⟩
 case round=>
  obtain ⟨k,hk,rfl,rfl,r,⟨f,D⟩,L⟩:=hrel
  by_cases hlt:k < l.length
  ·have aa:=(Q3m (o:=0) D).trans P
   have hq:=Nat.mod_lt (Q0S l.length a p+k) V;have h:=Qha (Q0S l.length a p) k l.length;have M:=Qh5 l (Q0S l.length a p) k;have g:=RdL.slot (C:=B) H.out _ hq;have af:=Q01 h;have u:=Q01 M;clear h M;generalize hqq:(Q0S l.length a p+k) % l.length=q at *;obtain ⟨s,T⟩:∃s,l.getD q sl0=s:=⟨_,rfl⟩;rw [T] at g u;have e0:=(f.cell (p:=⟨b,off+q * 5,none⟩) E).trans g.1;have e1:=(f.cell (p:=⟨b,off+q * 5+1,none⟩) E).trans g.2.1;have e2:=(f.cell (p:=⟨b,off+q * 5+2,none⟩) E).trans g.2.2.1;have e3:=(f.cell (p:=⟨b,off+q * 5+3,none⟩) E).trans g.2.2.2.1
   have e4:=(f.cell (p:=⟨b,off+q * 5+4,none⟩) E).trans g.2.2.2.2
   have i1:(q:Int) < (l.length:Int):=by omega
   have i2:(k:Int) < (l.length:Int):=by omega
   obtain ⟨fn,tmps,Y,ag,Z,X⟩:=hY _ (Q3b l (Q0S l.length a p) k) wr r (by rw [Qam];exact hlt);rw [u.out] at Z X;dsimp only at Z X;have HK:=Q01 (show KpW B Bs z wr from ⟨f,D⟩);have ak:=Q01 r;clear g T hqq f D r U H hY
   gi_wp2
   refine X.mono ?_;rintro e W3 (⟨rfl,hJ3,hk3⟩|⟨rfl,hJx3⟩)
   ·have ai:=(Q3m (o:=0) hk3.2).trans aa
    have ab:=Q01 hJ3;have ae:=Q01 (HK.out.trans hk3);have ad:Bs < W3.heap.size:=Kbq G (Kdq L hk3.1.size);have F:z.heap.size≤W3.heap.size:=Kdq L hk3.1.size;clear hJ3 hk3 X Z
    gi_wp2_with (refine ⟨trivial, ?_⟩;gi_at_call 155;refine (callsIn_wide.2 (Q4R (some ⟨b,off,none⟩) l.length cap q W3 V hl hq)).mono ?_;rintro e W4 ⟨rfl,I⟩;have t:=Q01 I;clear I)
    go_roundw
    case rel=>
     refine ⟨k+1,by omega,by simp,by rw [af.out];simp, ?_,ae.out.trans ⟨t.out.mono (Kdq ac F),t.out.block _ ad⟩,Kdq F t.out.size⟩;rw [Q3t,u.out];exact O _ _ _ ab.out t.out
    case measure=> simp [intOf];omega
   ·gi_wp2
    refine bodyPost_ret (results_none rfl _ _ _) rfl ?_;exact ⟨⟨_,rfl⟩,.inr ⟨_,⟨k+1,by omega,by rw [Q3t,u.out]⟩,hJx3⟩⟩
  ·obtain rfl:k=l.length:=by omega
   gi_wp2
   go_end0
   exact ⟨⟨_,rfl⟩,.inl ⟨_,rfl,r⟩⟩
theorem Qgf (n:Nat) (v:Value) (a p:Int) (w:World):
  CallsIn Fence.wide n Tryz.prog 178 #[tab v,QgK a p] w fun e b=> e=.returned (.func (.func 187) #[] #[.pointer (some ⟨w.heap.size,0,none⟩),.pointer (some ⟨w.heap.size+1,0,none⟩)])∧b=(w.alloc (.cells #[v] 89)).alloc (.cells #[.int .i64 a,.int .i64 p] 36):=by
 refine callsIn_of_wp Tryz.func178 rfl trivial ?_ rfl;simp only [Tryz.ntmps178,List.size_toArray,List.length_cons,List.length_nil,Nat.reduceAdd,Nat.reduceSub,Array.replicate_succ,Array.replicate_zero,List.push_toArray,List.append_toArray,List.nil_append,List.cons_append]
 gi_wp2
 go_ret;exact ⟨rfl,rfl⟩
theorem Qet (n:Nat) (t:1≤n) (Bs Bf m b off cap:Nat) (l:List Sl) (a p:Int) (E:0 < l.length) (M:l.length≤1048576) (H:Q0h a p=true) (w:World) (h:Bs < w.heap.size) (g:Bf < w.heap.size) (s:b < m) (q:m≤w.heap.size)
  (u:w.cell? ⟨Bs,0,none⟩=some (.slice (some ⟨b,off,none⟩) l.length cap)) (A:w.cell? ⟨Bf,0,none⟩=some (.int .i64 a)) (z:w.cell? ⟨Bf,1,none⟩=some (.int .i64 p))
  (N:∀i,i < l.length→∀j,j < Q0g.k→w.cell? ⟨b,off+i * Q0g.k+j,none⟩=(Q0g.cs (l.getD i Q0g.d))[j]?):
  SeqStopsK Fence.wide n Tryz.prog 187 #[.pointer (some ⟨Bs,0,none⟩),.pointer (some ⟨Bf,0,none⟩)] (fun x:Met=> #[.int .i64 (x.1:Nat),slot x.2]) (KpW m Bs) (fun B=> B=Q2M (Q3b l (Q0S l.length a p)) l.length)
   (fun c=> ∃k,k≤l.length∧c=Q2M (Q3b l (Q0S l.length a p)) k) l.length w:=fun y J Jx W f L _ I C=> by
 have v:Below m w W:=f.mono q
 exact QfQ n t y Bs Bf m b off cap l a p E M H s J Jx I W ((f.cell (p:=⟨Bs,0,none⟩) h).trans u) ((f.cell (p:=⟨Bf,0,none⟩) g).trans A) ((f.cell (p:=⟨Bf,1,none⟩) g).trans z)
  (fun i hi j F=> (v.cell (p:=⟨b,off+i * Q0g.k+j,none⟩) s).trans (N i hi j F))
  (fun c G D hs s=> L c G D none hs (Q8h s) (fun r e=> by cases e)) (Kdq q f.size) (Kbq h f.size) C
end Go.Proofs.YtpneolgdghbinaaGreat
