/- Several texts in one: SWay, SWay2. -/
import Derived.RangeFuncNested
import Derived.RangeFuncBound
import Derived.RangeFuncCalls
import Derived.RangeFuncLeaves
import Derived.RangeFuncBox
import Derived.Shelf.Abstract
import Derived.Shelf.RegionOpen
import Derived.OwnWalkIn
import Derived.TacticsInMore
import Derived.LoopNIn
import Derived.LoopIn
import Derived.Test.YtpneolgdghbinaaGreatQCrashesL04
namespace Go.Proofs.YtpneolgdghbinaaGreat
open Go.ChangeShapes Go.WideShapes Go.ChangeAt Go.RowKit Go.Joins Go.Shelf
set_option linter.unusedVariables false
set_option linter.unusedSimpArgs false
set_option maxRecDepth 100000
set_option maxHeartbeats 40000000
attribute [local go_sem] Oper.semAt_some
abbrev Qg5 (a p:Int):Value:=.agg #[.int .i64 a,.int .i64 p]
theorem Qcm (o:Option Addr) (n c:Nat) (a p:Int) (w:World) (f:0 < n) (s:n<=1048576) (d:Q0o a p=true):
  Calls Tryz.prog 157 #[tab (.slice o n c),Qg5 a p] w fun e k=>e=.returned (.int .i64 (Q12 n a p))/\Below w.heap.size w k:=by
 have i:Below w.heap.size w w:=KBq;have r:=Qbq f d;have j:=Q1v f a p;have h:=Q2K.1 d
 have b:¬((n:Int)=0):=by omega
 have g:((n:Int)==0)=false:=by simpa using b
 obtain⟨l,h2,m,q⟩:=h;go_enter Tryz.func157,Tryz.ntmps157;go_wp2;go_ret;exact⟨rfl,by(repeat (first|with_reducible (first|exact i|exact KBq|refine KHq ?_|refine below_drewN ?_ _|refine KOq ?_ ?_ _|refine KNq ?_ ?_ _)|(focus (simp;first|done|omega))|omega))⟩
theorem Q4J (o:Option Addr) (n c i:Nat) (w:World) (f:0 < n) (j:n<=1048576) (hi:i < n):
  Calls Tryz.prog 155 #[tab (.slice o n c),.int .i64 i] w fun e g=>e=.returned (.int .i64 ((i+1) % n:Nat))/\Below w.heap.size w g:=by
 have b:Below w.heap.size w w:=KBq;have h:=Q5v n i;have d:=Q3f f i;have a:((n:Int)==0)=false:=beq_eq_false_iff_ne.2 (by omega);go_enter Tryz.func155,Tryz.ntmps155;go_wp2;go_ret;exact⟨rfl,by(repeat (first|with_reducible (first|exact b|exact KBq|refine KHq ?_|refine below_drewN ?_ _|refine KOq ?_ ?_ _|refine KNq ?_ ?_ _)|(focus (simp;first|done|omega))|omega))⟩
theorem Qff (o:Option Addr) (n c i k:Nat) (w:World) (h:n<=1048576) (hi:i < n) (d:k < n):
  Calls Tryz.prog 156 #[tab (.slice o n c),.int .i64 i,.int .i64 k] w fun e f=>e=.returned (.int .i64 (Q1t n i k))/\Below w.heap.size w f:=by
 have b:Below w.heap.size w w:=KBq;have g:=Q9z hi d;have a:((n:Int)==0)=false:=beq_eq_false_iff_ne.2 (by omega);go_enter Tryz.func156,Tryz.ntmps156;go_wp2
 all_goals first|(go_ret;exact⟨rfl,by(repeat (first|with_reducible (first|exact b|exact KBq|refine KHq ?_|refine below_drewN ?_ _|refine KOq ?_ ?_ _|refine KNq ?_ ?_ _)|(focus (simp;first|done|omega))|omega))⟩)|skip
abbrev Met:=Nat × Sl
def Q32 (l:List Sl) (h j:Nat):Met:=((h+j) % l.length,l.getD ((h+j) % l.length) sl0)
def Q2W (f:Nat->Met) (k:Nat):List Met:=(List.range k).map f
theorem Q3t (f:Nat->Met) (k:Nat):Q2W f (k+1)=Q2W f k++[f k]:=by simp[Q2W,List.range_succ]
theorem Qaz (f:Nat->Met) (k:Nat):(Q2W f k).length=k:=by simp[Q2W]
theorem Qdo (f:Nat->Met) (k:Nat):Q2W f (k+1)=f 0::Q2W (fun j=>f (j+1)) k:=by
 simp[Q2W,List.range_succ_eq_map,Function.comp_def]
theorem Qgp (f:Nat->Met) {k m:Nat} (h:k<=m):∃r,Q2W f m=Q2W f k++r:=by
 obtain⟨d,rfl⟩:=Nat.exists_eq_add_of_le h
 induction d with
 |zero=>exact⟨[],by simp⟩
 |succ d ih=>obtain⟨r,a⟩:=ih (by omega);exact⟨r++[f (k+d)],by rw[<-Nat.add_assoc,Q3t,a,List.append_assoc]⟩
def Q3i (a p:Int) (x:Met):Option (Int × Bool):=if x.2.u=true then(if x.2.a=a/\x.2.p=p then some ((x.1:Int),true)else none)else some ((x.1:Int),false)
def Q7v (a p:Int) (l:List Met):Option (Int × Bool):=l.findSome? (Q3i a p)
theorem Q7H (a p:Int) (l:List Met) (x:Met) (h:Q7v a p l=none):Q7v a p (l++[x])=Q3i a p x:=by
 unfold Q7v at *;rw[List.findSome?_append,h];simp
theorem Qas (a p:Int) (l r:List Met) {E:Int × Bool} (h:Q7v a p l=some E):Q7v a p (l++r)=some E:=by
 unfold Q7v at *;rw[List.findSome?_append,h];simp
theorem Q5W (l:List Sl) (b:0 < l.length) (a p:Int):∀(f i:Nat),i < l.length->Q57 l a p f i=(Q7v a p (Q2W (Q32 l i) f)).getD (-1,false)
 |0,i,_=>rfl
 |f+1,i,hi=>by
  have c:Q32 l i 0=(i,l.getD i sl0):=by simp[Q32,Q2R hi]
  have d:(fun j=>Q32 l i (j+1))=Q32 l ((i+1) % l.length):=by
   funext j
   unfold Q32;rw[show(i+(j+1)) % l.length=((i+1) % l.length+j) % l.length by rw[Nat.add_mod ((i+1) % l.length),Nat.mod_mod,<-Nat.add_mod];congr 1;omega]
  rw[Qdo,c,d];unfold Q7v;rw[List.findSome?_cons]
  cases hu:(l.getD i sl0).u with
  |false=>rw[Q4M hu,show Q3i a p (i,l.getD i sl0)=some ((i:Int),false)by unfold Q3i;rw[if_neg (by rw[hu];decide)]];rfl
  |true=>
   by_cases h:(l.getD i sl0).a=a/\(l.getD i sl0).p=p
   ·rw[Q73 hu h.1 h.2,show Q3i a p (i,l.getD i sl0)=some ((i:Int),true)by unfold Q3i;rw[if_pos hu,if_pos h]];rfl
   ·rw[Q5Y hu h,show Q3i a p (i,l.getD i sl0)=none by unfold Q3i;rw[if_pos hu,if_neg h]]
    exact Q5W l b a p f _ (Q3f b i)
theorem Qfp {l:List Sl} (hn:0 < l.length) {a p:Int} (h:Q7v a p (Q2W (Q32 l (Q12 l.length a p)) l.length)=none):Q1n l a p=(-1,false):=by
 unfold Q1n;rw[Q5W l hn a p _ _ (Q1v hn a p),h];rfl
theorem Q74 {l:List Sl} (b:0 < l.length) {a p:Int} {k:Nat} {E:Int × Bool} (c:k<=l.length) (h:Q7v a p (Q2W (Q32 l (Q12 l.length a p)) k)=some E):Q1n l a p=E:=by
 obtain⟨r,d⟩:=Qgp (Q32 l (Q12 l.length a p)) c;unfold Q1n;rw[Q5W l b a p _ _ (Q1v b a p),d,Qas _ _ _ r h];rfl
attribute [local go_sem] Oper.semAt_some
def KpW (n₀ Bs:Nat) (W W':World):Prop:=Below n₀ W W'/\W'.heap[Bs]? =W.heap[Bs]?
theorem KpW.trans {n₀ Bs:Nat} {A B C:World} (h:KpW n₀ Bs A B) (k:KpW n₀ Bs B C):KpW n₀ Bs A C:=⟨h.1.trans k.1,k.2.trans h.2⟩
theorem Q3g {W W':World} {B o:Nat} (h:W'.heap[B]? =W.heap[B]?):W'.cell? ⟨B,o,none⟩=W.cell? ⟨B,o,none⟩:=by simp[World.cell?,h]
theorem Q8m {W W':World} (h:Below W.heap.size W W'):W.grownBy W' none:=⟨h.os,h.tape,h.output,h.size,fun k hk _=>h.block k hk⟩
theorem QfZ (h k n:Nat):(h+(k+1)) % n=((h+k) % n+1) % n:=by rw[Nat.mod_add_mod,Nat.add_assoc]
theorem QgB (l:List Sl) (h k:Nat):Q32 l h k=((h+k) % l.length,l.getD ((h+k) % l.length) sl0):=rfl
theorem QfB (n:Nat) (ak:1<=n) (y Bs Bf D b off cap:Nat) (l:List Sl) (a p:Int) (Y:0 < l.length) (hl:l.length<=1048576) (hf:Q0o a p=true) (E:b < D) (J Jx:List Met->World->Prop)
  (hY:∀c x W,J c W->c.length < l.length->YieldAt Fence.wide (n - 1) Tryz.prog y #[.int .i64 (x.1:Nat),slot x.2] W fun e W'=>
   (e=.returned (.bool true)/\J (c++[x]) W'/\KpW D Bs W W')\/(e=.returned (.bool false)/\Jx (c++[x]) W'))
  (W:World) (M:W.cell? ⟨Bs,0,none⟩=some (.slice (some ⟨b,off,none⟩) l.length cap)) (ai:W.cell? ⟨Bf,0,none⟩=some (.int .i64 a)) (aj:W.cell? ⟨Bf,1,none⟩=some (.int .i64 p))
  (hc:∀i,i < l.length->∀j,j < Q0g.k->W.cell? ⟨b,off+i * Q0g.k+j,none⟩=(Q0g.cs (l.getD i Q0g.d))[j]?) (I:∀c W W',J c W->Below W.heap.size W W'->J c W') (P:D<=W.heap.size) (w:Bs < W.heap.size) (h0:J [] W):
  CallsIn Fence.wide n Tryz.prog 187 #[.func (.yield y) #[] #[],.pointer (some ⟨Bs,0,none⟩),.pointer (some ⟨Bf,0,none⟩)] W fun e W'=>(∃v,e=.returned v)/\
   ((∃ys,ys=Q2W (Q32 l (Q12 l.length a p)) l.length/\J ys W')\/(∃c,(∃k,k<=l.length/\c=Q2W (Q32 l (Q12 l.length a p)) k)/\Jx c W')):=by
 refine callsIn_of_wp Tryz.func187 rfl trivial ?_ rfl;simp only[Tryz.ntmps187,List.size_toArray,List.length_cons,List.length_nil,Nat.reduceAdd,Nat.reduceSub,Array.replicate_succ,Array.replicate_zero,List.push_toArray,List.append_toArray,List.nil_append,List.cons_append];have HC:=Q02 hc;have hh:=Q1v Y a p;clear hc
 gi_wp2_with (refine⟨trivial, ?_⟩;gi_at_call 157;refine(callsIn_wide.2 (Qcm (some ⟨b,off,none⟩) l.length cap a p W Y hl hf)).mono ?_;rintro e z ⟨rfl,A⟩;have N:=(A.cell (p:=⟨Bs,0,none⟩) w).trans M;have h:=Q02 A;clear A)
 have H:=Q02 (I _ _ _ h0 h.out);have ae:D<=z.heap.size:=Kdq P h.out.size;have G:Bs < z.heap.size:=Kbq w h.out.size
 have F:Hid (∀i,i < l.length->∀j,j < Q0g.k->z.cell? ⟨b,off+i * Q0g.k+j,none⟩=(Q0g.cs (l.getD i Q0g.d))[j]?):=fun i hi j hj=>(h.out.cell (p:=⟨b,off+i * Q0g.k+j,none⟩) (Kbq E P)).trans (HC.out i hi j hj)
 clear HC h0 M h
 gi_loopw [4,11] (fun at' i wr=> ∃k:Nat,k<=l.length/\i=.int .i64 k/\at'=.int .i64 (((Q12 l.length a p+k) % l.length:Nat))/\J (Q2W (Q32 l (Q12 l.length a p)) k) wr/\KpW D Bs z wr/\z.heap.size<=wr.heap.size)
  (fun _ i _=>l.length - (intOf i).toNat)
 case atStart=>exact⟨0,Kcq _,rfl,by rw[Nat.add_zero,Q2R hh],H.out,⟨KBq,rfl⟩,Kaq _⟩
 case round=>
  obtain⟨k,hk,rfl,rfl,u,⟨g,B⟩,T⟩:=hrel
  by_cases hlt:k < l.length
  ·have ad:=(Q3g (o:=0) B).trans N
   have hq:=Nat.mod_lt (Q12 l.length a p+k) Y;have m:=QfZ (Q12 l.length a p) k l.length;have O:=QgB l (Q12 l.length a p) k;have f:=RdL.slot (C:=D) F.out _ hq;have ab:=Q02 m;have t:=Q02 O;clear m O;generalize hqq:(Q12 l.length a p+k) % l.length=q at *;obtain⟨s,U⟩:∃s,l.getD q sl0=s:=⟨_,rfl⟩;rw[U]at f t;have e0:=(g.cell (p:=⟨b,off+q * 5,none⟩) E).trans f.1;have e1:=(g.cell (p:=⟨b,off+q * 5+1,none⟩) E).trans f.2.1;have e2:=(g.cell (p:=⟨b,off+q * 5+2,none⟩) E).trans f.2.2.1;have e3:=(g.cell (p:=⟨b,off+q * 5+3,none⟩) E).trans f.2.2.2.1
   have e4:=(g.cell (p:=⟨b,off+q * 5+4,none⟩) E).trans f.2.2.2.2
   have i1:(q:Int) < (l.length:Int):=by omega
   have i2:(k:Int) < (l.length:Int):=by omega
   obtain⟨fn,tmps,V,af,hy,X⟩:=hY _ (Q32 l (Q12 l.length a p) k) wr u (by rw[Qaz];exact hlt);rw[t.out]at hy X;dsimp only at hy X;have HK:=Q02 (show KpW D Bs z wr from⟨g,B⟩);have ag:=Q02 u;clear f U hqq g B u H F hY
   gi_wp2
   refine X.mono ?_;rintro e W3 (⟨rfl,hJ3,hk3⟩|⟨rfl,hJx3⟩)
   ·have ah:=(Q3g (o:=0) hk3.2).trans ad
    have Z:=Q02 hJ3;have aa:=Q02 (HK.out.trans hk3);have ac:Bs < W3.heap.size:=Kbq G (Kdq T hk3.1.size);have R:z.heap.size<=W3.heap.size:=Kdq T hk3.1.size;clear hJ3 hk3 X hy
    gi_wp2_with (refine⟨trivial, ?_⟩;gi_at_call 155;refine(callsIn_wide.2 (Q4J (some ⟨b,off,none⟩) l.length cap q W3 Y hl hq)).mono ?_;rintro e W4 ⟨rfl,L⟩;have r:=Q02 L;clear L)
    go_roundw
    case rel=>
     refine⟨k+1,by omega,by simp,by rw[ab.out];simp, ?_,aa.out.trans ⟨r.out.mono (Kdq ae R),r.out.block _ ac⟩,Kdq R r.out.size⟩;rw[Q3t,t.out];exact I _ _ _ Z.out r.out
    case measure=>simp[intOf];omega
   ·gi_wp2
    refine bodyPost_ret (results_none rfl _ _ _) rfl ?_;exact⟨⟨_,rfl⟩,.inr ⟨_,⟨k+1,by omega,by rw[Q3t,t.out]⟩,hJx3⟩⟩
  ·obtain rfl:k=l.length:=by omega
   gi_wp2
   go_end0
   exact⟨⟨_,rfl⟩,.inl ⟨_,rfl,u⟩⟩
theorem Qgd (n:Nat) (v:Value) (a p:Int) (w:World):
  CallsIn Fence.wide n Tryz.prog 178 #[tab v,Qg5 a p] w fun e b=>e=.returned (.func (.func 187) #[] #[.pointer (some ⟨w.heap.size,0,none⟩),.pointer (some ⟨w.heap.size+1,0,none⟩)])/\b=(w.alloc (.cells #[v] 89)).alloc (.cells #[.int .i64 a,.int .i64 p] 36):=by
 refine callsIn_of_wp Tryz.func178 rfl trivial ?_ rfl;simp only[Tryz.ntmps178,List.size_toArray,List.length_cons,List.length_nil,Nat.reduceAdd,Nat.reduceSub,Array.replicate_succ,Array.replicate_zero,List.push_toArray,List.append_toArray,List.nil_append,List.cons_append]
 gi_wp2
 go_ret;exact⟨rfl,rfl⟩
theorem QdN (n:Nat) (A:1<=n) (Bs Bf q b off cap:Nat) (l:List Sl) (a p:Int) (M:0 < l.length) (L:l.length<=1048576) (H:Q0o a p=true) (w:World) (h:Bs < w.heap.size) (g:Bf < w.heap.size) (s:b < q) (m:q<=w.heap.size)
  (u:w.cell? ⟨Bs,0,none⟩=some (.slice (some ⟨b,off,none⟩) l.length cap)) (v:w.cell? ⟨Bf,0,none⟩=some (.int .i64 a)) (z:w.cell? ⟨Bf,1,none⟩=some (.int .i64 p))
  (G:∀i,i < l.length->∀j,j < Q0g.k->w.cell? ⟨b,off+i * Q0g.k+j,none⟩=(Q0g.cs (l.getD i Q0g.d))[j]?):
  SeqStopsK Fence.wide n Tryz.prog 187 #[.pointer (some ⟨Bs,0,none⟩),.pointer (some ⟨Bf,0,none⟩)] (fun x:Met=> #[.int .i64 (x.1:Nat),slot x.2]) (KpW q Bs) (fun N=>N=Q2W (Q32 l (Q12 l.length a p)) l.length)
   (fun c=> ∃k,k<=l.length/\c=Q2W (Q32 l (Q12 l.length a p)) k) l.length w:=fun y J Jx W f E _ F D=>by
 have t:Below q w W:=f.mono m
 exact QfB n A y Bs Bf q b off cap l a p M L H s J Jx F W ((f.cell (p:=⟨Bs,0,none⟩) h).trans u) ((f.cell (p:=⟨Bf,0,none⟩) g).trans v) ((f.cell (p:=⟨Bf,1,none⟩) g).trans z)
  (fun i hi j I=>(t.cell (p:=⟨b,off+i * Q0g.k+j,none⟩) s).trans (G i hi j I))
  (fun c B C hs s=>E c B C none hs (Q8m s) (fun r e=>by cases e)) (Kdq m f.size) (Kbq h f.size) D
end Go.Proofs.YtpneolgdghbinaaGreat
