/- Several texts in one: SWay, SWay2. -/
import Derived.RangeFuncNested
import Derived.RangeFuncBound
import Derived.RangeFuncCalls
import Derived.RangeFuncLeaves
import Derived.RangeFuncBox
import Derived.Shelf.Abstract
import Derived.Shelf.RegionOpen
import Derived.OwnWalkIn
import Derived.TacticsInMore
import Derived.LoopNIn
import Derived.LoopIn
import Derived.Test.YtpneolgdghbinaaGreatQSends04
namespace Go.Proofs.YtpneolgdghbinaaGreat
open Go.ChangeShapes Go.WideShapes Go.ChangeAt Go.RowKit Go.Joins Go.Shelf
set_option linter.unusedVariables false
set_option linter.unusedSimpArgs false
set_option maxRecDepth 100000
set_option maxHeartbeats 40000000
attribute [local go_sem] Oper.semAt_some
abbrev Qfl (a p:Int):Value:=.agg #[.int .i64 a,.int .i64 p]
theorem Qfr (o:Option Addr) (n c:Nat) (a p:Int) (w:World) (hn:0 < n) (hl:n≤1048576) (hf:Q0f a p=true):
  Calls Tryz.prog 157 #[tab (.slice o n c),Qfl a p] w fun e w'=> e=.returned (.int .i64 (Q11 n a p))∧Below w.heap.size w w':=by
 have hB:Below w.heap.size w w:=Below.refl _ _;have hh:=QaK hn hf;have hlt:=Q1E hn a p;have h0:=Q0Y.1 hf
 have hne:¬((n:Int)=0):=by omega
 have hne':((n:Int)==0)=false:=by simpa using hne
 obtain ⟨h1,h2,h3,h4⟩:=h0
 go_enter Tryz.func157,Tryz.ntmps157
 go_wp2
 go_ret
 exact ⟨rfl,by (repeat (first|with_reducible (first|exact hB|exact Below.refl _ _|refine Below.drew ?_|refine below_drewN ?_ _|refine Below.alloc ?_ ?_ _|refine Below.setCell ?_ ?_ _)|(focus (simp;first|done|omega))|omega))⟩
theorem Qce (o:Option Addr) (n c i:Nat) (w:World) (hn:0 < n) (hl:n≤1048576) (hi:i < n):
  Calls Tryz.prog 155 #[tab (.slice o n c),.int .i64 i] w fun e w'=> e=.returned (.int .i64 ((i+1) % n:Nat))∧Below w.heap.size w w':=by
 have hB:Below w.heap.size w w:=Below.refl _ _;have hh:=Q5f n i;have hlt:=Q31 hn i
 have hne':((n:Int)==0)=false:=beq_eq_false_iff_ne.2 (by omega)
 go_enter Tryz.func155,Tryz.ntmps155
 go_wp2
 go_ret
 exact ⟨rfl,by (repeat (first|with_reducible (first|exact hB|exact Below.refl _ _|refine Below.drew ?_|refine below_drewN ?_ _|refine Below.alloc ?_ ?_ _|refine Below.setCell ?_ ?_ _)|(focus (simp;first|done|omega))|omega))⟩
abbrev Met:=Nat × Sl
def Q2T (l:List Sl) (h j:Nat):Met:=((h+j) % l.length,l.getD ((h+j) % l.length) sl0)
def Q2H (f:Nat→Met) (k:Nat):List Met:=(List.range k).map f
theorem Q3b (f:Nat→Met) (k:Nat):Q2H f (k+1)=Q2H f k++[f k]:=by simp [Q2H,List.range_succ]
theorem Q9i (f:Nat→Met) (k:Nat):(Q2H f k).length=k:=by simp [Q2H]
theorem Qc5 (f:Nat→Met) (k:Nat):Q2H f (k+1)=f 0::Q2H (fun j=> f (j+1)) k:=by
 simp [Q2H,List.range_succ_eq_map,Function.comp_def]
theorem QfF (f:Nat→Met) {k m:Nat} (h:k≤m):∃r,Q2H f m=Q2H f k++r:=by
 obtain ⟨d,rfl⟩:=Nat.exists_eq_add_of_le h
 induction d with
 |zero=> exact ⟨[],by simp⟩
 |succ d ih=> obtain ⟨r,hr⟩:=ih (by omega);exact ⟨r++[f (k+d)],by rw [←Nat.add_assoc,Q3b,hr,List.append_assoc]⟩
def Q35 (a p:Int) (x:Met):Option (Int × Bool):=if x.2.u=true then (if x.2.a=a∧x.2.p=p then some ((x.1:Int),true) else none) else some ((x.1:Int),false)
def Q7c (a p:Int) (l:List Met):Option (Int × Bool):=l.findSome? (Q35 a p)
theorem Q7k (a p:Int) (l:List Met) (x:Met) (h:Q7c a p l=none):Q7c a p (l++[x])=Q35 a p x:=by
 unfold Q7c at *
 rw [List.findSome?_append,h];simp
theorem Q9t (a p:Int) (l r:List Met) {E:Int × Bool} (h:Q7c a p l=some E):Q7c a p (l++r)=some E:=by
 unfold Q7c at *
 rw [List.findSome?_append,h];simp
theorem Q5w (l:List Sl) (hn:0 < l.length) (a p:Int):∀(f i:Nat),i < l.length→Q4x l a p f i=(Q7c a p (Q2H (Q2T l i) f)).getD (-1,false)
 |0,i,_=> rfl
 |f+1,i,hi=> by
  have e0:Q2T l i 0=(i,l.getD i sl0):=by simp [Q2T,Q2y hi]
  have es:(fun j=> Q2T l i (j+1))=Q2T l ((i+1) % l.length):=by
   funext j
   unfold Q2T
   rw [show (i+(j+1)) % l.length=((i+1) % l.length+j) % l.length by rw [Nat.add_mod ((i+1) % l.length),Nat.mod_mod,←Nat.add_mod];congr 1;omega]
  rw [Qc5,e0,es]
  unfold Q7c
  rw [List.findSome?_cons]
  cases hu:(l.getD i sl0).u with
  |false=> rw [Q4c hu,show Q35 a p (i,l.getD i sl0)=some ((i:Int),false) by unfold Q35;rw [if_neg (by rw [hu];decide)]];rfl
  |true=>
   by_cases h:(l.getD i sl0).a=a∧(l.getD i sl0).p=p
   ·rw [Q7a hu h.1 h.2,show Q35 a p (i,l.getD i sl0)=some ((i:Int),true) by unfold Q35;rw [if_pos hu,if_pos h]];rfl
   ·rw [Q5K hu h,show Q35 a p (i,l.getD i sl0)=none by unfold Q35;rw [if_pos hu,if_neg h]]
    exact Q5w l hn a p f _ (Q31 hn i)
theorem Qdh {l:List Sl} (hn:0 < l.length) {a p:Int} (h:Q7c a p (Q2H (Q2T l (Q11 l.length a p)) l.length)=none):Q1o l a p=(-1,false):=by
 unfold Q1o;rw [Q5w l hn a p _ _ (Q1E hn a p),h];rfl
theorem Q6E {l:List Sl} (hn:0 < l.length) {a p:Int} {k:Nat} {E:Int × Bool} (hk:k≤l.length) (h:Q7c a p (Q2H (Q2T l (Q11 l.length a p)) k)=some E):Q1o l a p=E:=by
 obtain ⟨r,hr⟩:=QfF (Q2T l (Q11 l.length a p)) hk
 unfold Q1o;rw [Q5w l hn a p _ _ (Q1E hn a p),hr,Q9t _ _ _ r h];rfl
attribute [local go_sem] Oper.semAt_some
def KpW (n₀ Bs:Nat) (W W':World):Prop:=Below n₀ W W'∧W'.heap[Bs]? =W.heap[Bs]?
theorem KpW.trans {n₀ Bs:Nat} {A B C:World} (h:KpW n₀ Bs A B) (k:KpW n₀ Bs B C):KpW n₀ Bs A C:=⟨h.1.trans k.1,k.2.trans h.2⟩
theorem Q33 {W W':World} {B o:Nat} (h:W'.heap[B]? =W.heap[B]?):W'.cell? ⟨B,o,none⟩=W.cell? ⟨B,o,none⟩:=by simp [World.cell?,h]
theorem Q7s {W W':World} (h:Below W.heap.size W W'):W.grownBy W' none:=⟨h.os,h.tape,h.output,h.size,fun k hk _=> h.block k hk⟩
theorem Qfu (h k n:Nat):(h+(k+1)) % n=((h+k) % n+1) % n:=by rw [Nat.mod_add_mod,Nat.add_assoc]
theorem QfP (l:List Sl) (h k:Nat):Q2T l h k=((h+k) % l.length,l.getD ((h+k) % l.length) sl0):=rfl
theorem Qdu (n:Nat) (hn1:1≤n) (y Bs Bf n₀ b off cap:Nat) (l:List Sl) (a p:Int) (hn:0 < l.length) (hl:l.length≤1048576) (hf:Q0f a p=true) (hb:b < n₀) (J Jx:List Met→World→Prop)
  (hY:∀pre x W,J pre W→pre.length < l.length→YieldAt Fence.wide (n - 1) Tryz.prog y #[.int .i64 (x.1:Nat),slot x.2] W fun e W'=>
   (e=.returned (.bool true)∧J (pre++[x]) W'∧KpW n₀ Bs W W')∨(e=.returned (.bool false)∧Jx (pre++[x]) W'))
  (W:World) (hc0:W.cell? ⟨Bs,0,none⟩=some (.slice (some ⟨b,off,none⟩) l.length cap)) (hf0:W.cell? ⟨Bf,0,none⟩=some (.int .i64 a)) (hf1:W.cell? ⟨Bf,1,none⟩=some (.int .i64 p))
  (hc:∀i,i < l.length→∀j,j < Q0h.k→W.cell? ⟨b,off+i * Q0h.k+j,none⟩=(Q0h.cs (l.getD i Q0h.d))[j]?) (hJA:∀pre W W',J pre W→Below W.heap.size W W'→J pre W') (hn0:n₀≤W.heap.size) (hBs0:Bs < W.heap.size) (h0:J [] W):
  CallsIn Fence.wide n Tryz.prog 187 #[.func (.yield y) #[] #[],.pointer (some ⟨Bs,0,none⟩),.pointer (some ⟨Bf,0,none⟩)] W fun e W'=> (∃v,e=.returned v)∧
   ((∃ys,ys=Q2H (Q2T l (Q11 l.length a p)) l.length∧J ys W')∨(∃pre,(∃k,k≤l.length∧pre=Q2H (Q2T l (Q11 l.length a p)) k)∧Jx pre W')):=by
 refine callsIn_of_wp Tryz.func187 rfl trivial ?_ rfl
 simp only [Tryz.ntmps187,List.size_toArray,List.length_cons,List.length_nil,Nat.reduceAdd,Nat.reduceSub,Array.replicate_succ,Array.replicate_zero,List.push_toArray,List.append_toArray,List.nil_append,List.cons_append]
 have HC:=Q02 hc;have hh:=Q1E hn a p;clear hc
 gi_wp2_with (refine ⟨trivial, ?_⟩;gi_at_call 157;refine (callsIn_wide.2 (Qfr (some ⟨b,off,none⟩) l.length cap a p W hn hl hf)).mono ?_;rintro e W2 ⟨rfl,hb2⟩;have hc0b:=(hb2.cell (p:=⟨Bs,0,none⟩) hBs0).trans hc0;have Hb2:=Q02 hb2;clear hb2)
 have hJ2:=Q02 (hJA _ _ _ h0 Hb2.out);have hn2:n₀≤W2.heap.size:=Kdq hn0 Hb2.out.size;have hBs2:Bs < W2.heap.size:=Kbq hBs0 Hb2.out.size
 have HC2:Hid (∀i,i < l.length→∀j,j < Q0h.k→W2.cell? ⟨b,off+i * Q0h.k+j,none⟩=(Q0h.cs (l.getD i Q0h.d))[j]?):=fun i hi j hj=> (Hb2.out.cell (p:=⟨b,off+i * Q0h.k+j,none⟩) (Kbq hb hn0)).trans (HC.out i hi j hj)
 clear HC h0 hc0 Hb2
 gi_loopw [4,11] (fun at' i wr=> ∃k:Nat,k≤l.length∧i=.int .i64 k∧at'=.int .i64 (((Q11 l.length a p+k) % l.length:Nat))∧J (Q2H (Q2T l (Q11 l.length a p)) k) wr∧KpW n₀ Bs W2 wr∧W2.heap.size≤wr.heap.size)
  (fun _ i _=> l.length - (intOf i).toNat)
 case atStart=> exact ⟨0,Kcq _,rfl,by rw [Nat.add_zero,Q2y hh],hJ2.out,⟨Below.refl _ _,rfl⟩,Kaq _⟩
 case round=>
  obtain ⟨k,hk,rfl,rfl,hJs,⟨hnx,hbx⟩,hsz⟩:=hrel
  by_cases hlt:k < l.length
  ·have hcr:=(Q33 (o:=0) hbx).trans hc0b
   have hq:=Nat.mod_lt (Q11 l.length a p+k) hn;have hstep:=Qfu (Q11 l.length a p) k l.length;have hkx:=QfP l (Q11 l.length a p) k;have hcx:=RdL.slot (C:=n₀) HC2.out _ hq;have Hst:=Q02 hstep;have Hkx:=Q02 hkx;clear hstep hkx;generalize hqq:(Q11 l.length a p+k) % l.length=q at *;obtain ⟨s,hxy⟩:∃s,l.getD q sl0=s:=⟨_,rfl⟩
   rw [hxy] at hcx Hkx
   have e0:=(hnx.cell (p:=⟨b,off+q * 5,none⟩) hb).trans hcx.1;have e1:=(hnx.cell (p:=⟨b,off+q * 5+1,none⟩) hb).trans hcx.2.1;have e2:=(hnx.cell (p:=⟨b,off+q * 5+2,none⟩) hb).trans hcx.2.2.1;have e3:=(hnx.cell (p:=⟨b,off+q * 5+3,none⟩) hb).trans hcx.2.2.2.1;have e4:=(hnx.cell (p:=⟨b,off+q * 5+4,none⟩) hb).trans hcx.2.2.2.2
   have i1:(q:Int) < (l.length:Int):=by omega
   have i2:(k:Int) < (l.length:Int):=by omega
   obtain ⟨fn,tmps,assign,body,hy,hR⟩:=hY _ (Q2T l (Q11 l.length a p) k) wr hJs (by rw [Q9i];exact hlt)
   rw [Hkx.out] at hy hR
   dsimp only at hy hR
   have HK:=Q02 (show KpW n₀ Bs W2 wr from ⟨hnx,hbx⟩);have HJs:=Q02 hJs;clear hcx hxy hqq hnx hbx hJs hJ2 HC2 hY
   gi_wp2
   refine hR.mono ?_
   rintro e W3 (⟨rfl,hJ3,hk3⟩|⟨rfl,hJx3⟩)
   ·have hc3:=(Q33 (o:=0) hk3.2).trans hcr
    have HJ3:=Q02 hJ3;have HK3:=Q02 (HK.out.trans hk3);have hB3:Bs < W3.heap.size:=Kbq hBs2 (Kdq hsz hk3.1.size);have hs3:W2.heap.size≤W3.heap.size:=Kdq hsz hk3.1.size;clear hJ3 hk3 hR hy
    gi_wp2_with (refine ⟨trivial, ?_⟩;gi_at_call 155;refine (callsIn_wide.2 (Qce (some ⟨b,off,none⟩) l.length cap q W3 hn hl hq)).mono ?_;rintro e W4 ⟨rfl,hb4⟩;have Hb4:=Q02 hb4;clear hb4)
    go_roundw
    case rel=>
     refine ⟨k+1,by omega,by simp,by rw [Hst.out];simp, ?_,HK3.out.trans ⟨Hb4.out.mono (Kdq hn2 hs3),Hb4.out.block _ hB3⟩,Kdq hs3 Hb4.out.size⟩
     rw [Q3b,Hkx.out]
     exact hJA _ _ _ HJ3.out Hb4.out
    case measure=> simp [intOf];omega
   ·gi_wp2
    refine bodyPost_ret (results_none rfl _ _ _) rfl ?_
    exact ⟨⟨_,rfl⟩,.inr ⟨_,⟨k+1,by omega,by rw [Q3b,Hkx.out]⟩,hJx3⟩⟩
  ·obtain rfl:k=l.length:=by omega
   gi_wp2
   go_end0
   exact ⟨⟨_,rfl⟩,.inl ⟨_,rfl,hJs⟩⟩
theorem QeT (n:Nat) (v:Value) (a p:Int) (w:World):
  CallsIn Fence.wide n Tryz.prog 178 #[tab v,Qfl a p] w fun e w'=> e=.returned (.func (.func 187) #[] #[.pointer (some ⟨w.heap.size,0,none⟩),.pointer (some ⟨w.heap.size+1,0,none⟩)])∧w'=(w.alloc (.cells #[v] 89)).alloc (.cells #[.int .i64 a,.int .i64 p] 36):=by
 refine callsIn_of_wp Tryz.func178 rfl trivial ?_ rfl
 simp only [Tryz.ntmps178,List.size_toArray,List.length_cons,List.length_nil,Nat.reduceAdd,Nat.reduceSub,Array.replicate_succ,Array.replicate_zero,List.push_toArray,List.append_toArray,List.nil_append,List.cons_append]
 gi_wp2
 go_ret
 exact ⟨rfl,rfl⟩
theorem Qeo (n:Nat) (hn1:1≤n) (Bs Bf n₀ b off cap:Nat) (l:List Sl) (a p:Int) (hn:0 < l.length) (hl:l.length≤1048576) (hf:Q0f a p=true) (w:World) (hBs:Bs < w.heap.size) (hBf:Bf < w.heap.size) (hb:b < n₀) (hn₀:n₀≤w.heap.size)
  (hc0:w.cell? ⟨Bs,0,none⟩=some (.slice (some ⟨b,off,none⟩) l.length cap)) (hf0:w.cell? ⟨Bf,0,none⟩=some (.int .i64 a)) (hf1:w.cell? ⟨Bf,1,none⟩=some (.int .i64 p))
  (hc:∀i,i < l.length→∀j,j < Q0h.k→w.cell? ⟨b,off+i * Q0h.k+j,none⟩=(Q0h.cs (l.getD i Q0h.d))[j]?):
  SeqStopsK Fence.wide n Tryz.prog 187 #[.pointer (some ⟨Bs,0,none⟩),.pointer (some ⟨Bf,0,none⟩)] (fun x:Met=> #[.int .i64 (x.1:Nat),slot x.2]) (KpW n₀ Bs) (fun ys=> ys=Q2H (Q2T l (Q11 l.length a p)) l.length)
   (fun pre=> ∃k,k≤l.length∧pre=Q2H (Q2T l (Q11 l.length a p)) k) l.length w:=fun y J Jx W hW hJ _ hY h0=> by
 have hWn:Below n₀ w W:=hW.mono hn₀
 exact Qdu n hn1 y Bs Bf n₀ b off cap l a p hn hl hf hb J Jx hY W ((hW.cell (p:=⟨Bs,0,none⟩) hBs).trans hc0) ((hW.cell (p:=⟨Bf,0,none⟩) hBf).trans hf0) ((hW.cell (p:=⟨Bf,1,none⟩) hBf).trans hf1)
  (fun i hi j hj=> (hWn.cell (p:=⟨b,off+i * Q0h.k+j,none⟩) hb).trans (hc i hi j hj))
  (fun pre W1 W2 hs hb=> hJ pre W1 W2 none hs (Q7s hb) (fun r e=> by cases e)) (Kdq hn₀ hW.size) (Kbq hBs hW.size) h0
end Go.Proofs.YtpneolgdghbinaaGreat
