/- Several texts in one: LSlot, ShT, TableMath, Backs, SBacks, STabS, STabS2, STabS3. -/
import Derived.Deep.RegionHeld3
import Derived.Test.YtpneolgdghbinaaGreatQCrashesL03
namespace Go.Proofs.YtpneolgdghbinaaGreat
open Go.ChangeShapes Go.WideShapes Go.ChangeAt Go.RowKit Go.Joins
set_option linter.unusedVariables false
set_option linter.unusedSimpArgs false
set_option maxRecDepth 100000
set_option maxHeartbeats 40000000
structure Sl where
 u:Bool
 a:Int
 p:Int
 v:Int
 t:Int
abbrev sl0:Sl:=⟨false,0,0,0,0⟩
def Q0g:Lay Sl:=⟨5,fun s=> [.bool s.u,.int .i64 s.a,.int .i64 s.p,.int .i64 s.v,.int .i64 s.t],sl0,fun _=>rfl⟩
abbrev slot (s:Sl):Value:=.agg #[.bool s.u,.int .i64 s.a,.int .i64 s.p,.int .i64 s.v,.int .i64 s.t]
abbrev RdS:=RdL Q0g
abbrev Qgb:=ownL Q0g 101
abbrev InS:=InL Q0g 101
theorem RdL.slot {C:Nat} {w:World} {b off:Nat} {l:List Sl} (h:∀i,i < l.length->∀j,j < Q0g.k->w.cell? ⟨b,off+i * Q0g.k+j,none⟩=(Q0g.cs (l.getD i Q0g.d))[j]?) (i:Nat) (hi:i < l.length):
  w.cell? ⟨b,off+i * 5,none⟩=some (.bool (l.getD i sl0).u)/\w.cell? ⟨b,off+i * 5+1,none⟩=some (.int .i64 (l.getD i sl0).a)/\w.cell? ⟨b,off+i * 5+2,none⟩=some (.int .i64 (l.getD i sl0).p)/\w.cell? ⟨b,off+i * 5+3,none⟩=some (.int .i64 (l.getD i sl0).v)/\w.cell? ⟨b,off+i * 5+4,none⟩=some (.int .i64 (l.getD i sl0).t):=
 ⟨h i hi 0 (by decide),h i hi 1 (by decide),h i hi 2 (by decide),h i hi 3 (by decide),h i hi 4 (by decide)⟩
theorem Q9O {α:Type} (L:Lay α) (b:L.k=5) {f g h j m:Value} {a:α} (d:L.cs a=[f,g,h,j,m]):∀(l:List α) (i:Nat),(((((l.flatMap L.cs).set (i * 5) f).set (i * 5+1) g).set (i * 5+2) h).set (i * 5+3) j).set (i * 5+4) m=(l.set i a).flatMap L.cs
 |[],i=>by simp
 |q::l,0=>by
  have c:=(L.len q).trans b
  match hc:L.cs q,c with
  |[q0,q1,q2,q3,q4],_=>simp[d,hc]
 |q::l,i+1=>by
  have c:=(L.len q).trans b
  match hc:L.cs q,c with
  |[q0,q1,q2,q3,q4],_=>
   rw[show(i+1) * 5=i * 5+1+1+1+1+1 by omega];simp only[List.flatMap_cons,hc,List.cons_append,List.nil_append,List.set_cons_succ];rw[Q9O L b d l i]
theorem Q6Y:(Tryz.prog.info? 101).map (fun i=>(i.zero,i.size,i.bytes))=some (some (.agg #[.bool false,.int .i64 0,.int .i64 0,.int .i64 0,.int .i64 0]),5,40):=by kernel_rfl
theorem Q3Q {e:TypeId} {w wr:World} {base B g c n:Nat} {l:List Sl} {k:Nat} (s:Sl) (b:B<=g) (d:wr.ownsRow base e 5 (.slice (some ⟨g,0,none⟩) n c) n (l.flatMap Q0g.cs)) (f:Below B w wr):
  (((((wr.setCell ⟨g,k * 5,none⟩ (.bool s.u)).setCell ⟨g,k * 5+1,none⟩ (.int .i64 s.a)).setCell ⟨g,k * 5+2,none⟩ (.int .i64 s.p)).setCell ⟨g,k * 5+3,none⟩ (.int .i64 s.v)).setCell ⟨g,k * 5+4,none⟩ (.int .i64 s.t)).ownsRow base e 5 (.slice (some ⟨g,0,none⟩) n c) n ((l.set k s).flatMap Q0g.cs)/\
   Below B w (((((wr.setCell ⟨g,k * 5,none⟩ (.bool s.u)).setCell ⟨g,k * 5+1,none⟩ (.int .i64 s.a)).setCell ⟨g,k * 5+2,none⟩ (.int .i64 s.p)).setCell ⟨g,k * 5+3,none⟩ (.int .i64 s.v)).setCell ⟨g,k * 5+4,none⟩ (.int .i64 s.t)):=by
 have h:=(((((d.stored (k * 5) (.bool s.u)).1.stored (k * 5+1) (.int .i64 s.a)).1.stored (k * 5+2) (.int .i64 s.p)).1.stored (k * 5+3) (.int .i64 s.v)).1.stored (k * 5+4) (.int .i64 s.t)).1;rw[Q9O Q0g rfl (a:=s) rfl]at h;exact⟨h,((((f.setCell (p:=⟨g,k * 5,none⟩) b _).setCell (p:=⟨g,k * 5+1,none⟩) b _).setCell (p:=⟨g,k * 5+2,none⟩) b _).setCell (p:=⟨g,k * 5+3,none⟩) b _).setCell (p:=⟨g,k * 5+4,none⟩) b _⟩
abbrev tab (v:Value):Value:=.agg #[v]
theorem Q0k {W:World} {B:Nat} {c:Array Value} {t:TypeId} (h:W.heap[B]? =some (.cells c t (0,0))) (j:Nat) (u:Value) (hj:c[j]? =some u):W.cell? ⟨B,j,none⟩=some u:=by
 simp[World.cell?,h,hj]
def RdT (C:Nat) (w:World) (v:Value) (l:List Sl):Prop:=∃vl,v=tab vl/\RdV Q0g C w vl l
def InTb (lo hi:Nat) (w:World) (v:Value) (l:List Sl):Prop:=∃vl,v=tab vl/\InS lo hi w vl l
theorem RdT.le {C D:Nat} {w:World} {v:Value} {m:List Sl} (h:RdT C w v m) (hc:C<=D):RdT D w v m:=by
 obtain⟨vl,e,h1⟩:=h;exact⟨vl,e,h1.le hc⟩
theorem InTb.rd {lo hi:Nat} {w:World} {v:Value} {m:List Sl} (h:InTb lo hi w v m):RdT hi w v m:=by
 obtain⟨vl,e,h1⟩:=h;exact⟨vl,e,InL.rd (L:=Q0g) h1⟩
theorem InTb.step {a b lo hi:Nat} {w w':World} {v:Value} {m:List Sl} (h:InTb a b w v m) (s:Stp lo hi w w') (hd:hi<=a\/b<=lo):InTb a b w' v m:=by
 obtain⟨vl,e,h1⟩:=h;exact⟨vl,e,InRow.step h1 s hd⟩
theorem InTb.row {lo hi:Nat} {w:World} {v:Value} {l:List Sl} (h:InTb lo hi w (tab v) l):InS lo hi w v l:=by
 obtain⟨vl,e,h1⟩:=h;injection e with e;simp at e;subst e;exact h1
def Q12 (n:Nat) (a p:Int):Nat:=((a * 31+p) % (n:Int)).toNat
theorem Q1v {n:Nat} (c:0 < n) (a p:Int):Q12 n a p < n:=by
 unfold Q12;have b:=Int.emod_nonneg (a * 31+p) (show(n:Int)≠0 by omega);have h2:=Int.emod_lt_of_pos (a * 31+p) (show(0:Int) < n by omega);omega
theorem Qds {n:Nat} (hn:0 < n) (a p:Int):((Q12 n a p:Nat):Int)=(a * 31+p) % (n:Int):=by
 unfold Q12;have h1:=Int.emod_nonneg (a * 31+p) (show(n:Int)≠0 by omega);omega
theorem Q8D {n:Nat} (hn:0 < n) {a p:Int} (h:Q0o a p=true):(a * 31+p).tmod (n:Int)=((Q12 n a p:Nat):Int):=by
 rw[Qds hn,Int.tmod_eq_emod_of_nonneg];have:=Q2K.1 h;omega
theorem Qbq {n:Nat} (hn:0 < n) {a p:Int} (h:Q0o a p=true):(31 * a+p).tmod (n:Int)=((Q12 n a p:Nat):Int):=by
 rw[Int.mul_comm];exact Q8D hn h
theorem Q5v (n i:Nat):((i:Int)+1).tmod (n:Int)=(((i+1) % n:Nat):Int):=by
 rw[Int.tmod_eq_emod_of_nonneg (by omega)];simp
def Q1t (n i k:Nat):Nat:=(k+n - i) % n
theorem Q9z {n i k:Nat} (hi:i < n) (a:k < n):((k:Int) - (i:Int)+(n:Int)).tmod (n:Int)=((Q1t n i k:Nat):Int):=by
 rw[Int.tmod_eq_emod_of_nonneg (by omega),show(k:Int) - i+n=((k+n - i:Nat):Int)by omega];simp[Q1t]
theorem Q3f {n:Nat} (hn:0 < n) (i:Nat):(i+1) % n < n:=Nat.mod_lt _ hn
def Q57 (l:List Sl) (a p:Int):Nat->Nat->Int × Bool
 |0,_=>(-1,false)
 |f+1,i=>if(l.getD i sl0).u=true then(if(l.getD i sl0).a=a/\(l.getD i sl0).p=p then((i:Int),true)else Q57 l a p f ((i+1) % l.length))else((i:Int),false)
def Q1n (l:List Sl) (a p:Int):Int × Bool:=Q57 l a p l.length (Q12 l.length a p)
theorem Q4M {l:List Sl} {a p:Int} {f i:Nat} (h:(l.getD i sl0).u=false):Q57 l a p (f+1) i=((i:Int),false):=by simp only[Q57,h];simp
theorem Q73 {l:List Sl} {a p:Int} {f i:Nat} (h:(l.getD i sl0).u=true) (h1:(l.getD i sl0).a=a) (h2:(l.getD i sl0).p=p):Q57 l a p (f+1) i=((i:Int),true):=by simp only[Q57,h,h1,h2];simp
theorem Q5Y {l:List Sl} {a p:Int} {f i:Nat} (h:(l.getD i sl0).u=true) (h1:¬((l.getD i sl0).a=a/\(l.getD i sl0).p=p)):Q57 l a p (f+1) i=Q57 l a p f ((i+1) % l.length):=by simp only[Q57,h,h1];simp
theorem Q7s (l:List Sl) (b:0 < l.length) (a p:Int):∀(f i:Nat),i < l.length->Q57 l a p f i=(-1,false)\/∃k,k < l.length/\((Q57 l a p f i=((k:Int),false)/\(l.getD k sl0).u=false)\/(Q57 l a p f i=((k:Int),true)/\(l.getD k sl0).u=true/\(l.getD k sl0).a=a/\(l.getD k sl0).p=p))
 |0,i,_=> .inl rfl
 |f+1,i,hi=>by
  cases hu:(l.getD i sl0).u with
  |false=>exact .inr ⟨i,hi,.inl ⟨Q4M hu,hu⟩⟩
  |true=>
   by_cases h:(l.getD i sl0).a=a/\(l.getD i sl0).p=p
   ·exact .inr ⟨i,hi,.inr ⟨Q73 hu h.1 h.2,hu,h.1,h.2⟩⟩
   ·rw[Q5Y hu h]
    exact Q7s l b a p f _ (Q3f b i)
theorem Q2g (l:List Sl) (b:0 < l.length) (a p:Int):Q1n l a p=(-1,false)\/∃k,k < l.length/\((Q1n l a p=((k:Int),false)/\(l.getD k sl0).u=false)\/(Q1n l a p=((k:Int),true)/\(l.getD k sl0).u=true/\(l.getD k sl0).a=a/\(l.getD k sl0).p=p)):=
 Q7s l b a p _ _ (Q1v b a p)
def Q29 (s:Sl):Bool:=if s.u=true then Q0o s.a s.p && decide (0<=s.v) && decide (s.v<=100000) && decide (0<=s.t) && decide (s.t<=200000)else decide (s.a=0) && decide (s.p=0) && decide (s.v=0) && decide (s.t=0)
theorem Q4L {s:Sl} (h:s.u=true):Q29 s=true↔Q0o s.a s.p=true/\0<=s.v/\s.v<=100000/\0<=s.t/\s.t<=200000:=by simp[Q29,h,and_assoc]
theorem QcQ {s:Sl} (h:s.u=false):Q29 s=true↔s=sl0:=by
 obtain⟨u,a,p,v,t⟩:=s;simp at h;subst h;simp[Q29,and_assoc]
def Q9N (l:List Sl) (i:Nat):Bool:= !(l.getD i sl0).u||(Q1n l (l.getD i sl0).a (l.getD i sl0).p==((i:Int),true))
def Q3M (l:List Sl) (i:Nat):Bool:=Q29 (l.getD i sl0) && Q9N l i
def Q0e (l:List Sl):Bool:=decide (1<=l.length) && decide (l.length<=16) && (List.range l.length).all (Q3M l)
theorem Q0d {l:List Sl}:Q0e l=true↔1<=l.length/\l.length<=16/\∀i,i < l.length->Q3M l i=true:=by simp[Q0e,and_assoc]
theorem Qa7 {l:List Sl} (h1:1<=l.length) (h2:l.length<=16) (h:∀i,i < l.length->Q3M l i=true):true=Q0e l:=(Q0d.2 ⟨h1,h2,h⟩).symm
theorem Q2F {l:List Sl} {i:Nat} (hi:i < l.length) (h:Q3M l i=false):false=Q0e l:=by
 cases hb:Q0e l with
 |false=>rfl
 |true=>rw[(Q0d.1 hb).2.2 i hi]at h;cases h
theorem Q6m {l:List Sl} (h:¬(1<=l.length/\l.length<=16)):false=Q0e l:=by
 cases hb:Q0e l with
 |false=>rfl
 |true=>exact absurd ⟨(Q0d.1 hb).1,(Q0d.1 hb).2.1⟩ h
theorem Q4I {l:List Sl} {i:Nat} (h:Q29 (l.getD i sl0)=false):Q3M l i=false:=by unfold Q3M;rw[h];rfl
theorem QdU {l:List Sl} {i:Nat} (b:(l.getD i sl0).u=true) (h:Q1n l (l.getD i sl0).a (l.getD i sl0).p≠((i:Int),true)):Q3M l i=false:=by unfold Q3M Q9N;rw[b,beq_eq_false_iff_ne.2 h];cases Q29 (l.getD i sl0) <;> rfl
theorem Q4u {l:List Sl} {i:Nat} (hu:(l.getD i sl0).u=false) (h:Q29 (l.getD i sl0)=true):Q3M l i=true:=by unfold Q3M Q9N;rw[hu,h];rfl
theorem Q4x {l:List Sl} {i:Nat} (h:Q29 (l.getD i sl0)=true) (h':Q1n l (l.getD i sl0).a (l.getD i sl0).p=((i:Int),true)):Q3M l i=true:=by unfold Q3M Q9N;rw[h,h'];cases(l.getD i sl0).u <;> simp
def Qhh (l:List Sl) (k:Nat):Prop:=∀i,i < k->Q3M l i=true
theorem Q8L {l:List Sl} {k:Nat} (h:Qhh l k) (hk:Q3M l k=true):Qhh l (k+1):=fun i hi=>by
 rcases Nat.lt_succ_iff_lt_or_eq.1 hi with h1|h1
 ·exact h i h1
 ·rw[h1];exact hk
def Q7Z (l:List Sl) (k:Nat):Prop:=∀i,i < k->Q29 (l.getD i sl0)=true
theorem QaW {l:List Sl} {k:Nat} (h:Q7Z l k) (hk:Q29 (l.getD k sl0)=true):Q7Z l (k+1):=fun i hi=>by
 rcases Nat.lt_succ_iff_lt_or_eq.1 hi with h1|h1
 ·exact h i h1
 ·rw[h1];exact hk
def Q6R (l:List Sl) (a p v t:Int):List Sl:=if 0<=(Q1n l a p).1 then l.set (Q1n l a p).1.toNat ⟨true,a,p,v,t⟩else l
theorem QbB (l:List Sl) (a p v t:Int):(Q6R l a p v t).length=l.length:=by unfold Q6R;split <;> simp
def Qbd (l:List Sl) (a p:Int):Sl:=if(Q1n l a p).2=true then l.getD (Q1n l a p).1.toNat sl0 else sl0
def Q7G:Nat->(Nat->Nat)->Nat
 |0,_=> 0
 |n+1,f=>Q7G n f+f n
theorem Q8G:∀(n:Nat) {f g:Nat->Nat},(∀x,x < n->f x=g x)->Q7G n f=Q7G n g
 |0,_,_,_=>rfl
 |n+1,f,g,h=>by simp only[Q7G];rw[Q8G n (fun x hx=>h x (by omega)),h n (by omega)]
theorem Q5g:∀(n:Nat) {f g:Nat->Nat} {j:Nat},j < n->(∀x,x≠j->f x=g x)->Q7G n f+g j=Q7G n g+f j
 |0,_,_,_,h,_=>absurd h (KMq _)
 |n+1,f,g,j,h,he=>by
  simp only[Q7G]
  by_cases e:j=n
  ·subst e
   rw[Q8G j (fun x b=>he x (by omega))];omega
  ·have:=Q5g n (show j < n by omega) he
   rw[he n (fun a=>e a.symm)];omega
def wt (n:Nat) (l:List Sl) (j:Nat):Nat:=if(l.getD j sl0).u=true then Q1t n (Q12 n (l.getD j sl0).a (l.getD j sl0).p) j else 0
def phi (l:List Sl):Nat:=Q7G l.length (wt l.length l)
def Qf9 (l:List Sl) (i k:Nat):Nat:=phi l * 17+Q1t l.length k i
def Q4O (n:Nat) (l:List Sl) (i k:Nat):Bool:=decide (Q1t n i k<=Q1t n (Q12 n (l.getD k sl0).a (l.getD k sl0).p) k)
def Q2s (n:Nat):Nat->List Sl->Nat->Nat->List Sl
 |0,l,_,_=>l
 |f+1,l,i,k=>if(l.getD k sl0).u=true then(if Q4O n l i k=true then Q2s n f ((l.set i (l.getD k sl0)).set k sl0) k ((k+1) % n)else Q2s n f l i ((k+1) % n))else l
def Q1u (l:List Sl) (i:Nat):List Sl:=Q2s l.length (Qf9 (l.set i sl0) i ((i+1) % l.length)+1) (l.set i sl0) i ((i+1) % l.length)
theorem Qdh {n f i k:Nat} {l:List Sl} (h:(l.getD k sl0).u=false):Q2s n (f+1) l i k=l:=by simp only[Q2s,h];simp
theorem QbD {n f i k:Nat} {l:List Sl} (h:(l.getD k sl0).u=true) (hm:Q4O n l i k=true):Q2s n (f+1) l i k=Q2s n f ((l.set i (l.getD k sl0)).set k sl0) k ((k+1) % n):=by simp only[Q2s,h,hm];simp
theorem Qbv {n f i k:Nat} {l:List Sl} (h:(l.getD k sl0).u=true) (hm:Q4O n l i k=false):Q2s n (f+1) l i k=Q2s n f l i ((k+1) % n):=by simp only[Q2s,h,hm];simp
theorem Q1b (l:List Sl) (i:Nat) (s:Sl) (h:i < l.length):(l.set i s).getD i sl0=s:=by simp[h]
theorem Q2b (l:List Sl) (i j:Nat) (s:Sl) (h:i≠j):(l.set i s).getD j sl0=l.getD j sl0:=by
 simp[List.getElem?_set,h]
theorem Q2R {a n:Nat} (h:a < n):a % n=a:=Nat.mod_eq_of_lt h
theorem Q9d {a n:Nat} (h1:n<=a) (h2:a < n+n):a % n=a - n:=by rw[Nat.mod_eq_sub_mod h1,Nat.mod_eq_of_lt (by omega)]
theorem Q0X {n i k:Nat} (hi:i < n) (hk:k < n):Q1t n i k=if i<=k then k - i else k+n - i:=by
 unfold Q1t
 by_cases h:i<=k
 ·rw[if_pos h,Q9d (by omega) (by omega)];omega
 ·rw[if_neg h,Q2R (by omega)]
theorem QhA {n k:Nat} (hk:k < n):(k+1) % n=if k+1=n then 0 else k+1:=by
 by_cases h:k+1=n
 ·rw[if_pos h,h,Nat.mod_self]
 ·rw[if_neg h,Q2R (by omega)]
theorem QeY {l:List Sl} {i k:Nat} (hi:i < l.length) (a:k < l.length) (c:k≠i):Qf9 l i ((k+1) % l.length) < Qf9 l i k:=by
 unfold Qf9;have b:=Q3f (n:=l.length) (by omega) k;rw[Q0X b hi,Q0X a hi,QhA a]
 split <;> (repeat' split) <;> omega
theorem QfA {l:List Sl} {i k:Nat} (D:l.length<=16) (hi:i < l.length) (c:k < l.length) (b:(l.getD i sl0).u=false) (q:(l.getD k sl0).u=true) (hm:Q4O l.length l i k=true):
  Qf9 ((l.set i (l.getD k sl0)).set k sl0) k ((k+1) % l.length) < Qf9 l i k:=by
 have m:i≠k:=fun e=>by rw[e,q]at b;cases b
 unfold Qf9 phi;rw[show((l.set i (l.getD k sl0)).set k sl0).length=l.length by simp];have s:=Q5g l.length (f:=wt l.length ((l.set i (l.getD k sl0)).set k sl0)) (g:=wt l.length (l.set i (l.getD k sl0))) c (fun x r=>by unfold wt;rw[Q2b _ k x _ (fun e=>r e.symm)]);have t:=Q5g l.length (f:=wt l.length (l.set i (l.getD k sl0))) (g:=wt l.length l) hi (fun x r=>by unfold wt;rw[Q2b _ i x _ (fun e=>r e.symm)])
 have v:wt l.length ((l.set i (l.getD k sl0)).set k sl0) k=0:=by unfold wt;rw[Q1b _ _ _ (by simpa using c)];rfl
 have w:wt l.length (l.set i (l.getD k sl0)) k=Q1t l.length (Q12 l.length (l.getD k sl0).a (l.getD k sl0).p) k:=by unfold wt;rw[Q2b _ i k _ m,q];rfl
 have y:wt l.length (l.set i (l.getD k sl0)) i=Q1t l.length (Q12 l.length (l.getD k sl0).a (l.getD k sl0).p) i:=by unfold wt;rw[Q1b _ _ _ hi,q];rfl
 have z:wt l.length l i=0:=by unfold wt;rw[b];rfl
 rw[v,w]at s;rw[y,z]at t;have j:=Q1v (show 0 < l.length by omega) (l.getD k sl0).a (l.getD k sl0).p
 have d:Q1t l.length i k<=Q1t l.length (Q12 l.length (l.getD k sl0).a (l.getD k sl0).p) k:=by simpa[Q4O]using hm
 generalize Q12 l.length (l.getD k sl0).a (l.getD k sl0).p=h at *;have A:=Q3f (n:=l.length) (by omega) k
 have B:Q1t l.length h i+1<=Q1t l.length h k:=by
  rw[Q0X hi c,Q0X j c]at d;rw[Q0X j hi,Q0X j c]
  (repeat' split at d) <;> (repeat' split) <;> omega
 have C:Q1t l.length ((k+1) % l.length) k < 16:=by
  have:Q1t l.length ((k+1) % l.length) k < l.length:=Nat.mod_lt _ (by omega);omega
 omega
abbrev Bk:=Int × Int × Bool
def Q16:Lay Bk:=⟨3,fun a=> [.int .i64 a.1,.int .i64 a.2.1,.bool a.2.2],(0,0,false),fun _=>rfl⟩
abbrev back (i g:Int) (d:Bool):Value:=.agg #[.int .i64 i,.int .i64 g,.bool d]
abbrev RdK:=RdL Q16
abbrev Q1e:=ownL Q16 119
theorem RdL.back {C:Nat} {w:World} {b off:Nat} {l:List Bk} (h:∀i,i < l.length->∀j,j < Q16.k->w.cell? ⟨b,off+i * Q16.k+j,none⟩=(Q16.cs (l.getD i Q16.d))[j]?) (i:Nat) (hi:i < l.length):
  w.cell? ⟨b,off+i * 3,none⟩=some (.int .i64 (l.getD i (0,0,false)).1)/\w.cell? ⟨b,off+i * 3+1,none⟩=some (.int .i64 (l.getD i (0,0,false)).2.1)/\w.cell? ⟨b,off+i * 3+2,none⟩=some (.bool (l.getD i (0,0,false)).2.2):=
 ⟨h i hi 0 (by decide),h i hi 1 (by decide),h i hi 2 (by decide)⟩
theorem Qc2:(Tryz.prog.info? 119).map (fun i=>(i.zero,i.size,i.bytes))=some (some (.agg #[.int .i64 0,.int .i64 0,.bool false]),3,24):=by kernel_rfl
def Q3K (i g:Int):Bool:=decide (0<=i) && decide (i < 6) && decide (1<=g) && decide (g<=100)
theorem Q5L {i g:Int}:Q3K i g=true↔0<=i/\i < 6/\1<=g/\g<=100:=by simp[Q3K,and_assoc]
def Qce (l:List Bk) (i:Nat):Bool:=Q3K (l.getD i (0,0,false)).1 (l.getD i (0,0,false)).2.1 && (decide (i=0)||decide ((l.getD (i - 1) (0,0,false)).1 < (l.getD i (0,0,false)).1))
def Qir (l:List Bk) (k:Nat):Prop:=∀i,i < k->Qce l i=true
def Q0b (l:List Bk):Bool:=(List.range l.length).all (Qce l)
theorem Q1k {l:List Bk}:Q0b l=true↔Qir l l.length:=by simp[Q0b,Qir]
theorem Qa0 {l:List Bk} {k:Nat} (h:Qir l k) (hk:Qce l k=true):Qir l (k+1):=fun i hi=>by
 rcases Nat.lt_succ_iff_lt_or_eq.1 hi with h1|h1
 ·exact h i h1
 ·rw[h1];exact hk
theorem Q58 {l:List Bk} {k:Nat} (hk:k < l.length) (h:Qce l k=false):false=Q0b l:=by
 cases hb:Q0b l with
 |false=>rfl
 |true=>rw[Q1k.1 hb k hk]at h;cases h
theorem Qfl {l:List Bk} {x y:Int} {z:Bool} (h:l.getD 0 (0,0,false)=(x,y,z)):Qce l 0=Q3K x y:=by simp only[Qce,h];simp
theorem Qen {l:List Bk} {k:Nat} {x y a c:Int} {z d:Bool} (h:l.getD (k+1) (0,0,false)=(x,y,z)) (b:l.getD k (0,0,false)=(a,c,d)):Qce l (k+1)=(Q3K x y && decide (a < x)):=by simp only[Qce,h,b,Nat.add_sub_cancel];simp
abbrev Qb3 (a p:Int):Value:=.agg #[.int .i64 a,.int .i64 p]
theorem Q8F (n:Nat) (a p:Int) (w:World) (d:0 < n) (r:n<=1048576) (c:Q0o a p=true):
  Calls Tryz.prog 147 #[.int .i64 n,Qb3 a p] w fun e j=>e=.returned (.int .i64 (Q12 n a p))/\Below w.heap.size w j:=by
 have h:Below w.heap.size w w:=KBq;have q:=Q8D d c;have i:=Q1v d a p;have g:=Q2K.1 c
 have b:¬((n:Int)=0):=by omega
 have f:((n:Int)==0)=false:=by simpa using b
 obtain⟨k,h2,l,m⟩:=g;go_enter Tryz.func147,Tryz.ntmps147;go_wp2;go_ret;exact⟨rfl,by(repeat (first|with_reducible (first|exact h|exact KBq|refine KHq ?_|refine below_drewN ?_ _|refine KOq ?_ ?_ _|refine KNq ?_ ?_ _)|(focus (simp;first|done|omega))|omega))⟩
theorem Q96 (o:Option Addr) (c:Nat) (l:List Sl) (a p:Int) (w:World) (G:RdS w.heap.size w o l) (D:0 < l.length) (hl:l.length<=1048576) (hf:Q0o a p=true):
  Calls Tryz.prog 96 #[tab (.slice o l.length c),Qb3 a p] w fun e w'=>e=.returned (.tuple #[.int .i64 (Q1n l a p).1,.bool (Q1n l a p).2])/\Below w.heap.size w w':=by
 rcases G with G|⟨b,off,rfl,x,n⟩
 ·subst G;simp at D
 have y:Below w.heap.size w w:=KBq;have T:=Q02 n;clear n;go_enter Tryz.func96,Tryz.ntmps96
 go_wp2_with fail;go_at_call 147;refine(Q8F l.length a p _ D hl hf).mono ?_;rintro e f ⟨rfl,m⟩;obtain⟨t,H⟩:=Q3L m;have E:w.heap.size < f.heap.size:=(by have L:=m.size;(try simp at L);omega);have v:w.heap.size+1 < f.heap.size:=(by have L:=m.size;(try simp at L);omega);have y:Below w.heap.size w f:=(by refine Below.trans ?_ (m.mono (by have hs:=y.size;(try simp) <;> omega));(repeat (first|with_reducible (first|exact y|exact KBq|refine KHq ?_|refine below_drewN ?_ _|refine KOq ?_ ?_ _|refine KNq ?_ ?_ _)|(focus (simp;first|done|omega))|omega)))
 have z:f.cell? ⟨w.heap.size,0,none⟩=some (.slice (some ⟨b,off,none⟩) l.length c):=by rw[t _ _ (by(try simp) <;> omega)];simp[go_sem]
 have A:f.cell? ⟨w.heap.size+1,0,none⟩=some (.int .i64 a):=by rw[t _ _ (by(try simp) <;> omega)];simp[go_sem]
 have B:f.cell? ⟨w.heap.size+1,1,none⟩=some (.int .i64 p):=by rw[t _ _ (by(try simp) <;> omega)];simp[go_sem]
 have R:=Q02 y;clear y t H m;have hh:=Q1v D a p;have X:=Q02 (show Q57 l a p l.length (Q12 l.length a p)=Q1n l a p from rfl);generalize Q12 l.length a p=h at *;go_wp2
 go_loopw [7,8] (fun i k wr=> ∃(M N:Nat),N<=l.length/\M < l.length/\i=.int .i64 M/\k=.int .i64 N/\Hid (Q57 l a p (l.length - N) M=Q1n l a p)/\Hid (Below f.heap.size f wr))
  (fun _ k _=>l.length - (intOf k).toNat)
 case atStart=>exact⟨h,0,Kcq _,hh,rfl,rfl,X,KBq⟩
 case round=>
  obtain⟨i,k,hk,hi,rfl,rfl,r,j⟩:=hrel;have d0:=bKq0v0v0 j.out z E;have d1:=bKq0v0v0 j.out A v;have d2:=bKq0v0v0 j.out B v;have g:=Q02 (R.out.trans (j.out.mono R.out.size))
  by_cases hlt:k < l.length
  ·obtain⟨s,d⟩:∃s,l.getD i sl0=s:=⟨_,rfl⟩
   have q:=RdL.slot (C:=w.heap.size) T.out i hi;rw[d]at q;have Y:=bKq0v0v0 g.out q.1 x;have Z:=bKq0v0v0 g.out q.2.1 x;have e2:=bKq0v0v0 g.out q.2.2.1 x
   have aa:(i:Int) < (l.length:Int):=by omega
   have ab:(k:Int) < (l.length:Int):=by omega
   have U:((l.length:Int)==0)=false:=beq_eq_false_iff_ne.2 (by omega);have hm:=Q5v l.length i
   have F:l.length - k=(l.length - (k+1))+1:=by omega
   rw[F]at r;obtain⟨su,O,P,sv,st⟩:=s;simp only at Y Z e2;clear q z A B T
   cases su with
   |false=>
    have u:=Q02 (r.out.symm.trans (Q4M (by rw[d])));clear r d F;go_wp2
    go_ret2
    exact⟨by rw[u.out];rfl,g.out⟩
   |true=>
    by_cases hq:O=a/\P=p
    ·have u:=Q02 (r.out.symm.trans (Q73 (by rw[d]) (by rw[d];exact hq.1) (by rw[d];exact hq.2)))
     obtain⟨rfl,rfl⟩:=hq;clear r d F;go_wp2
     go_region
     go_wp2
     go_ret2
     exact⟨by rw[u.out];rfl,KHq g.out⟩
    ·have u:=Q02 (r.out.symm.trans (Q5Y (by rw[d]) (by rw[d];exact hq))).symm
     clear r d F
     have V:(k+1<=l.length):=by omega
     by_cases hq1:O=a
     ·subst hq1
      have I:¬P=p:=fun e=>hq ⟨rfl,e⟩
      have J:(P==p)=false:=beq_eq_false_iff_ne.2 I;clear hq;go_wp2
      go_region
      go_wp2;go_roundw
      case rel=>exact⟨(i+1) % l.length,k+1,V,Q3f D i,by go_num,by go_num,u,KHq j.out⟩
      case measure=>simp[intOf];omega
     ·have J:(O==a)=false:=beq_eq_false_iff_ne.2 hq1
      clear hq;go_wp2
      go_region
      go_wp2;go_roundw
      case rel=>exact⟨(i+1) % l.length,k+1,V,Q3f D i,by go_num,by go_num,u,KHq j.out⟩
      case measure=>simp[intOf];omega
  ·have e:k=l.length:=by omega
   subst e;have u:=Q02 (show Q1n l a p=(-1,false)from r.out.symm.trans (by rw[Nat.sub_self];rfl));clear r;go_wp2
   go_ret2
   exact⟨by rw[u.out];rfl,g.out⟩
theorem Q7I (o:Option Addr) (c:Nat) (l:List Sl) (w:World) (hR:RdS w.heap.size w o l) (hl:l.length<=1048576):
  Calls Tryz.prog 41 #[tab (.slice o l.length c)] w fun e w'=>e=.returned (.bool (Q0e l))/\Below w.heap.size w w':=by
 have D:Below w.heap.size w w:=KBq
 by_cases hlen:1<=l.length/\l.length<=16
 ·obtain⟨hn,aa⟩:=hlen
  rcases hR with hR|⟨b,off,rfl,n,y⟩
  ·subst hR;simp at hn
  have Y:=Q02 y
  have i1:¬((l.length:Int) < 1):=by omega
  have i2:¬(16 < (l.length:Int)):=by omega
  have h0:Hid (Below w.heap.size w (w.alloc (.cells #[.slice (some ⟨b,off,none⟩) l.length c] 32))):=D.alloc (Kaq _) _
  have ac:Hid ((w.alloc (.cells #[.slice (some ⟨b,off,none⟩) l.length c] 32)).cell? ⟨w.heap.size,0,none⟩=some (.slice (some ⟨b,off,none⟩) l.length c)):=by simp[Q02,go_sem,Hid]
  have ad:w.heap.size < (w.alloc (.cells #[.slice (some ⟨b,off,none⟩) l.length c] 32)).heap.size:=by simp
  clear y D;go_enter Tryz.func41,Tryz.ntmps41;go_wp2;generalize w.alloc (.cells #[.slice (some ⟨b,off,none⟩) l.length c] 32)=w0 at *
  go_loopw [3] (fun i wr=> ∃k:Nat,k<=l.length/\i=.int .i64 k/\Hid (Qhh l k)/\Hid (Below w0.heap.size w0 wr))
   (fun i _=>l.length - (intOf i).toNat)
  case atStart=>exact⟨0,Kcq _,rfl,fun i hi=>absurd hi (KMq _),KBq⟩
  case round=>
   obtain⟨k,hk,rfl,A,t⟩:=hrel;have d0:=bKq0v0v0 t.out ac.out ad;have h:=Q02 (h0.out.trans (t.out.mono h0.out.size));have ag:w0.heap.size<=wr.heap.size:=t.out.size
   by_cases hlt:k < l.length
   ·obtain⟨s,H⟩:∃s,l.getD k sl0=s:=⟨_,rfl⟩
    have q:=RdL.slot (C:=w.heap.size) Y.out k hlt;rw[H]at q;have e0:=bKq0v0v0 h.out q.1 n;have e1:=bKq0v0v0 h.out q.2.1 n;have e2:=bKq0v0v0 h.out q.2.2.1 n;have e3:=bKq0v0v0 h.out q.2.2.2.1 n;have e4:=bKq0v0v0 h.out q.2.2.2.2 n
    have af:(k:Int) < (l.length:Int):=by omega
    have x:=Q02 H;clear q H;obtain⟨su,J,L,O,st⟩:=s;simp only at e0 e1 e2 e3 e4
    cases su with
    |false=>
     by_cases hz:J=0/\L=0/\O=0/\st=0
     ·obtain⟨rfl,rfl,rfl,rfl⟩:=hz
      have HT:=Q02 (Q8L A.out (Q4u (by rw[x.out]) ((QcQ (by rw[x.out])).2 x.out)));clear A;go_wp2;go_roundw
      case rel=>exact⟨k+1,hlt,by go_num,HT,show Below _ _ _ by have D:=t.out;(repeat (first|with_reducible (first|exact D|exact KBq|refine KHq ?_|refine below_drewN ?_ _|refine KOq ?_ ?_ _|refine KNq ?_ ?_ _)|(focus (simp;first|done|omega))|omega))⟩
      case measure=>simp[intOf];omega
     ·have v:=Q02 (Q2F hlt (Q4I (by rw[x.out];simp[Q29];intro N h2 h3 h4;exact hz ⟨N,h2,h3,h4⟩)))
      clear A;go_wp2
      all_goals go_ret
      all_goals exact⟨Q08 v.out,by have D:=h.out;(repeat (first|with_reducible (first|exact D|exact KBq|refine KHq ?_|refine below_drewN ?_ _|refine KOq ?_ ?_ _|refine KNq ?_ ?_ _)|(focus (simp;first|done|omega))|omega))⟩
    |true=>
     obtain⟨W1,F⟩:∃W,wr.alloc (.cells #[.bool true,.int .i64 J,.int .i64 L,.int .i64 O,.int .i64 st] 101)=W:=⟨_,rfl⟩
     have G:Hid (Below wr.heap.size wr W1):=by rw[<-F];exact KBq.alloc (Kaq _) _
     have d:=alz0v0v1 F;obtain⟨P,Z,c2,R,T⟩:=alc5v0v1 F;have c5:=bKq0v0v0 G.out d0 (show w.heap.size < wr.heap.size by omega)
     have I:w.heap.size < W1.heap.size:=by omega
     have g:=Q02 (h.out.trans (G.out.mono h.out.size));have M:=Q02 (t.out.trans (G.out.mono t.out.size));have r:=Q8l J L W1
     cases hfo:Q0o J L with
     |false=>
      have v:=Q02 (Q2F hlt (Q4I (by rw[x.out];simp[Q29,hfo])));rw[hfo]at r;clear A hfo;go_wp2_with (go_at_call 44;refine r.mono ?_;rintro e w2 ⟨rfl,a⟩;have f:=Q02 (g.out.trans (a.mono g.out.size));have m0:=(a.cell (p:=⟨wr.heap.size,0,none⟩) d).trans P;have m2:=(a.cell (p:=⟨wr.heap.size,3,none⟩) d).trans R;have m3:=(a.cell (p:=⟨wr.heap.size,4,none⟩) d).trans T;clear a)
      all_goals go_ret
      all_goals exact⟨Q08 v.out,f.out⟩
     |true=>
      rw[hfo]at r
      by_cases hv:0<=O/\O<=100000/\0<=st/\st<=200000
      ·obtain⟨v1,v2,v3,v4⟩:=hv
       have g1:¬O < 0:=by omega
       have g2:¬100000 < O:=by omega
       have g3:¬st < 0:=by omega
       have g4:¬200000 < st:=by omega
       have HS:=Q02 ((Q4L (s:=l.getD k sl0) (by rw[x.out])).2 (by rw[x.out];exact⟨hfo,v1,v2,v3,v4⟩));have HF:=Q02 hfo;clear hfo v1 v2 v3 v4
       have B:=fun W hr=>Q96 (some ⟨b,off,none⟩) c l J L W hr (by omega) hl HF.out
       by_cases hE:Q1n l J L=((k:Int),true)
       ·have HT:=Q02 (Q8L A.out (Q4x HS.out (by rw[x.out];exact hE)))
        rw[hE]at B;clear A hE
        go_wp2_with (first|(go_at_call 44;refine r.mono ?_;rintro e w2 ⟨rfl,a⟩;have f:=Q02 (g.out.trans (a.mono g.out.size));have z:=Q02 (M.out.trans (a.mono M.out.size));have m0:=(a.cell (p:=⟨wr.heap.size,0,none⟩) d).trans P;have m1:=(a.cell (p:=⟨wr.heap.size,1,none⟩) d).trans Z;have m4:=(a.cell (p:=⟨wr.heap.size,2,none⟩) d).trans c2;have m2:=(a.cell (p:=⟨wr.heap.size,3,none⟩) d).trans R;have m3:=(a.cell (p:=⟨wr.heap.size,4,none⟩) d).trans T;have m5:=(a.cell (p:=⟨w.heap.size,0,none⟩) I).trans c5;have X:=a.size;clear a)|(go_at_call 96;refine(B _ (.inr ⟨b,off,rfl,by omega,fun i hi j V=>(f.out.cell (p:=⟨b,off+i * Q0g.k+j,none⟩) n).trans (Y.out i hi j V)⟩)).mono ?_;rintro e w3 ⟨rfl,m⟩;have u:=Q02 (z.out.trans (m.mono z.out.size));clear m))
        go_roundw
        case rel=>exact⟨k+1,hlt,by go_num,HT,u⟩
        case measure=>simp[intOf];omega
       ·have v:=Q02 (Q2F hlt (QdU (by rw[x.out]) (by rw[x.out];exact hE)))
        generalize hEE:Q1n l J L=E at *;obtain⟨E1,E2⟩:=E
        have U:E2=true->¬E1=(k:Int):=fun N h2=>hE (by rw[N,h2])
        clear A hE hEE
        cases E2 with
        |false=>
         go_wp2_with (first|(go_at_call 44;refine r.mono ?_;rintro e w2 ⟨rfl,a⟩;have f:=Q02 (g.out.trans (a.mono g.out.size));have z:=Q02 (M.out.trans (a.mono M.out.size));have m0:=(a.cell (p:=⟨wr.heap.size,0,none⟩) d).trans P;have m1:=(a.cell (p:=⟨wr.heap.size,1,none⟩) d).trans Z;have m4:=(a.cell (p:=⟨wr.heap.size,2,none⟩) d).trans c2;have m2:=(a.cell (p:=⟨wr.heap.size,3,none⟩) d).trans R;have m3:=(a.cell (p:=⟨wr.heap.size,4,none⟩) d).trans T;have m5:=(a.cell (p:=⟨w.heap.size,0,none⟩) I).trans c5;have X:=a.size;clear a)|(go_at_call 96;refine(B _ (.inr ⟨b,off,rfl,by omega,fun i hi j V=>(f.out.cell (p:=⟨b,off+i * Q0g.k+j,none⟩) n).trans (Y.out i hi j V)⟩)).mono ?_;rintro e w3 ⟨rfl,m⟩;have u:=Q02 (f.out.trans (m.mono f.out.size));clear m))
         go_ret;exact⟨Q08 v.out,u.out⟩
        |true=>
         have ab:=U rfl;have ae:(E1==(k:Int))=false:=beq_eq_false_iff_ne.2 ab;clear U
         go_wp2_with (first|(go_at_call 44;refine r.mono ?_;rintro e w2 ⟨rfl,a⟩;have f:=Q02 (g.out.trans (a.mono g.out.size));have z:=Q02 (M.out.trans (a.mono M.out.size));have m0:=(a.cell (p:=⟨wr.heap.size,0,none⟩) d).trans P;have m1:=(a.cell (p:=⟨wr.heap.size,1,none⟩) d).trans Z;have m4:=(a.cell (p:=⟨wr.heap.size,2,none⟩) d).trans c2;have m2:=(a.cell (p:=⟨wr.heap.size,3,none⟩) d).trans R;have m3:=(a.cell (p:=⟨wr.heap.size,4,none⟩) d).trans T;have m5:=(a.cell (p:=⟨w.heap.size,0,none⟩) I).trans c5;have X:=a.size;clear a)|(go_at_call 96;refine(B _ (.inr ⟨b,off,rfl,by omega,fun i hi j V=>(f.out.cell (p:=⟨b,off+i * Q0g.k+j,none⟩) n).trans (Y.out i hi j V)⟩)).mono ?_;rintro e w3 ⟨rfl,m⟩;have u:=Q02 (f.out.trans (m.mono f.out.size));clear m))
         go_ret;exact⟨Q08 v.out,u.out⟩
      ·have v:=Q02 (Q2F hlt (Q4I (by rw[x.out];simp[Q29,hfo];intro N h2 h3;exact Int.not_le.1 fun h4=>hv ⟨N,h2,h3,h4⟩)))
       have HV:=Q02 hv;clear A hfo hv;go_wp2_with (go_at_call 44;refine r.mono ?_;rintro e w2 ⟨rfl,a⟩;have f:=Q02 (g.out.trans (a.mono g.out.size));have m0:=(a.cell (p:=⟨wr.heap.size,0,none⟩) d).trans P;have m1:=(a.cell (p:=⟨wr.heap.size,1,none⟩) d).trans Z;have m4:=(a.cell (p:=⟨wr.heap.size,2,none⟩) d).trans c2;have m2:=(a.cell (p:=⟨wr.heap.size,3,none⟩) d).trans R;have m3:=(a.cell (p:=⟨wr.heap.size,4,none⟩) d).trans T;clear a)
       all_goals first|(go_ret;exact⟨Q08 v.out,f.out⟩)|(exfalso;apply HV.out;omega)|skip
   ·have e:k=l.length:=by omega
    subst e;have HY:=Q02 (Qa7 hn aa A.out);go_wp2;go_ret;exact⟨Q08 HY.out,h.out⟩
 ·have v:=Q02 (Q6m hlen)
  by_cases N:(l.length:Int) < 1
  ·go_enter Tryz.func41,Tryz.ntmps41
   go_wp2;go_ret;exact⟨Q08 v.out,by(repeat (first|with_reducible (first|exact D|exact KBq|refine KHq ?_|refine below_drewN ?_ _|refine KOq ?_ ?_ _|refine KNq ?_ ?_ _)|(focus (simp;first|done|omega))|omega))⟩
  ·have h2:(16:Int) < l.length:=by omega
   go_enter Tryz.func41,Tryz.ntmps41;go_wp2;go_ret;exact⟨Q08 v.out,by(repeat (first|with_reducible (first|exact D|exact KBq|refine KHq ?_|refine below_drewN ?_ _|refine KOq ?_ ?_ _|refine KNq ?_ ?_ _)|(focus (simp;first|done|omega))|omega))⟩
def Q6j (l:List Sl) (k:Nat):Nat:=((l.take k).filter (fun s=>s.u)).length
theorem Qde (l:List Sl) (k:Nat):Q6j l k<=k:=Kdq (List.length_filter_le _ _) (by simp;omega)
def Qe1 (l:List Sl):Nat:=Q6j l l.length
def Q4X (l:List Sl):Int:=if Q0e l=true then(Qe1 l:Nat)else -1
end Go.Proofs.YtpneolgdghbinaaGreat
