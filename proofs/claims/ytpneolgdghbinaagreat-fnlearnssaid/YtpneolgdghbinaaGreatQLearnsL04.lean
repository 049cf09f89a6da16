/- Several texts in one: LSlot, ShT, TableMath, Backs, SBacks, STabS, STabS2, STabS3. -/
import Derived.Deep.RegionHeld3
import Derived.Test.YtpneolgdghbinaaGreatQLearnsL03
namespace Go.Proofs.YtpneolgdghbinaaGreat
open Go.ChangeShapes Go.WideShapes Go.ChangeAt Go.RowKit Go.Joins
set_option linter.unusedVariables false
set_option linter.unusedSimpArgs false
set_option maxRecDepth 100000
set_option maxHeartbeats 40000000
structure Sl where
 u:Bool
 a:Int
 p:Int
 v:Int
 t:Int
abbrev sl0:Sl:=⟨false,0,0,0,0⟩
def Q0g:Lay Sl:=⟨5,fun s=> [.bool s.u,.int .i64 s.a,.int .i64 s.p,.int .i64 s.v,.int .i64 s.t],sl0,fun _=> rfl⟩
abbrev slot (s:Sl):Value:=.agg #[.bool s.u,.int .i64 s.a,.int .i64 s.p,.int .i64 s.v,.int .i64 s.t]
abbrev RdS:=RdL Q0g
abbrev Qgc:=ownL Q0g 101
abbrev InS:=InL Q0g 101
theorem RdL.slot {C:Nat} {w:World} {b off:Nat} {l:List Sl} (h:∀i,i < l.length→∀j,j < Q0g.k→w.cell? ⟨b,off+i * Q0g.k+j,none⟩=(Q0g.cs (l.getD i Q0g.d))[j]?) (i:Nat) (hi:i < l.length):
  w.cell? ⟨b,off+i * 5,none⟩=some (.bool (l.getD i sl0).u)∧w.cell? ⟨b,off+i * 5+1,none⟩=some (.int .i64 (l.getD i sl0).a)∧w.cell? ⟨b,off+i * 5+2,none⟩=some (.int .i64 (l.getD i sl0).p)∧w.cell? ⟨b,off+i * 5+3,none⟩=some (.int .i64 (l.getD i sl0).v)∧w.cell? ⟨b,off+i * 5+4,none⟩=some (.int .i64 (l.getD i sl0).t):=
 ⟨h i hi 0 (by decide),h i hi 1 (by decide),h i hi 2 (by decide),h i hi 3 (by decide),h i hi 4 (by decide)⟩
theorem Qan {α:Type} (L:Lay α) (b:L.k=5) {f g h j m:Value} {a:α} (d:L.cs a=[f,g,h,j,m]):∀(l:List α) (i:Nat),(((((l.flatMap L.cs).set (i * 5) f).set (i * 5+1) g).set (i * 5+2) h).set (i * 5+3) j).set (i * 5+4) m=(l.set i a).flatMap L.cs
 |[],i=> by simp
 |q::l,0=> by
  have c:=(L.len q).trans b
  match hc:L.cs q,c with
  |[q0,q1,q2,q3,q4],_=> simp [d,hc]
 |q::l,i+1=> by
  have c:=(L.len q).trans b
  match hc:L.cs q,c with
  |[q0,q1,q2,q3,q4],_=>
   rw [show (i+1) * 5=i * 5+1+1+1+1+1 by omega];simp only [List.flatMap_cons,hc,List.cons_append,List.nil_append,List.set_cons_succ];rw [Qan L b d l i]
theorem Q6Y:(Tryz.prog.info? 101).map (fun i=> (i.zero,i.size,i.bytes))=some (some (.agg #[.bool false,.int .i64 0,.int .i64 0,.int .i64 0,.int .i64 0]),5,40):=by kernel_rfl
theorem Q3m {e:TypeId} {w wr:World} {base B g c n:Nat} {l:List Sl} {k:Nat} (s:Sl) (b:B≤g) (d:wr.ownsRow base e 5 (.slice (some ⟨g,0,none⟩) n c) n (l.flatMap Q0g.cs)) (f:Below B w wr):
  (((((wr.setCell ⟨g,k * 5,none⟩ (.bool s.u)).setCell ⟨g,k * 5+1,none⟩ (.int .i64 s.a)).setCell ⟨g,k * 5+2,none⟩ (.int .i64 s.p)).setCell ⟨g,k * 5+3,none⟩ (.int .i64 s.v)).setCell ⟨g,k * 5+4,none⟩ (.int .i64 s.t)).ownsRow base e 5 (.slice (some ⟨g,0,none⟩) n c) n ((l.set k s).flatMap Q0g.cs)∧
   Below B w (((((wr.setCell ⟨g,k * 5,none⟩ (.bool s.u)).setCell ⟨g,k * 5+1,none⟩ (.int .i64 s.a)).setCell ⟨g,k * 5+2,none⟩ (.int .i64 s.p)).setCell ⟨g,k * 5+3,none⟩ (.int .i64 s.v)).setCell ⟨g,k * 5+4,none⟩ (.int .i64 s.t)):=by
 have h:=(((((d.stored (k * 5) (.bool s.u)).1.stored (k * 5+1) (.int .i64 s.a)).1.stored (k * 5+2) (.int .i64 s.p)).1.stored (k * 5+3) (.int .i64 s.v)).1.stored (k * 5+4) (.int .i64 s.t)).1;rw [Qan Q0g rfl (a:=s) rfl] at h;exact ⟨h,((((f.setCell (p:=⟨g,k * 5,none⟩) b _).setCell (p:=⟨g,k * 5+1,none⟩) b _).setCell (p:=⟨g,k * 5+2,none⟩) b _).setCell (p:=⟨g,k * 5+3,none⟩) b _).setCell (p:=⟨g,k * 5+4,none⟩) b _⟩
abbrev tab (v:Value):Value:=.agg #[v]
theorem Q0m {W:World} {B:Nat} {c:Array Value} {t:TypeId} (h:W.heap[B]? =some (.cells c t (0,0))) (j:Nat) (u:Value) (hj:c[j]? =some u):W.cell? ⟨B,j,none⟩=some u:=by
 simp [World.cell?,h,hj]
def RdT (C:Nat) (w:World) (v:Value) (l:List Sl):Prop:=∃vl,v=tab vl∧RdV Q0g C w vl l
def InTb (lo hi:Nat) (w:World) (v:Value) (l:List Sl):Prop:=∃vl,v=tab vl∧InS lo hi w vl l
theorem RdT.le {C D:Nat} {w:World} {v:Value} {m:List Sl} (h:RdT C w v m) (hc:C≤D):RdT D w v m:=by
 obtain ⟨vl,e,h1⟩:=h;exact ⟨vl,e,h1.le hc⟩
theorem InTb.rd {lo hi:Nat} {w:World} {v:Value} {m:List Sl} (h:InTb lo hi w v m):RdT hi w v m:=by
 obtain ⟨vl,e,h1⟩:=h;exact ⟨vl,e,InL.rd (L:=Q0g) h1⟩
theorem InTb.step {a b lo hi:Nat} {w w':World} {v:Value} {m:List Sl} (h:InTb a b w v m) (s:Stp lo hi w w') (hd:hi≤a∨b≤lo):InTb a b w' v m:=by
 obtain ⟨vl,e,h1⟩:=h;exact ⟨vl,e,InRow.step h1 s hd⟩
theorem InTb.row {lo hi:Nat} {w:World} {v:Value} {l:List Sl} (h:InTb lo hi w (tab v) l):InS lo hi w v l:=by
 obtain ⟨vl,e,h1⟩:=h;injection e with e;simp at e;subst e;exact h1
def Q0S (n:Nat) (a p:Int):Nat:=((a * 31+p) % (n:Int)).toNat
theorem Q1q {n:Nat} (c:0 < n) (a p:Int):Q0S n a p < n:=by
 unfold Q0S;have b:=Int.emod_nonneg (a * 31+p) (show (n:Int)≠0 by omega);have h2:=Int.emod_lt_of_pos (a * 31+p) (show (0:Int) < n by omega);omega
theorem Qd2 {n:Nat} (hn:0 < n) (a p:Int):((Q0S n a p:Nat):Int)=(a * 31+p) % (n:Int):=by
 unfold Q0S;have h1:=Int.emod_nonneg (a * 31+p) (show (n:Int)≠0 by omega);omega
theorem Q8A {n:Nat} (hn:0 < n) {a p:Int} (h:Q0h a p=true):(a * 31+p).tmod (n:Int)=((Q0S n a p:Nat):Int):=by
 rw [Qd2 hn,Int.tmod_eq_emod_of_nonneg];have:=Q2j.1 h;omega
theorem QbP {n:Nat} (hn:0 < n) {a p:Int} (h:Q0h a p=true):(31 * a+p).tmod (n:Int)=((Q0S n a p:Nat):Int):=by
 rw [Int.mul_comm];exact Q8A hn h
theorem Q5E (n i:Nat):((i:Int)+1).tmod (n:Int)=(((i+1) % n:Nat):Int):=by
 rw [Int.tmod_eq_emod_of_nonneg (by omega)];simp
def Q1C (n i k:Nat):Nat:=(k+n - i) % n
theorem Q9l {n i k:Nat} (hi:i < n) (a:k < n):((k:Int) - (i:Int)+(n:Int)).tmod (n:Int)=((Q1C n i k:Nat):Int):=by
 rw [Int.tmod_eq_emod_of_nonneg (by omega),show (k:Int) - i+n=((k+n - i:Nat):Int) by omega];simp [Q1C]
theorem Q3p {n:Nat} (hn:0 < n) (i:Nat):(i+1) % n < n:=Nat.mod_lt _ hn
def Q4X (l:List Sl) (a p:Int):Nat→Nat→Int × Bool
 |0,_=> (-1,false)
 |f+1,i=> if (l.getD i sl0).u=true then (if (l.getD i sl0).a=a∧(l.getD i sl0).p=p then ((i:Int),true) else Q4X l a p f ((i+1) % l.length)) else ((i:Int),false)
def Q0Z (l:List Sl) (a p:Int):Int × Bool:=Q4X l a p l.length (Q0S l.length a p)
theorem Q2J {l:List Sl} {a p:Int} {f i:Nat} (h:(l.getD i sl0).u=false):Q4X l a p (f+1) i=((i:Int),false):=by simp only [Q4X,h];simp
theorem Q5R {l:List Sl} {a p:Int} {f i:Nat} (h:(l.getD i sl0).u=true) (h1:(l.getD i sl0).a=a) (h2:(l.getD i sl0).p=p):Q4X l a p (f+1) i=((i:Int),true):=by simp only [Q4X,h,h1,h2];simp
theorem Q4T {l:List Sl} {a p:Int} {f i:Nat} (h:(l.getD i sl0).u=true) (h1:¬((l.getD i sl0).a=a∧(l.getD i sl0).p=p)):Q4X l a p (f+1) i=Q4X l a p f ((i+1) % l.length):=by simp only [Q4X,h,h1];simp
theorem Q7S (l:List Sl) (b:0 < l.length) (a p:Int):∀(f i:Nat),i < l.length→Q4X l a p f i=(-1,false)∨∃k,k < l.length∧((Q4X l a p f i=((k:Int),false)∧(l.getD k sl0).u=false)∨(Q4X l a p f i=((k:Int),true)∧(l.getD k sl0).u=true∧(l.getD k sl0).a=a∧(l.getD k sl0).p=p))
 |0,i,_=> .inl rfl
 |f+1,i,hi=> by
  cases hu:(l.getD i sl0).u with
  |false=> exact .inr ⟨i,hi,.inl ⟨Q2J hu,hu⟩⟩
  |true=>
   by_cases h:(l.getD i sl0).a=a∧(l.getD i sl0).p=p
   ·exact .inr ⟨i,hi,.inr ⟨Q5R hu h.1 h.2,hu,h.1,h.2⟩⟩
   ·rw [Q4T hu h]
    exact Q7S l b a p f _ (Q3p b i)
theorem Q1f (l:List Sl) (b:0 < l.length) (a p:Int):Q0Z l a p=(-1,false)∨∃k,k < l.length∧((Q0Z l a p=((k:Int),false)∧(l.getD k sl0).u=false)∨(Q0Z l a p=((k:Int),true)∧(l.getD k sl0).u=true∧(l.getD k sl0).a=a∧(l.getD k sl0).p=p)):=
 Q7S l b a p _ _ (Q1q b a p)
def Q2h (s:Sl):Bool:=if s.u=true then Q0h s.a s.p && decide (0≤s.v) && decide (s.v≤100000) && decide (0≤s.t) && decide (s.t≤200000) else decide (s.a=0) && decide (s.p=0) && decide (s.v=0) && decide (s.t=0)
theorem Q3Q {s:Sl} (h:s.u=true):Q2h s=true↔Q0h s.a s.p=true∧0≤s.v∧s.v≤100000∧0≤s.t∧s.t≤200000:=by simp [Q2h,h,and_assoc]
theorem Qdl {s:Sl} (h:s.u=false):Q2h s=true↔s=sl0:=by
 obtain ⟨u,a,p,v,t⟩:=s;simp at h;subst h;simp [Q2h,and_assoc]
def Q9S (l:List Sl) (i:Nat):Bool:= !(l.getD i sl0).u||(Q0Z l (l.getD i sl0).a (l.getD i sl0).p==((i:Int),true))
def Q3K (l:List Sl) (i:Nat):Bool:=Q2h (l.getD i sl0) && Q9S l i
def Q0c (l:List Sl):Bool:=decide (1≤l.length) && decide (l.length≤16) && (List.range l.length).all (Q3K l)
theorem Q07 {l:List Sl}:Q0c l=true↔1≤l.length∧l.length≤16∧∀i,i < l.length→Q3K l i=true:=by simp [Q0c,and_assoc]
theorem Qa7 {l:List Sl} (h1:1≤l.length) (h2:l.length≤16) (h:∀i,i < l.length→Q3K l i=true):true=Q0c l:=(Q07.2 ⟨h1,h2,h⟩).symm
theorem Q2O {l:List Sl} {i:Nat} (hi:i < l.length) (h:Q3K l i=false):false=Q0c l:=by
 cases hb:Q0c l with
 |false=> rfl
 |true=> rw [(Q07.1 hb).2.2 i hi] at h;cases h
theorem Q6B {l:List Sl} (h:¬(1≤l.length∧l.length≤16)):false=Q0c l:=by
 cases hb:Q0c l with
 |false=> rfl
 |true=> exact absurd ⟨(Q07.1 hb).1,(Q07.1 hb).2.1⟩ h
theorem Q4K {l:List Sl} {i:Nat} (h:Q2h (l.getD i sl0)=false):Q3K l i=false:=by unfold Q3K;rw [h];rfl
theorem Qeo {l:List Sl} {i:Nat} (b:(l.getD i sl0).u=true) (h:Q0Z l (l.getD i sl0).a (l.getD i sl0).p≠((i:Int),true)):Q3K l i=false:=by unfold Q3K Q9S;rw [b,beq_eq_false_iff_ne.2 h];cases Q2h (l.getD i sl0) <;> rfl
theorem Q4L {l:List Sl} {i:Nat} (hu:(l.getD i sl0).u=false) (h:Q2h (l.getD i sl0)=true):Q3K l i=true:=by unfold Q3K Q9S;rw [hu,h];rfl
theorem Q4J {l:List Sl} {i:Nat} (h:Q2h (l.getD i sl0)=true) (h':Q0Z l (l.getD i sl0).a (l.getD i sl0).p=((i:Int),true)):Q3K l i=true:=by unfold Q3K Q9S;rw [h,h'];cases (l.getD i sl0).u <;> simp
def Qin (l:List Sl) (k:Nat):Prop:=∀i,i < k→Q3K l i=true
theorem Q8K {l:List Sl} {k:Nat} (h:Qin l k) (hk:Q3K l k=true):Qin l (k+1):=fun i hi=> by
 rcases Nat.lt_succ_iff_lt_or_eq.1 hi with h1|h1
 ·exact h i h1
 ·rw [h1];exact hk
def Q7A (l:List Sl) (k:Nat):Prop:=∀i,i < k→Q2h (l.getD i sl0)=true
theorem QbE {l:List Sl} {k:Nat} (h:Q7A l k) (hk:Q2h (l.getD k sl0)=true):Q7A l (k+1):=fun i hi=> by
 rcases Nat.lt_succ_iff_lt_or_eq.1 hi with h1|h1
 ·exact h i h1
 ·rw [h1];exact hk
def Q4d (l:List Sl) (a p v t:Int):List Sl:=if 0≤(Q0Z l a p).1 then l.set (Q0Z l a p).1.toNat ⟨true,a,p,v,t⟩ else l
theorem Q7Q (l:List Sl) (a p v t:Int):(Q4d l a p v t).length=l.length:=by unfold Q4d;split <;> simp
def Q6a (l:List Sl) (a p:Int):Sl:=if (Q0Z l a p).2=true then l.getD (Q0Z l a p).1.toNat sl0 else sl0
def QaU:Nat→(Nat→Nat)→Nat
 |0,_=> 0
 |n+1,f=> QaU n f+f n
theorem Q8P:∀(n:Nat) {f g:Nat→Nat},(∀x,x < n→f x=g x)→QaU n f=QaU n g
 |0,_,_,_=> rfl
 |n+1,f,g,h=> by simp only [QaU];rw [Q8P n (fun x hx=> h x (by omega)),h n (by omega)]
theorem Q7C:∀(n:Nat) {f g:Nat→Nat} {j:Nat},j < n→(∀x,x≠j→f x=g x)→QaU n f+g j=QaU n g+f j
 |0,_,_,_,h,_=> absurd h (Nat.not_lt_zero _)
 |n+1,f,g,j,h,he=> by
  simp only [QaU]
  by_cases e:j=n
  ·subst e
   rw [Q8P j (fun x b=> he x (by omega))];omega
  ·have:=Q7C n (show j < n by omega) he
   rw [he n (fun a=> e a.symm)];omega
def wt (n:Nat) (l:List Sl) (j:Nat):Nat:=if (l.getD j sl0).u=true then Q1C n (Q0S n (l.getD j sl0).a (l.getD j sl0).p) j else 0
def phi (l:List Sl):Nat:=QaU l.length (wt l.length l)
def Qeb (l:List Sl) (i k:Nat):Nat:=phi l * 17+Q1C l.length k i
def Q4Z (n:Nat) (l:List Sl) (i k:Nat):Bool:=decide (Q1C n i k≤Q1C n (Q0S n (l.getD k sl0).a (l.getD k sl0).p) k)
def Q2B (n:Nat):Nat→List Sl→Nat→Nat→List Sl
 |0,l,_,_=> l
 |f+1,l,i,k=> if (l.getD k sl0).u=true then (if Q4Z n l i k=true then Q2B n f ((l.set i (l.getD k sl0)).set k sl0) k ((k+1) % n) else Q2B n f l i ((k+1) % n)) else l
def Q1M (l:List Sl) (i:Nat):List Sl:=Q2B l.length (Qeb (l.set i sl0) i ((i+1) % l.length)+1) (l.set i sl0) i ((i+1) % l.length)
theorem QdC {n f i k:Nat} {l:List Sl} (h:(l.getD k sl0).u=false):Q2B n (f+1) l i k=l:=by simp only [Q2B,h];simp
theorem Qbj {n f i k:Nat} {l:List Sl} (h:(l.getD k sl0).u=true) (hm:Q4Z n l i k=true):Q2B n (f+1) l i k=Q2B n f ((l.set i (l.getD k sl0)).set k sl0) k ((k+1) % n):=by simp only [Q2B,h,hm];simp
theorem QbD {n f i k:Nat} {l:List Sl} (h:(l.getD k sl0).u=true) (hm:Q4Z n l i k=false):Q2B n (f+1) l i k=Q2B n f l i ((k+1) % n):=by simp only [Q2B,h,hm];simp
theorem Q0Y (l:List Sl) (i:Nat) (s:Sl) (h:i < l.length):(l.set i s).getD i sl0=s:=by simp [h]
theorem Q1L (l:List Sl) (i j:Nat) (s:Sl) (h:i≠j):(l.set i s).getD j sl0=l.getD j sl0:=by
 simp [List.getElem?_set,h]
theorem Q2M {a n:Nat} (h:a < n):a % n=a:=Nat.mod_eq_of_lt h
theorem Q9o {a n:Nat} (h1:n≤a) (h2:a < n+n):a % n=a - n:=by rw [Nat.mod_eq_sub_mod h1,Nat.mod_eq_of_lt (by omega)]
theorem Q14 {n i k:Nat} (hi:i < n) (hk:k < n):Q1C n i k=if i≤k then k - i else k+n - i:=by
 unfold Q1C
 by_cases h:i≤k
 ·rw [if_pos h,Q9o (by omega) (by omega)];omega
 ·rw [if_neg h,Q2M (by omega)]
theorem Qig {n k:Nat} (hk:k < n):(k+1) % n=if k+1=n then 0 else k+1:=by
 by_cases h:k+1=n
 ·rw [if_pos h,h,Nat.mod_self]
 ·rw [if_neg h,Q2M (by omega)]
theorem Qfe {l:List Sl} {i k:Nat} (hi:i < l.length) (a:k < l.length) (c:k≠i):Qeb l i ((k+1) % l.length) < Qeb l i k:=by
 unfold Qeb;have b:=Q3p (n:=l.length) (by omega) k;rw [Q14 b hi,Q14 a hi,Qig a]
 split <;> (repeat' split) <;> omega
theorem QdT {l:List Sl} {i k:Nat} (D:l.length≤16) (hi:i < l.length) (c:k < l.length) (b:(l.getD i sl0).u=false) (q:(l.getD k sl0).u=true) (hm:Q4Z l.length l i k=true):
  Qeb ((l.set i (l.getD k sl0)).set k sl0) k ((k+1) % l.length) < Qeb l i k:=by
 have m:i≠k:=fun e=> by rw [e,q] at b;cases b
 unfold Qeb phi;rw [show ((l.set i (l.getD k sl0)).set k sl0).length=l.length by simp];have s:=Q7C l.length (f:=wt l.length ((l.set i (l.getD k sl0)).set k sl0)) (g:=wt l.length (l.set i (l.getD k sl0))) c (fun x r=> by unfold wt;rw [Q1L _ k x _ (fun e=> r e.symm)]);have t:=Q7C l.length (f:=wt l.length (l.set i (l.getD k sl0))) (g:=wt l.length l) hi (fun x r=> by unfold wt;rw [Q1L _ i x _ (fun e=> r e.symm)])
 have v:wt l.length ((l.set i (l.getD k sl0)).set k sl0) k=0:=by unfold wt;rw [Q0Y _ _ _ (by simpa using c)];rfl
 have w:wt l.length (l.set i (l.getD k sl0)) k=Q1C l.length (Q0S l.length (l.getD k sl0).a (l.getD k sl0).p) k:=by unfold wt;rw [Q1L _ i k _ m,q];rfl
 have y:wt l.length (l.set i (l.getD k sl0)) i=Q1C l.length (Q0S l.length (l.getD k sl0).a (l.getD k sl0).p) i:=by unfold wt;rw [Q0Y _ _ _ hi,q];rfl
 have z:wt l.length l i=0:=by unfold wt;rw [b];rfl
 rw [v,w] at s;rw [y,z] at t;have j:=Q1q (show 0 < l.length by omega) (l.getD k sl0).a (l.getD k sl0).p
 have d:Q1C l.length i k≤Q1C l.length (Q0S l.length (l.getD k sl0).a (l.getD k sl0).p) k:=by simpa [Q4Z] using hm
 generalize Q0S l.length (l.getD k sl0).a (l.getD k sl0).p=h at *;have A:=Q3p (n:=l.length) (by omega) k
 have B:Q1C l.length h i+1≤Q1C l.length h k:=by
  rw [Q14 hi c,Q14 j c] at d;rw [Q14 j hi,Q14 j c]
  (repeat' split at d) <;> (repeat' split) <;> omega
 have C:Q1C l.length ((k+1) % l.length) k < 16:=by
  have:Q1C l.length ((k+1) % l.length) k < l.length:=Nat.mod_lt _ (by omega);omega
 omega
abbrev Bk:=Int × Int × Bool
def Q1d:Lay Bk:=⟨3,fun a=> [.int .i64 a.1,.int .i64 a.2.1,.bool a.2.2],(0,0,false),fun _=> rfl⟩
abbrev back (i g:Int) (d:Bool):Value:=.agg #[.int .i64 i,.int .i64 g,.bool d]
abbrev RdK:=RdL Q1d
abbrev Q1t:=ownL Q1d 119
theorem RdL.back {C:Nat} {w:World} {b off:Nat} {l:List Bk} (h:∀i,i < l.length→∀j,j < Q1d.k→w.cell? ⟨b,off+i * Q1d.k+j,none⟩=(Q1d.cs (l.getD i Q1d.d))[j]?) (i:Nat) (hi:i < l.length):
  w.cell? ⟨b,off+i * 3,none⟩=some (.int .i64 (l.getD i (0,0,false)).1)∧w.cell? ⟨b,off+i * 3+1,none⟩=some (.int .i64 (l.getD i (0,0,false)).2.1)∧w.cell? ⟨b,off+i * 3+2,none⟩=some (.bool (l.getD i (0,0,false)).2.2):=
 ⟨h i hi 0 (by decide),h i hi 1 (by decide),h i hi 2 (by decide)⟩
theorem QcB:(Tryz.prog.info? 119).map (fun i=> (i.zero,i.size,i.bytes))=some (some (.agg #[.int .i64 0,.int .i64 0,.bool false]),3,24):=by kernel_rfl
def Q3T (i g:Int):Bool:=decide (0≤i) && decide (i < 6) && decide (1≤g) && decide (g≤100)
theorem Q5n {i g:Int}:Q3T i g=true↔0≤i∧i < 6∧1≤g∧g≤100:=by simp [Q3T,and_assoc]
def Qci (l:List Bk) (i:Nat):Bool:=Q3T (l.getD i (0,0,false)).1 (l.getD i (0,0,false)).2.1 && (decide (i=0)||decide ((l.getD (i - 1) (0,0,false)).1 < (l.getD i (0,0,false)).1))
def Qiz (l:List Bk) (k:Nat):Prop:=∀i,i < k→Qci l i=true
def Q0e (l:List Bk):Bool:=(List.range l.length).all (Qci l)
theorem Q1x {l:List Bk}:Q0e l=true↔Qiz l l.length:=by simp [Q0e,Qiz]
theorem Qab {l:List Bk} {k:Nat} (h:Qiz l k) (hk:Qci l k=true):Qiz l (k+1):=fun i hi=> by
 rcases Nat.lt_succ_iff_lt_or_eq.1 hi with h1|h1
 ·exact h i h1
 ·rw [h1];exact hk
theorem Q56 {l:List Bk} {k:Nat} (hk:k < l.length) (h:Qci l k=false):false=Q0e l:=by
 cases hb:Q0e l with
 |false=> rfl
 |true=> rw [Q1x.1 hb k hk] at h;cases h
theorem QfN {l:List Bk} {x y:Int} {z:Bool} (h:l.getD 0 (0,0,false)=(x,y,z)):Qci l 0=Q3T x y:=by simp only [Qci,h];simp
theorem Qee {l:List Bk} {k:Nat} {x y a c:Int} {z d:Bool} (h:l.getD (k+1) (0,0,false)=(x,y,z)) (b:l.getD k (0,0,false)=(a,c,d)):Qci l (k+1)=(Q3T x y && decide (a < x)):=by simp only [Qci,h,b,Nat.add_sub_cancel];simp
abbrev Q6f (a p:Int):Value:=.agg #[.int .i64 a,.int .i64 p]
theorem Q8B (n:Nat) (a p:Int) (w:World) (d:0 < n) (r:n≤1048576) (c:Q0h a p=true):
  Calls Tryz.prog 147 #[.int .i64 n,Q6f a p] w fun e j=> e=.returned (.int .i64 (Q0S n a p))∧Below w.heap.size w j:=by
 have h:Below w.heap.size w w:=Below.refl _ _;have q:=Q8A d c;have i:=Q1q d a p;have g:=Q2j.1 c
 have b:¬((n:Int)=0):=by omega
 have f:((n:Int)==0)=false:=by simpa using b
 obtain ⟨k,h2,l,m⟩:=g;go_enter Tryz.func147,Tryz.ntmps147;go_wp2;go_ret;exact ⟨rfl,by (repeat (first|with_reducible (first|exact h|exact Below.refl _ _|refine Below.drew ?_|refine below_drewN ?_ _|refine Below.alloc ?_ ?_ _|refine Below.setCell ?_ ?_ _)|(focus (simp;first|done|omega))|omega))⟩
theorem Q9w (o:Option Addr) (c:Nat) (l:List Sl) (a p:Int) (w:World) (G:RdS w.heap.size w o l) (D:0 < l.length) (hl:l.length≤1048576) (hf:Q0h a p=true):
  Calls Tryz.prog 96 #[tab (.slice o l.length c),Q6f a p] w fun e w'=> e=.returned (.tuple #[.int .i64 (Q0Z l a p).1,.bool (Q0Z l a p).2])∧Below w.heap.size w w':=by
 rcases G with G|⟨b,off,rfl,x,n⟩
 ·subst G;simp at D
 have y:Below w.heap.size w w:=Below.refl _ _;have T:=Q01 n;clear n;go_enter Tryz.func96,Tryz.ntmps96
 go_wp2_with fail;go_at_call 147;refine (Q8B l.length a p _ D hl hf).mono ?_;rintro e f ⟨rfl,m⟩;obtain ⟨t,H⟩:=Q23 m;have E:w.heap.size < f.heap.size:=(by have L:=m.size;(try simp at L);omega);have v:w.heap.size+1 < f.heap.size:=(by have L:=m.size;(try simp at L);omega);have y:Below w.heap.size w f:=(by refine Below.trans ?_ (m.mono (by have hs:=y.size;(try simp) <;> omega));(repeat (first|with_reducible (first|exact y|exact Below.refl _ _|refine Below.drew ?_|refine below_drewN ?_ _|refine Below.alloc ?_ ?_ _|refine Below.setCell ?_ ?_ _)|(focus (simp;first|done|omega))|omega)))
 have z:f.cell? ⟨w.heap.size,0,none⟩=some (.slice (some ⟨b,off,none⟩) l.length c):=by rw [t _ _ (by (try simp) <;> omega)];simp [go_sem]
 have A:f.cell? ⟨w.heap.size+1,0,none⟩=some (.int .i64 a):=by rw [t _ _ (by (try simp) <;> omega)];simp [go_sem]
 have B:f.cell? ⟨w.heap.size+1,1,none⟩=some (.int .i64 p):=by rw [t _ _ (by (try simp) <;> omega)];simp [go_sem]
 have R:=Q01 y;clear y t H m;have hh:=Q1q D a p;have X:=Q01 (show Q4X l a p l.length (Q0S l.length a p)=Q0Z l a p from rfl);generalize Q0S l.length a p=h at *;go_wp2
 go_loopw [7,8] (fun i k wr=> ∃(M N:Nat),N≤l.length∧M < l.length∧i=.int .i64 M∧k=.int .i64 N∧Hid (Q4X l a p (l.length - N) M=Q0Z l a p)∧Hid (Below f.heap.size f wr))
  (fun _ k _=> l.length - (intOf k).toNat)
 case atStart=> exact ⟨h,0,Kcq _,hh,rfl,rfl,X,Below.refl _ _⟩
 case round=>
  obtain ⟨i,k,hk,hi,rfl,rfl,r,j⟩:=hrel;have d0:=bKq0v0v0 j.out z E;have d1:=bKq0v0v0 j.out A v;have d2:=bKq0v0v0 j.out B v;have g:=Q01 (R.out.trans (j.out.mono R.out.size))
  by_cases hlt:k < l.length
  ·obtain ⟨s,d⟩:∃s,l.getD i sl0=s:=⟨_,rfl⟩
   have q:=RdL.slot (C:=w.heap.size) T.out i hi;rw [d] at q;have Y:=bKq0v0v0 g.out q.1 x;have Z:=bKq0v0v0 g.out q.2.1 x;have e2:=bKq0v0v0 g.out q.2.2.1 x
   have aa:(i:Int) < (l.length:Int):=by omega
   have ab:(k:Int) < (l.length:Int):=by omega
   have U:((l.length:Int)==0)=false:=beq_eq_false_iff_ne.2 (by omega);have hm:=Q5E l.length i
   have F:l.length - k=(l.length - (k+1))+1:=by omega
   rw [F] at r;obtain ⟨su,O,P,sv,st⟩:=s;simp only at Y Z e2;clear q z A B T
   cases su with
   |false=>
    have u:=Q01 (r.out.symm.trans (Q2J (by rw [d])));clear r d F;go_wp2
    go_ret2
    exact ⟨by rw [u.out];rfl,g.out⟩
   |true=>
    by_cases hq:O=a∧P=p
    ·have u:=Q01 (r.out.symm.trans (Q5R (by rw [d]) (by rw [d];exact hq.1) (by rw [d];exact hq.2)))
     obtain ⟨rfl,rfl⟩:=hq;clear r d F;go_wp2
     go_region
     go_wp2
     go_ret2
     exact ⟨by rw [u.out];rfl,Below.drew g.out⟩
    ·have u:=Q01 (r.out.symm.trans (Q4T (by rw [d]) (by rw [d];exact hq))).symm
     clear r d F
     have V:(k+1≤l.length):=by omega
     by_cases hq1:O=a
     ·subst hq1
      have I:¬P=p:=fun e=> hq ⟨rfl,e⟩
      have J:(P==p)=false:=beq_eq_false_iff_ne.2 I;clear hq;go_wp2
      go_region
      go_wp2;go_roundw
      case rel=> exact ⟨(i+1) % l.length,k+1,V,Q3p D i,by go_num,by go_num,u,Below.drew j.out⟩
      case measure=> simp [intOf];omega
     ·have J:(O==a)=false:=beq_eq_false_iff_ne.2 hq1
      clear hq;go_wp2
      go_region
      go_wp2;go_roundw
      case rel=> exact ⟨(i+1) % l.length,k+1,V,Q3p D i,by go_num,by go_num,u,Below.drew j.out⟩
      case measure=> simp [intOf];omega
  ·have e:k=l.length:=by omega
   subst e;have u:=Q01 (show Q0Z l a p=(-1,false) from r.out.symm.trans (by rw [Nat.sub_self];rfl));clear r;go_wp2
   go_ret2
   exact ⟨by rw [u.out];rfl,g.out⟩
theorem Q7a (o:Option Addr) (c:Nat) (l:List Sl) (w:World) (hR:RdS w.heap.size w o l) (hl:l.length≤1048576):
  Calls Tryz.prog 41 #[tab (.slice o l.length c)] w fun e w'=> e=.returned (.bool (Q0c l))∧Below w.heap.size w w':=by
 have D:Below w.heap.size w w:=Below.refl _ _
 by_cases hlen:1≤l.length∧l.length≤16
 ·obtain ⟨hn,aa⟩:=hlen
  rcases hR with hR|⟨b,off,rfl,n,y⟩
  ·subst hR;simp at hn
  have Y:=Q01 y
  have i1:¬((l.length:Int) < 1):=by omega
  have i2:¬(16 < (l.length:Int)):=by omega
  have h0:Hid (Below w.heap.size w (w.alloc (.cells #[.slice (some ⟨b,off,none⟩) l.length c] 32))):=D.alloc (Kaq _) _
  have ac:Hid ((w.alloc (.cells #[.slice (some ⟨b,off,none⟩) l.length c] 32)).cell? ⟨w.heap.size,0,none⟩=some (.slice (some ⟨b,off,none⟩) l.length c)):=by simp [Q01,go_sem,Hid]
  have ad:w.heap.size < (w.alloc (.cells #[.slice (some ⟨b,off,none⟩) l.length c] 32)).heap.size:=by simp
  clear y D;go_enter Tryz.func41,Tryz.ntmps41;go_wp2;generalize w.alloc (.cells #[.slice (some ⟨b,off,none⟩) l.length c] 32)=w0 at *
  go_loopw [3] (fun i wr=> ∃k:Nat,k≤l.length∧i=.int .i64 k∧Hid (Qin l k)∧Hid (Below w0.heap.size w0 wr))
   (fun i _=> l.length - (intOf i).toNat)
  case atStart=> exact ⟨0,Kcq _,rfl,fun i hi=> absurd hi (Nat.not_lt_zero _),Below.refl _ _⟩
  case round=>
   obtain ⟨k,hk,rfl,A,t⟩:=hrel;have d0:=bKq0v0v0 t.out ac.out ad;have h:=Q01 (h0.out.trans (t.out.mono h0.out.size));have ag:w0.heap.size≤wr.heap.size:=t.out.size
   by_cases hlt:k < l.length
   ·obtain ⟨s,H⟩:∃s,l.getD k sl0=s:=⟨_,rfl⟩
    have q:=RdL.slot (C:=w.heap.size) Y.out k hlt;rw [H] at q;have e0:=bKq0v0v0 h.out q.1 n;have e1:=bKq0v0v0 h.out q.2.1 n;have e2:=bKq0v0v0 h.out q.2.2.1 n;have e3:=bKq0v0v0 h.out q.2.2.2.1 n;have e4:=bKq0v0v0 h.out q.2.2.2.2 n
    have af:(k:Int) < (l.length:Int):=by omega
    have x:=Q01 H;clear q H;obtain ⟨su,J,L,O,st⟩:=s;simp only at e0 e1 e2 e3 e4
    cases su with
    |false=>
     by_cases hz:J=0∧L=0∧O=0∧st=0
     ·obtain ⟨rfl,rfl,rfl,rfl⟩:=hz
      have HT:=Q01 (Q8K A.out (Q4L (by rw [x.out]) ((Qdl (by rw [x.out])).2 x.out)));clear A;go_wp2;go_roundw
      case rel=> exact ⟨k+1,hlt,by go_num,HT,show Below _ _ _ by have D:=t.out;(repeat (first|with_reducible (first|exact D|exact Below.refl _ _|refine Below.drew ?_|refine below_drewN ?_ _|refine Below.alloc ?_ ?_ _|refine Below.setCell ?_ ?_ _)|(focus (simp;first|done|omega))|omega))⟩
      case measure=> simp [intOf];omega
     ·have v:=Q01 (Q2O hlt (Q4K (by rw [x.out];simp [Q2h];intro N h2 h3 h4;exact hz ⟨N,h2,h3,h4⟩)))
      clear A;go_wp2
      all_goals go_ret
      all_goals exact ⟨Q0d v.out,by have D:=h.out;(repeat (first|with_reducible (first|exact D|exact Below.refl _ _|refine Below.drew ?_|refine below_drewN ?_ _|refine Below.alloc ?_ ?_ _|refine Below.setCell ?_ ?_ _)|(focus (simp;first|done|omega))|omega))⟩
    |true=>
     obtain ⟨W1,F⟩:∃W,wr.alloc (.cells #[.bool true,.int .i64 J,.int .i64 L,.int .i64 O,.int .i64 st] 101)=W:=⟨_,rfl⟩
     have G:Hid (Below wr.heap.size wr W1):=by rw [←F];exact (Below.refl _ _).alloc (Kaq _) _
     have d:=alz0v0v1 F;obtain ⟨P,Z,c2,R,T⟩:=alc5v0v1 F;have c5:=bKq0v0v0 G.out d0 (show w.heap.size < wr.heap.size by omega)
     have I:w.heap.size < W1.heap.size:=by omega
     have g:=Q01 (h.out.trans (G.out.mono h.out.size));have M:=Q01 (t.out.trans (G.out.mono t.out.size));have r:=Q0O J L W1
     cases hfo:Q0h J L with
     |false=>
      have v:=Q01 (Q2O hlt (Q4K (by rw [x.out];simp [Q2h,hfo])));rw [hfo] at r;clear A hfo;go_wp2_with (go_at_call 44;refine r.mono ?_;rintro e w2 ⟨rfl,a⟩;have f:=Q01 (g.out.trans (a.mono g.out.size));have m0:=(a.cell (p:=⟨wr.heap.size,0,none⟩) d).trans P;have m2:=(a.cell (p:=⟨wr.heap.size,3,none⟩) d).trans R;have m3:=(a.cell (p:=⟨wr.heap.size,4,none⟩) d).trans T;clear a)
      all_goals go_ret
      all_goals exact ⟨Q0d v.out,f.out⟩
     |true=>
      rw [hfo] at r
      by_cases hv:0≤O∧O≤100000∧0≤st∧st≤200000
      ·obtain ⟨v1,v2,v3,v4⟩:=hv
       have g1:¬O < 0:=by omega
       have g2:¬100000 < O:=by omega
       have g3:¬st < 0:=by omega
       have g4:¬200000 < st:=by omega
       have HS:=Q01 ((Q3Q (s:=l.getD k sl0) (by rw [x.out])).2 (by rw [x.out];exact ⟨hfo,v1,v2,v3,v4⟩));have HF:=Q01 hfo;clear hfo v1 v2 v3 v4
       have B:=fun W hr=> Q9w (some ⟨b,off,none⟩) c l J L W hr (by omega) hl HF.out
       by_cases hE:Q0Z l J L=((k:Int),true)
       ·have HT:=Q01 (Q8K A.out (Q4J HS.out (by rw [x.out];exact hE)))
        rw [hE] at B;clear A hE
        go_wp2_with (first|(go_at_call 44;refine r.mono ?_;rintro e w2 ⟨rfl,a⟩;have f:=Q01 (g.out.trans (a.mono g.out.size));have z:=Q01 (M.out.trans (a.mono M.out.size));have m0:=(a.cell (p:=⟨wr.heap.size,0,none⟩) d).trans P;have m1:=(a.cell (p:=⟨wr.heap.size,1,none⟩) d).trans Z;have m4:=(a.cell (p:=⟨wr.heap.size,2,none⟩) d).trans c2;have m2:=(a.cell (p:=⟨wr.heap.size,3,none⟩) d).trans R;have m3:=(a.cell (p:=⟨wr.heap.size,4,none⟩) d).trans T;have m5:=(a.cell (p:=⟨w.heap.size,0,none⟩) I).trans c5;have X:=a.size;clear a)|(go_at_call 96;refine (B _ (.inr ⟨b,off,rfl,by omega,fun i hi j V=> (f.out.cell (p:=⟨b,off+i * Q0g.k+j,none⟩) n).trans (Y.out i hi j V)⟩)).mono ?_;rintro e w3 ⟨rfl,m⟩;have u:=Q01 (z.out.trans (m.mono z.out.size));clear m))
        go_roundw
        case rel=> exact ⟨k+1,hlt,by go_num,HT,u⟩
        case measure=> simp [intOf];omega
       ·have v:=Q01 (Q2O hlt (Qeo (by rw [x.out]) (by rw [x.out];exact hE)))
        generalize hEE:Q0Z l J L=E at *;obtain ⟨E1,E2⟩:=E
        have U:E2=true→¬E1=(k:Int):=fun N h2=> hE (by rw [N,h2])
        clear A hE hEE
        cases E2 with
        |false=>
         go_wp2_with (first|(go_at_call 44;refine r.mono ?_;rintro e w2 ⟨rfl,a⟩;have f:=Q01 (g.out.trans (a.mono g.out.size));have z:=Q01 (M.out.trans (a.mono M.out.size));have m0:=(a.cell (p:=⟨wr.heap.size,0,none⟩) d).trans P;have m1:=(a.cell (p:=⟨wr.heap.size,1,none⟩) d).trans Z;have m4:=(a.cell (p:=⟨wr.heap.size,2,none⟩) d).trans c2;have m2:=(a.cell (p:=⟨wr.heap.size,3,none⟩) d).trans R;have m3:=(a.cell (p:=⟨wr.heap.size,4,none⟩) d).trans T;have m5:=(a.cell (p:=⟨w.heap.size,0,none⟩) I).trans c5;have X:=a.size;clear a)|(go_at_call 96;refine (B _ (.inr ⟨b,off,rfl,by omega,fun i hi j V=> (f.out.cell (p:=⟨b,off+i * Q0g.k+j,none⟩) n).trans (Y.out i hi j V)⟩)).mono ?_;rintro e w3 ⟨rfl,m⟩;have u:=Q01 (f.out.trans (m.mono f.out.size));clear m))
         go_ret;exact ⟨Q0d v.out,u.out⟩
        |true=>
         have ab:=U rfl;have ae:(E1==(k:Int))=false:=beq_eq_false_iff_ne.2 ab;clear U
         go_wp2_with (first|(go_at_call 44;refine r.mono ?_;rintro e w2 ⟨rfl,a⟩;have f:=Q01 (g.out.trans (a.mono g.out.size));have z:=Q01 (M.out.trans (a.mono M.out.size));have m0:=(a.cell (p:=⟨wr.heap.size,0,none⟩) d).trans P;have m1:=(a.cell (p:=⟨wr.heap.size,1,none⟩) d).trans Z;have m4:=(a.cell (p:=⟨wr.heap.size,2,none⟩) d).trans c2;have m2:=(a.cell (p:=⟨wr.heap.size,3,none⟩) d).trans R;have m3:=(a.cell (p:=⟨wr.heap.size,4,none⟩) d).trans T;have m5:=(a.cell (p:=⟨w.heap.size,0,none⟩) I).trans c5;have X:=a.size;clear a)|(go_at_call 96;refine (B _ (.inr ⟨b,off,rfl,by omega,fun i hi j V=> (f.out.cell (p:=⟨b,off+i * Q0g.k+j,none⟩) n).trans (Y.out i hi j V)⟩)).mono ?_;rintro e w3 ⟨rfl,m⟩;have u:=Q01 (f.out.trans (m.mono f.out.size));clear m))
         go_ret;exact ⟨Q0d v.out,u.out⟩
      ·have v:=Q01 (Q2O hlt (Q4K (by rw [x.out];simp [Q2h,hfo];intro N h2 h3;exact Int.not_le.1 fun h4=> hv ⟨N,h2,h3,h4⟩)))
       have HV:=Q01 hv;clear A hfo hv;go_wp2_with (go_at_call 44;refine r.mono ?_;rintro e w2 ⟨rfl,a⟩;have f:=Q01 (g.out.trans (a.mono g.out.size));have m0:=(a.cell (p:=⟨wr.heap.size,0,none⟩) d).trans P;have m1:=(a.cell (p:=⟨wr.heap.size,1,none⟩) d).trans Z;have m4:=(a.cell (p:=⟨wr.heap.size,2,none⟩) d).trans c2;have m2:=(a.cell (p:=⟨wr.heap.size,3,none⟩) d).trans R;have m3:=(a.cell (p:=⟨wr.heap.size,4,none⟩) d).trans T;clear a)
       all_goals first|(go_ret;exact ⟨Q0d v.out,f.out⟩)|(exfalso;apply HV.out;omega)|skip
   ·have e:k=l.length:=by omega
    subst e;have HY:=Q01 (Qa7 hn aa A.out);go_wp2;go_ret;exact ⟨Q0d HY.out,h.out⟩
 ·have v:=Q01 (Q6B hlen)
  by_cases N:(l.length:Int) < 1
  ·go_enter Tryz.func41,Tryz.ntmps41
   go_wp2;go_ret;exact ⟨Q0d v.out,by (repeat (first|with_reducible (first|exact D|exact Below.refl _ _|refine Below.drew ?_|refine below_drewN ?_ _|refine Below.alloc ?_ ?_ _|refine Below.setCell ?_ ?_ _)|(focus (simp;first|done|omega))|omega))⟩
  ·have h2:(16:Int) < l.length:=by omega
   go_enter Tryz.func41,Tryz.ntmps41;go_wp2;go_ret;exact ⟨Q0d v.out,by (repeat (first|with_reducible (first|exact D|exact Below.refl _ _|refine Below.drew ?_|refine below_drewN ?_ _|refine Below.alloc ?_ ?_ _|refine Below.setCell ?_ ?_ _)|(focus (simp;first|done|omega))|omega))⟩
def Qbt (l:List Sl) (k:Nat):Nat:=((l.take k).filter (fun s=> s.u)).length
theorem Q8w (l:List Sl) (k:Nat):Qbt l k≤k:=Kdq (List.length_filter_le _ _) (by simp;omega)
end Go.Proofs.YtpneolgdghbinaaGreat
