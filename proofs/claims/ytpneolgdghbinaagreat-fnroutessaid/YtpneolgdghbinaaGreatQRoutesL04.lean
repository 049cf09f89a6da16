/- Several texts in one: LSlot, ShT, TableMath, Backs, SBacks, STabS, STabS2. -/
import Derived.Deep.RegionHeld3
import Derived.Test.YtpneolgdghbinaaGreatQRoutesL03
namespace Go.Proofs.YtpneolgdghbinaaGreat
open Go.ChangeShapes Go.WideShapes Go.ChangeAt Go.RowKit Go.Joins
set_option linter.unusedVariables false
set_option linter.unusedSimpArgs false
set_option maxRecDepth 100000
set_option maxHeartbeats 40000000
structure Sl where
 u:Bool
 a:Int
 p:Int
 v:Int
 t:Int
abbrev sl0:Sl:=⟨false,0,0,0,0⟩
def Q0h:Lay Sl:=⟨5,fun s=> [.bool s.u,.int .i64 s.a,.int .i64 s.p,.int .i64 s.v,.int .i64 s.t],sl0,fun _=> rfl⟩
abbrev slot (s:Sl):Value:=.agg #[.bool s.u,.int .i64 s.a,.int .i64 s.p,.int .i64 s.v,.int .i64 s.t]
abbrev RdS:=RdL Q0h
abbrev QfW:=ownL Q0h 101
abbrev InS:=InL Q0h 101
theorem RdL.slot {C:Nat} {w:World} {b off:Nat} {l:List Sl} (h:∀i,i < l.length→∀j,j < Q0h.k→w.cell? ⟨b,off+i * Q0h.k+j,none⟩=(Q0h.cs (l.getD i Q0h.d))[j]?) (i:Nat) (hi:i < l.length):
  w.cell? ⟨b,off+i * 5,none⟩=some (.bool (l.getD i sl0).u)∧w.cell? ⟨b,off+i * 5+1,none⟩=some (.int .i64 (l.getD i sl0).a)∧w.cell? ⟨b,off+i * 5+2,none⟩=some (.int .i64 (l.getD i sl0).p)∧w.cell? ⟨b,off+i * 5+3,none⟩=some (.int .i64 (l.getD i sl0).v)∧w.cell? ⟨b,off+i * 5+4,none⟩=some (.int .i64 (l.getD i sl0).t):=
 ⟨h i hi 0 (by decide),h i hi 1 (by decide),h i hi 2 (by decide),h i hi 3 (by decide),h i hi 4 (by decide)⟩
theorem Qa4 {α:Type} (L:Lay α) (b:L.k=5) {f g h j m:Value} {a:α} (d:L.cs a=[f,g,h,j,m]):∀(l:List α) (i:Nat),(((((l.flatMap L.cs).set (i * 5) f).set (i * 5+1) g).set (i * 5+2) h).set (i * 5+3) j).set (i * 5+4) m=(l.set i a).flatMap L.cs
 |[],i=> by simp
 |q::l,0=> by
  have c:=(L.len q).trans b
  match hc:L.cs q,c with
  |[q0,q1,q2,q3,q4],_=> simp [d,hc]
 |q::l,i+1=> by
  have c:=(L.len q).trans b
  match hc:L.cs q,c with
  |[q0,q1,q2,q3,q4],_=>
   rw [show (i+1) * 5=i * 5+1+1+1+1+1 by omega];simp only [List.flatMap_cons,hc,List.cons_append,List.nil_append,List.set_cons_succ];rw [Qa4 L b d l i]
theorem Q6S:(Tryz.prog.info? 101).map (fun i=> (i.zero,i.size,i.bytes))=some (some (.agg #[.bool false,.int .i64 0,.int .i64 0,.int .i64 0,.int .i64 0]),5,40):=by kernel_rfl
theorem Q65 {e:TypeId} {w wr:World} {base B g c n:Nat} {l:List Sl} {k:Nat} (s:Sl) (b:B≤g) (d:wr.ownsRow base e 5 (.slice (some ⟨g,0,none⟩) n c) n (l.flatMap Q0h.cs)) (f:Below B w wr):
  (((((wr.setCell ⟨g,k * 5,none⟩ (.bool s.u)).setCell ⟨g,k * 5+1,none⟩ (.int .i64 s.a)).setCell ⟨g,k * 5+2,none⟩ (.int .i64 s.p)).setCell ⟨g,k * 5+3,none⟩ (.int .i64 s.v)).setCell ⟨g,k * 5+4,none⟩ (.int .i64 s.t)).ownsRow base e 5 (.slice (some ⟨g,0,none⟩) n c) n ((l.set k s).flatMap Q0h.cs)∧
   Below B w (((((wr.setCell ⟨g,k * 5,none⟩ (.bool s.u)).setCell ⟨g,k * 5+1,none⟩ (.int .i64 s.a)).setCell ⟨g,k * 5+2,none⟩ (.int .i64 s.p)).setCell ⟨g,k * 5+3,none⟩ (.int .i64 s.v)).setCell ⟨g,k * 5+4,none⟩ (.int .i64 s.t)):=by
 have h:=(((((d.stored (k * 5) (.bool s.u)).1.stored (k * 5+1) (.int .i64 s.a)).1.stored (k * 5+2) (.int .i64 s.p)).1.stored (k * 5+3) (.int .i64 s.v)).1.stored (k * 5+4) (.int .i64 s.t)).1;rw [Qa4 Q0h rfl (a:=s) rfl] at h;exact ⟨h,((((f.setCell (p:=⟨g,k * 5,none⟩) b _).setCell (p:=⟨g,k * 5+1,none⟩) b _).setCell (p:=⟨g,k * 5+2,none⟩) b _).setCell (p:=⟨g,k * 5+3,none⟩) b _).setCell (p:=⟨g,k * 5+4,none⟩) b _⟩
abbrev tab (v:Value):Value:=.agg #[v]
theorem Q0j {W:World} {B:Nat} {c:Array Value} {t:TypeId} (h:W.heap[B]? =some (.cells c t (0,0))) (j:Nat) (u:Value) (hj:c[j]? =some u):W.cell? ⟨B,j,none⟩=some u:=by
 simp [World.cell?,h,hj]
def RdT (C:Nat) (w:World) (v:Value) (l:List Sl):Prop:=∃vl,v=tab vl∧RdV Q0h C w vl l
def InTb (lo hi:Nat) (w:World) (v:Value) (l:List Sl):Prop:=∃vl,v=tab vl∧InS lo hi w vl l
theorem RdT.le {C D:Nat} {w:World} {v:Value} {m:List Sl} (h:RdT C w v m) (hc:C≤D):RdT D w v m:=by
 obtain ⟨vl,e,h1⟩:=h;exact ⟨vl,e,h1.le hc⟩
theorem InTb.rd {lo hi:Nat} {w:World} {v:Value} {m:List Sl} (h:InTb lo hi w v m):RdT hi w v m:=by
 obtain ⟨vl,e,h1⟩:=h;exact ⟨vl,e,InL.rd (L:=Q0h) h1⟩
theorem InTb.step {a b lo hi:Nat} {w w':World} {v:Value} {m:List Sl} (h:InTb a b w v m) (s:Stp lo hi w w') (hd:hi≤a∨b≤lo):InTb a b w' v m:=by
 obtain ⟨vl,e,h1⟩:=h;exact ⟨vl,e,InRow.step h1 s hd⟩
theorem InTb.row {lo hi:Nat} {w:World} {v:Value} {l:List Sl} (h:InTb lo hi w (tab v) l):InS lo hi w v l:=by
 obtain ⟨vl,e,h1⟩:=h;injection e with e;simp at e;subst e;exact h1
def Q1d (n:Nat) (a p:Int):Nat:=((a * 31+p) % (n:Int)).toNat
theorem Q1M {n:Nat} (c:0 < n) (a p:Int):Q1d n a p < n:=by
 unfold Q1d;have b:=Int.emod_nonneg (a * 31+p) (show (n:Int)≠0 by omega);have h2:=Int.emod_lt_of_pos (a * 31+p) (show (0:Int) < n by omega);omega
theorem Qd3 {n:Nat} (hn:0 < n) (a p:Int):((Q1d n a p:Nat):Int)=(a * 31+p) % (n:Int):=by
 unfold Q1d;have h1:=Int.emod_nonneg (a * 31+p) (show (n:Int)≠0 by omega);omega
theorem Q8o {n:Nat} (hn:0 < n) {a p:Int} (h:Q0n a p=true):(a * 31+p).tmod (n:Int)=((Q1d n a p:Nat):Int):=by
 rw [Qd3 hn,Int.tmod_eq_emod_of_nonneg];have:=Q2k.1 h;omega
theorem QaT {n:Nat} (hn:0 < n) {a p:Int} (h:Q0n a p=true):(31 * a+p).tmod (n:Int)=((Q1d n a p:Nat):Int):=by
 rw [Int.mul_comm];exact Q8o hn h
theorem Q5q (n i:Nat):((i:Int)+1).tmod (n:Int)=(((i+1) % n:Nat):Int):=by
 rw [Int.tmod_eq_emod_of_nonneg (by omega)];simp
def Q1K (n i k:Nat):Nat:=(k+n - i) % n
theorem Qcr {n i k:Nat} (hi:i < n) (a:k < n):((k:Int) - (i:Int)+(n:Int)).tmod (n:Int)=((Q1K n i k:Nat):Int):=by
 rw [Int.tmod_eq_emod_of_nonneg (by omega),show (k:Int) - i+n=((k+n - i:Nat):Int) by omega];simp [Q1K]
theorem Q3n {n:Nat} (hn:0 < n) (i:Nat):(i+1) % n < n:=Nat.mod_lt _ hn
def Q5h (l:List Sl) (a p:Int):Nat→Nat→Int × Bool
 |0,_=> (-1,false)
 |f+1,i=> if (l.getD i sl0).u=true then (if (l.getD i sl0).a=a∧(l.getD i sl0).p=p then ((i:Int),true) else Q5h l a p f ((i+1) % l.length)) else ((i:Int),false)
def Q1w (l:List Sl) (a p:Int):Int × Bool:=Q5h l a p l.length (Q1d l.length a p)
theorem Q4B {l:List Sl} {a p:Int} {f i:Nat} (h:(l.getD i sl0).u=false):Q5h l a p (f+1) i=((i:Int),false):=by simp only [Q5h,h];simp
theorem Q7L {l:List Sl} {a p:Int} {f i:Nat} (h:(l.getD i sl0).u=true) (h1:(l.getD i sl0).a=a) (h2:(l.getD i sl0).p=p):Q5h l a p (f+1) i=((i:Int),true):=by simp only [Q5h,h,h1,h2];simp
theorem Q5Z {l:List Sl} {a p:Int} {f i:Nat} (h:(l.getD i sl0).u=true) (h1:¬((l.getD i sl0).a=a∧(l.getD i sl0).p=p)):Q5h l a p (f+1) i=Q5h l a p f ((i+1) % l.length):=by simp only [Q5h,h,h1];simp
theorem Q7U (l:List Sl) (b:0 < l.length) (a p:Int):∀(f i:Nat),i < l.length→Q5h l a p f i=(-1,false)∨∃k,k < l.length∧((Q5h l a p f i=((k:Int),false)∧(l.getD k sl0).u=false)∨(Q5h l a p f i=((k:Int),true)∧(l.getD k sl0).u=true∧(l.getD k sl0).a=a∧(l.getD k sl0).p=p))
 |0,i,_=> .inl rfl
 |f+1,i,hi=> by
  cases hu:(l.getD i sl0).u with
  |false=> exact .inr ⟨i,hi,.inl ⟨Q4B hu,hu⟩⟩
  |true=>
   by_cases h:(l.getD i sl0).a=a∧(l.getD i sl0).p=p
   ·exact .inr ⟨i,hi,.inr ⟨Q7L hu h.1 h.2,hu,h.1,h.2⟩⟩
   ·rw [Q5Z hu h]
    exact Q7U l b a p f _ (Q3n b i)
theorem Q2i (l:List Sl) (b:0 < l.length) (a p:Int):Q1w l a p=(-1,false)∨∃k,k < l.length∧((Q1w l a p=((k:Int),false)∧(l.getD k sl0).u=false)∨(Q1w l a p=((k:Int),true)∧(l.getD k sl0).u=true∧(l.getD k sl0).a=a∧(l.getD k sl0).p=p)):=
 Q7U l b a p _ _ (Q1M b a p)
def Q2m (s:Sl):Bool:=if s.u=true then Q0n s.a s.p && decide (0≤s.v) && decide (s.v≤100000) && decide (0≤s.t) && decide (s.t≤200000) else decide (s.a=0) && decide (s.p=0) && decide (s.v=0) && decide (s.t=0)
theorem Q4I {s:Sl} (h:s.u=true):Q2m s=true↔Q0n s.a s.p=true∧0≤s.v∧s.v≤100000∧0≤s.t∧s.t≤200000:=by simp [Q2m,h,and_assoc]
theorem Qdg {s:Sl} (h:s.u=false):Q2m s=true↔s=sl0:=by
 obtain ⟨u,a,p,v,t⟩:=s;simp at h;subst h;simp [Q2m,and_assoc]
def Q9M (l:List Sl) (i:Nat):Bool:= !(l.getD i sl0).u||(Q1w l (l.getD i sl0).a (l.getD i sl0).p==((i:Int),true))
def Q44 (l:List Sl) (i:Nat):Bool:=Q2m (l.getD i sl0) && Q9M l i
def Q0k (l:List Sl):Bool:=decide (1≤l.length) && decide (l.length≤16) && (List.range l.length).all (Q44 l)
theorem Q0g {l:List Sl}:Q0k l=true↔1≤l.length∧l.length≤16∧∀i,i < l.length→Q44 l i=true:=by simp [Q0k,and_assoc]
theorem QaA {l:List Sl} (h1:1≤l.length) (h2:l.length≤16) (h:∀i,i < l.length→Q44 l i=true):true=Q0k l:=(Q0g.2 ⟨h1,h2,h⟩).symm
theorem Q2U {l:List Sl} {i:Nat} (hi:i < l.length) (h:Q44 l i=false):false=Q0k l:=by
 cases hb:Q0k l with
 |false=> rfl
 |true=> rw [(Q0g.1 hb).2.2 i hi] at h;cases h
theorem Q6r {l:List Sl} (h:¬(1≤l.length∧l.length≤16)):false=Q0k l:=by
 cases hb:Q0k l with
 |false=> rfl
 |true=> exact absurd ⟨(Q0g.1 hb).1,(Q0g.1 hb).2.1⟩ h
theorem Q4E {l:List Sl} {i:Nat} (h:Q2m (l.getD i sl0)=false):Q44 l i=false:=by unfold Q44;rw [h];rfl
theorem Qef {l:List Sl} {i:Nat} (b:(l.getD i sl0).u=true) (h:Q1w l (l.getD i sl0).a (l.getD i sl0).p≠((i:Int),true)):Q44 l i=false:=by unfold Q44 Q9M;rw [b,beq_eq_false_iff_ne.2 h];cases Q2m (l.getD i sl0) <;> rfl
theorem Q4L {l:List Sl} {i:Nat} (hu:(l.getD i sl0).u=false) (h:Q2m (l.getD i sl0)=true):Q44 l i=true:=by unfold Q44 Q9M;rw [hu,h];rfl
theorem Q4z {l:List Sl} {i:Nat} (h:Q2m (l.getD i sl0)=true) (h':Q1w l (l.getD i sl0).a (l.getD i sl0).p=((i:Int),true)):Q44 l i=true:=by unfold Q44 Q9M;rw [h,h'];cases (l.getD i sl0).u <;> simp
def Qhp (l:List Sl) (k:Nat):Prop:=∀i,i < k→Q44 l i=true
theorem Q8D {l:List Sl} {k:Nat} (h:Qhp l k) (hk:Q44 l k=true):Qhp l (k+1):=fun i hi=> by
 rcases Nat.lt_succ_iff_lt_or_eq.1 hi with h1|h1
 ·exact h i h1
 ·rw [h1];exact hk
def Q7u (l:List Sl) (k:Nat):Prop:=∀i,i < k→Q2m (l.getD i sl0)=true
theorem Qbx {l:List Sl} {k:Nat} (h:Q7u l k) (hk:Q2m (l.getD k sl0)=true):Q7u l (k+1):=fun i hi=> by
 rcases Nat.lt_succ_iff_lt_or_eq.1 hi with h1|h1
 ·exact h i h1
 ·rw [h1];exact hk
def Q6U (l:List Sl) (a p v t:Int):List Sl:=if 0≤(Q1w l a p).1 then l.set (Q1w l a p).1.toNat ⟨true,a,p,v,t⟩ else l
theorem Qbn (l:List Sl) (a p v t:Int):(Q6U l a p v t).length=l.length:=by unfold Q6U;split <;> simp
def QaC (l:List Sl) (a p:Int):Sl:=if (Q1w l a p).2=true then l.getD (Q1w l a p).1.toNat sl0 else sl0
def Q9N:Nat→(Nat→Nat)→Nat
 |0,_=> 0
 |n+1,f=> Q9N n f+f n
theorem Q8y:∀(n:Nat) {f g:Nat→Nat},(∀x,x < n→f x=g x)→Q9N n f=Q9N n g
 |0,_,_,_=> rfl
 |n+1,f,g,h=> by simp only [Q9N];rw [Q8y n (fun x hx=> h x (by omega)),h n (by omega)]
theorem Q7K:∀(n:Nat) {f g:Nat→Nat} {j:Nat},j < n→(∀x,x≠j→f x=g x)→Q9N n f+g j=Q9N n g+f j
 |0,_,_,_,h,_=> absurd h (Nat.not_lt_zero _)
 |n+1,f,g,j,h,he=> by
  simp only [Q9N]
  by_cases e:j=n
  ·subst e
   rw [Q8y j (fun x b=> he x (by omega))];omega
  ·have:=Q7K n (show j < n by omega) he
   rw [he n (fun a=> e a.symm)];omega
def wt (n:Nat) (l:List Sl) (j:Nat):Nat:=if (l.getD j sl0).u=true then Q1K n (Q1d n (l.getD j sl0).a (l.getD j sl0).p) j else 0
def phi (l:List Sl):Nat:=Q9N l.length (wt l.length l)
def Qfn (l:List Sl) (i k:Nat):Nat:=phi l * 17+Q1K l.length k i
def Q6I (n:Nat) (l:List Sl) (i k:Nat):Bool:=decide (Q1K n i k≤Q1K n (Q1d n (l.getD k sl0).a (l.getD k sl0).p) k)
def Q2A (n:Nat):Nat→List Sl→Nat→Nat→List Sl
 |0,l,_,_=> l
 |f+1,l,i,k=> if (l.getD k sl0).u=true then (if Q6I n l i k=true then Q2A n f ((l.set i (l.getD k sl0)).set k sl0) k ((k+1) % n) else Q2A n f l i ((k+1) % n)) else l
def Q5a (l:List Sl) (i:Nat):List Sl:=Q2A l.length (Qfn (l.set i sl0) i ((i+1) % l.length)+1) (l.set i sl0) i ((i+1) % l.length)
theorem QcK {n f i k:Nat} {l:List Sl} (h:(l.getD k sl0).u=false):Q2A n (f+1) l i k=l:=by simp only [Q2A,h];simp
theorem Qby {n f i k:Nat} {l:List Sl} (h:(l.getD k sl0).u=true) (hm:Q6I n l i k=true):Q2A n (f+1) l i k=Q2A n f ((l.set i (l.getD k sl0)).set k sl0) k ((k+1) % n):=by simp only [Q2A,h,hm];simp
theorem QaU {n f i k:Nat} {l:List Sl} (h:(l.getD k sl0).u=true) (hm:Q6I n l i k=false):Q2A n (f+1) l i k=Q2A n f l i ((k+1) % n):=by simp only [Q2A,h,hm];simp
theorem Q1m (l:List Sl) (i:Nat) (s:Sl) (h:i < l.length):(l.set i s).getD i sl0=s:=by simp [h]
theorem Q2o (l:List Sl) (i j:Nat) (s:Sl) (h:i≠j):(l.set i s).getD j sl0=l.getD j sl0:=by
 simp [List.getElem?_set,h]
theorem Q2V {a n:Nat} (h:a < n):a % n=a:=Nat.mod_eq_of_lt h
theorem Q8W {a n:Nat} (h1:n≤a) (h2:a < n+n):a % n=a - n:=by rw [Nat.mod_eq_sub_mod h1,Nat.mod_eq_of_lt (by omega)]
theorem Q14 {n i k:Nat} (hi:i < n) (hk:k < n):Q1K n i k=if i≤k then k - i else k+n - i:=by
 unfold Q1K
 by_cases h:i≤k
 ·rw [if_pos h,Q8W (by omega) (by omega)];omega
 ·rw [if_neg h,Q2V (by omega)]
theorem Qhr {n k:Nat} (hk:k < n):(k+1) % n=if k+1=n then 0 else k+1:=by
 by_cases h:k+1=n
 ·rw [if_pos h,h,Nat.mod_self]
 ·rw [if_neg h,Q2V (by omega)]
theorem QeH {l:List Sl} {i k:Nat} (hi:i < l.length) (a:k < l.length) (c:k≠i):Qfn l i ((k+1) % l.length) < Qfn l i k:=by
 unfold Qfn;have b:=Q3n (n:=l.length) (by omega) k;rw [Q14 b hi,Q14 a hi,Qhr a]
 split <;> (repeat' split) <;> omega
theorem Qec {l:List Sl} {i k:Nat} (D:l.length≤16) (hi:i < l.length) (c:k < l.length) (b:(l.getD i sl0).u=false) (q:(l.getD k sl0).u=true) (hm:Q6I l.length l i k=true):
  Qfn ((l.set i (l.getD k sl0)).set k sl0) k ((k+1) % l.length) < Qfn l i k:=by
 have m:i≠k:=fun e=> by rw [e,q] at b;cases b
 unfold Qfn phi;rw [show ((l.set i (l.getD k sl0)).set k sl0).length=l.length by simp];have s:=Q7K l.length (f:=wt l.length ((l.set i (l.getD k sl0)).set k sl0)) (g:=wt l.length (l.set i (l.getD k sl0))) c (fun x r=> by unfold wt;rw [Q2o _ k x _ (fun e=> r e.symm)]);have t:=Q7K l.length (f:=wt l.length (l.set i (l.getD k sl0))) (g:=wt l.length l) hi (fun x r=> by unfold wt;rw [Q2o _ i x _ (fun e=> r e.symm)])
 have v:wt l.length ((l.set i (l.getD k sl0)).set k sl0) k=0:=by unfold wt;rw [Q1m _ _ _ (by simpa using c)];rfl
 have w:wt l.length (l.set i (l.getD k sl0)) k=Q1K l.length (Q1d l.length (l.getD k sl0).a (l.getD k sl0).p) k:=by unfold wt;rw [Q2o _ i k _ m,q];rfl
 have y:wt l.length (l.set i (l.getD k sl0)) i=Q1K l.length (Q1d l.length (l.getD k sl0).a (l.getD k sl0).p) i:=by unfold wt;rw [Q1m _ _ _ hi,q];rfl
 have z:wt l.length l i=0:=by unfold wt;rw [b];rfl
 rw [v,w] at s;rw [y,z] at t;have j:=Q1M (show 0 < l.length by omega) (l.getD k sl0).a (l.getD k sl0).p
 have d:Q1K l.length i k≤Q1K l.length (Q1d l.length (l.getD k sl0).a (l.getD k sl0).p) k:=by simpa [Q6I] using hm
 generalize Q1d l.length (l.getD k sl0).a (l.getD k sl0).p=h at *;have A:=Q3n (n:=l.length) (by omega) k
 have B:Q1K l.length h i+1≤Q1K l.length h k:=by
  rw [Q14 hi c,Q14 j c] at d;rw [Q14 j hi,Q14 j c]
  (repeat' split at d) <;> (repeat' split) <;> omega
 have C:Q1K l.length ((k+1) % l.length) k < 16:=by
  have:Q1K l.length ((k+1) % l.length) k < l.length:=Nat.mod_lt _ (by omega);omega
 omega
abbrev Bk:=Int × Int × Bool
def Q1b:Lay Bk:=⟨3,fun a=> [.int .i64 a.1,.int .i64 a.2.1,.bool a.2.2],(0,0,false),fun _=> rfl⟩
abbrev back (i g:Int) (d:Bool):Value:=.agg #[.int .i64 i,.int .i64 g,.bool d]
abbrev RdK:=RdL Q1b
abbrev Q1p:=ownL Q1b 119
theorem RdL.back {C:Nat} {w:World} {b off:Nat} {l:List Bk} (h:∀i,i < l.length→∀j,j < Q1b.k→w.cell? ⟨b,off+i * Q1b.k+j,none⟩=(Q1b.cs (l.getD i Q1b.d))[j]?) (i:Nat) (hi:i < l.length):
  w.cell? ⟨b,off+i * 3,none⟩=some (.int .i64 (l.getD i (0,0,false)).1)∧w.cell? ⟨b,off+i * 3+1,none⟩=some (.int .i64 (l.getD i (0,0,false)).2.1)∧w.cell? ⟨b,off+i * 3+2,none⟩=some (.bool (l.getD i (0,0,false)).2.2):=
 ⟨h i hi 0 (by decide),h i hi 1 (by decide),h i hi 2 (by decide)⟩
theorem Qcf:(Tryz.prog.info? 119).map (fun i=> (i.zero,i.size,i.bytes))=some (some (.agg #[.int .i64 0,.int .i64 0,.bool false]),3,24):=by kernel_rfl
def Q20 (i g:Int):Bool:=decide (0≤i) && decide (i < 6) && decide (1≤g) && decide (g≤100)
theorem Q5V {i g:Int}:Q20 i g=true↔0≤i∧i < 6∧1≤g∧g≤100:=by simp [Q20,and_assoc]
def Qcc (l:List Bk) (i:Nat):Bool:=Q20 (l.getD i (0,0,false)).1 (l.getD i (0,0,false)).2.1 && (decide (i=0)||decide ((l.getD (i - 1) (0,0,false)).1 < (l.getD i (0,0,false)).1))
def QhB (l:List Bk) (k:Nat):Prop:=∀i,i < k→Qcc l i=true
def Q0c (l:List Bk):Bool:=(List.range l.length).all (Qcc l)
theorem Q1n {l:List Bk}:Q0c l=true↔QhB l l.length:=by simp [Q0c,QhB]
theorem Q5M {l:List Bk} {k:Nat} (h:QhB l k) (hk:Qcc l k=true):QhB l (k+1):=fun i hi=> by
 rcases Nat.lt_succ_iff_lt_or_eq.1 hi with h1|h1
 ·exact h i h1
 ·rw [h1];exact hk
theorem Q12 {l:List Bk} {k:Nat} (hk:k < l.length) (h:Qcc l k=false):false=Q0c l:=by
 cases hb:Q0c l with
 |false=> rfl
 |true=> rw [Q1n.1 hb k hk] at h;cases h
theorem Q9Z {l:List Bk} {x y:Int} {z:Bool} (h:l.getD 0 (0,0,false)=(x,y,z)):Qcc l 0=Q20 x y:=by simp only [Qcc,h];simp
theorem Qa8 {l:List Bk} {k:Nat} {x y a c:Int} {z d:Bool} (h:l.getD (k+1) (0,0,false)=(x,y,z)) (b:l.getD k (0,0,false)=(a,c,d)):Qcc l (k+1)=(Q20 x y && decide (a < x)):=by simp only [Qcc,h,b,Nat.add_sub_cancel];simp
theorem Q4j (o:Option Addr) (cap:Nat) (l:List Bk) (w:World) (t:RdK w.heap.size w o l) (A:l.length≤1048576):
  Calls Tryz.prog 101 #[.slice o l.length cap] w fun e J=> e=.returned (.bool (Q0c l))∧Below w.heap.size w J:=by
 go_enter Tryz.func101,Tryz.ntmps101;go_wp2
 go_loopw [3] (fun i wr=> ∃k:Nat,k≤l.length∧i=.int .i64 k∧QhB l k∧Below w.heap.size w wr)
  (fun i _=> l.length - (intOf i).toNat)
 case atStart=> exact ⟨0,Kcq _,rfl,fun i hi=> absurd hi (Nat.not_lt_zero _),Below.refl _ _⟩
 case round=>
  obtain ⟨k,M,rfl,r,m⟩:=hrel
  by_cases hlt:k < l.length
  ·rcases t with t|⟨b,off,rfl,q,c⟩
   ·subst t;simp at hlt
   obtain ⟨x,y,z,n⟩:∃x y z,l.getD k (0,0,false)=(x,y,z):=⟨_,_,_,rfl⟩;have f:=RdL.back (C:=w.heap.size) c k hlt;rw [n] at f;have u:=bKq0v0v0 m f.1 q;have v:=bKq0v0v0 m f.2.1 q;have h:=Q01 m;have g:=Q01 r
   have N:(k:Int) < (l.length:Int):=by omega
   clear m r f
   rcases k with _|j
   ·have a:=Q01 (Q9Z n)
    clear c n;simp only [Nat.zero_mul,Nat.add_zero] at u v
    by_cases h1:x < 0
    ·have d:=Q01 (Q12 hlt (a.out.trans (by simp [Q20];omega)))
     clear a g;go_wp2
     go_big_quiet (fail)
     go_wp2;go_ret;exact ⟨Q06 d.out,below_drewN h.out _⟩
    ·have E:decide (x < 0)=false:=decide_eq_false h1
     by_cases h2:6≤x
     ·have d:=Q01 (Q12 hlt (a.out.trans (by simp [Q20];omega)))
      clear a g;go_wp2
      go_big_quiet (fail)
      go_wp2;go_ret;exact ⟨Q06 d.out,below_drewN h.out _⟩
     ·have F:decide (6≤x)=false:=decide_eq_false h2
      by_cases h3:y < 1
      ·have d:=Q01 (Q12 hlt (a.out.trans (by simp [Q20];omega)))
       clear a g;go_wp2
       go_big_quiet (fail)
       go_wp2;go_ret;exact ⟨Q06 d.out,below_drewN h.out _⟩
      ·have G:decide (y < 1)=false:=decide_eq_false h3
       by_cases h4:100 < y
       ·have d:=Q01 (Q12 hlt (a.out.trans (by simp [Q20];omega)))
        clear a g;go_wp2
        go_big_quiet (fail)
        go_wp2;go_ret;exact ⟨Q06 d.out,below_drewN h.out _⟩
       ·have H:decide (100 < y)=false:=decide_eq_false h4
        have s:=Q01 (Q5M g.out (a.out.trans (by simp [Q20];omega)));clear a g;go_wp2
        go_big_quiet (fail)
        go_wp2;go_roundw
        case rel=> exact ⟨1,by omega,by go_num,s.out,below_drewN h.out _⟩
        case measure=> simp [intOf];omega
   ·obtain ⟨B,P,R,p⟩:∃x y z,l.getD j (0,0,false)=(x,y,z):=⟨_,_,_,rfl⟩
    have f:=RdL.back (C:=w.heap.size) c j (by omega);rw [p] at f;have I:=bKq0v0v0 h.out f.1 q;have a:=Q01 (Qa8 n p)
    have O:(j:Int) < (l.length:Int):=by omega
    clear c n p f
    by_cases h1:x < 0
    ·have d:=Q01 (Q12 hlt (a.out.trans (by simp [Q20];omega)))
     clear a g;go_wp2
     go_big_quiet (fail)
     go_wp2;go_ret;exact ⟨Q06 d.out,below_drewN h.out _⟩
    ·have E:decide (x < 0)=false:=decide_eq_false h1
     by_cases h2:6≤x
     ·have d:=Q01 (Q12 hlt (a.out.trans (by simp [Q20];omega)))
      clear a g;go_wp2
      go_big_quiet (fail)
      go_wp2;go_ret;exact ⟨Q06 d.out,below_drewN h.out _⟩
     ·have F:decide (6≤x)=false:=decide_eq_false h2
      by_cases h3:y < 1
      ·have d:=Q01 (Q12 hlt (a.out.trans (by simp [Q20];omega)))
       clear a g;go_wp2
       go_big_quiet (fail)
       go_wp2;go_ret;exact ⟨Q06 d.out,below_drewN h.out _⟩
      ·have G:decide (y < 1)=false:=decide_eq_false h3
       by_cases h4:100 < y
       ·have d:=Q01 (Q12 hlt (a.out.trans (by simp [Q20];omega)))
        clear a g;go_wp2
        go_big_quiet (fail)
        go_wp2;go_ret;exact ⟨Q06 d.out,below_drewN h.out _⟩
       ·have H:decide (100 < y)=false:=decide_eq_false h4
        by_cases h5:x≤B
        ·have d:=Q01 (Q12 hlt (a.out.trans (by simp [Q20];omega)))
         clear a g;go_wp2
         go_big_quiet (fail)
         go_wp2;go_ret;exact ⟨Q06 d.out,below_drewN h.out _⟩
        ·have L:decide (x≤B)=false:=decide_eq_false h5
         have s:=Q01 (Q5M g.out (a.out.trans (by simp [Q20];omega)));clear a g;go_wp2
         go_big_quiet (fail)
         go_wp2;go_roundw
         case rel=> exact ⟨j+1+1,by omega,by go_num,s.out,below_drewN h.out _⟩
         case measure=> simp [intOf];omega
  ·have e:k=l.length:=by omega
   subst e;have D:=Q01 (Q1n.2 r).symm;go_wp2;go_ret;exact ⟨Q06 D.out,m⟩
abbrev Q9j (a p:Int):Value:=.agg #[.int .i64 a,.int .i64 p]
theorem Q8L (n:Nat) (a p:Int) (w:World) (d:0 < n) (r:n≤1048576) (c:Q0n a p=true):
  Calls Tryz.prog 147 #[.int .i64 n,Q9j a p] w fun e j=> e=.returned (.int .i64 (Q1d n a p))∧Below w.heap.size w j:=by
 have h:Below w.heap.size w w:=Below.refl _ _;have q:=Q8o d c;have i:=Q1M d a p;have g:=Q2k.1 c
 have b:¬((n:Int)=0):=by omega
 have f:((n:Int)==0)=false:=by simpa using b
 obtain ⟨k,h2,l,m⟩:=g;go_enter Tryz.func147,Tryz.ntmps147;go_wp2;go_ret;exact ⟨rfl,by (repeat (first|with_reducible (first|exact h|exact Below.refl _ _|refine Below.drew ?_|refine below_drewN ?_ _|refine Below.alloc ?_ ?_ _|refine Below.setCell ?_ ?_ _)|(focus (simp;first|done|omega))|omega))⟩
theorem Q8S (o:Option Addr) (c:Nat) (l:List Sl) (a p:Int) (w:World) (G:RdS w.heap.size w o l) (D:0 < l.length) (hl:l.length≤1048576) (hf:Q0n a p=true):
  Calls Tryz.prog 96 #[tab (.slice o l.length c),Q9j a p] w fun e w'=> e=.returned (.tuple #[.int .i64 (Q1w l a p).1,.bool (Q1w l a p).2])∧Below w.heap.size w w':=by
 rcases G with G|⟨b,off,rfl,x,n⟩
 ·subst G;simp at D
 have y:Below w.heap.size w w:=Below.refl _ _;have T:=Q01 n;clear n;go_enter Tryz.func96,Tryz.ntmps96
 go_wp2_with fail;go_at_call 147;refine (Q8L l.length a p _ D hl hf).mono ?_;rintro e f ⟨rfl,m⟩;obtain ⟨t,H⟩:=Q21 m;have E:w.heap.size < f.heap.size:=(by have L:=m.size;(try simp at L);omega);have v:w.heap.size+1 < f.heap.size:=(by have L:=m.size;(try simp at L);omega);have y:Below w.heap.size w f:=(by refine Below.trans ?_ (m.mono (by have hs:=y.size;(try simp) <;> omega));(repeat (first|with_reducible (first|exact y|exact Below.refl _ _|refine Below.drew ?_|refine below_drewN ?_ _|refine Below.alloc ?_ ?_ _|refine Below.setCell ?_ ?_ _)|(focus (simp;first|done|omega))|omega)))
 have z:f.cell? ⟨w.heap.size,0,none⟩=some (.slice (some ⟨b,off,none⟩) l.length c):=by rw [t _ _ (by (try simp) <;> omega)];simp [go_sem]
 have A:f.cell? ⟨w.heap.size+1,0,none⟩=some (.int .i64 a):=by rw [t _ _ (by (try simp) <;> omega)];simp [go_sem]
 have B:f.cell? ⟨w.heap.size+1,1,none⟩=some (.int .i64 p):=by rw [t _ _ (by (try simp) <;> omega)];simp [go_sem]
 have R:=Q01 y;clear y t H m;have hh:=Q1M D a p;have X:=Q01 (show Q5h l a p l.length (Q1d l.length a p)=Q1w l a p from rfl);generalize Q1d l.length a p=h at *;go_wp2
 go_loopw [7,8] (fun i k wr=> ∃(M N:Nat),N≤l.length∧M < l.length∧i=.int .i64 M∧k=.int .i64 N∧Hid (Q5h l a p (l.length - N) M=Q1w l a p)∧Hid (Below f.heap.size f wr))
  (fun _ k _=> l.length - (intOf k).toNat)
 case atStart=> exact ⟨h,0,Kcq _,hh,rfl,rfl,X,Below.refl _ _⟩
 case round=>
  obtain ⟨i,k,hk,hi,rfl,rfl,r,j⟩:=hrel;have d0:=bKq0v0v0 j.out z E;have d1:=bKq0v0v0 j.out A v;have d2:=bKq0v0v0 j.out B v;have g:=Q01 (R.out.trans (j.out.mono R.out.size))
  by_cases hlt:k < l.length
  ·obtain ⟨s,d⟩:∃s,l.getD i sl0=s:=⟨_,rfl⟩
   have q:=RdL.slot (C:=w.heap.size) T.out i hi;rw [d] at q;have Y:=bKq0v0v0 g.out q.1 x;have Z:=bKq0v0v0 g.out q.2.1 x;have e2:=bKq0v0v0 g.out q.2.2.1 x
   have aa:(i:Int) < (l.length:Int):=by omega
   have ab:(k:Int) < (l.length:Int):=by omega
   have U:((l.length:Int)==0)=false:=beq_eq_false_iff_ne.2 (by omega);have hm:=Q5q l.length i
   have F:l.length - k=(l.length - (k+1))+1:=by omega
   rw [F] at r;obtain ⟨su,O,P,sv,st⟩:=s;simp only at Y Z e2;clear q z A B T
   cases su with
   |false=>
    have u:=Q01 (r.out.symm.trans (Q4B (by rw [d])));clear r d F;go_wp2
    go_ret2
    exact ⟨by rw [u.out];rfl,g.out⟩
   |true=>
    by_cases hq:O=a∧P=p
    ·have u:=Q01 (r.out.symm.trans (Q7L (by rw [d]) (by rw [d];exact hq.1) (by rw [d];exact hq.2)))
     obtain ⟨rfl,rfl⟩:=hq;clear r d F;go_wp2
     go_region
     go_wp2
     go_ret2
     exact ⟨by rw [u.out];rfl,Below.drew g.out⟩
    ·have u:=Q01 (r.out.symm.trans (Q5Z (by rw [d]) (by rw [d];exact hq))).symm
     clear r d F
     have V:(k+1≤l.length):=by omega
     by_cases hq1:O=a
     ·subst hq1
      have I:¬P=p:=fun e=> hq ⟨rfl,e⟩
      have J:(P==p)=false:=beq_eq_false_iff_ne.2 I;clear hq;go_wp2
      go_region
      go_wp2;go_roundw
      case rel=> exact ⟨(i+1) % l.length,k+1,V,Q3n D i,by go_num,by go_num,u,Below.drew j.out⟩
      case measure=> simp [intOf];omega
     ·have J:(O==a)=false:=beq_eq_false_iff_ne.2 hq1
      clear hq;go_wp2
      go_region
      go_wp2;go_roundw
      case rel=> exact ⟨(i+1) % l.length,k+1,V,Q3n D i,by go_num,by go_num,u,Below.drew j.out⟩
      case measure=> simp [intOf];omega
  ·have e:k=l.length:=by omega
   subst e;have u:=Q01 (show Q1w l a p=(-1,false) from r.out.symm.trans (by rw [Nat.sub_self];rfl));clear r;go_wp2
   go_ret2
   exact ⟨by rw [u.out];rfl,g.out⟩
theorem Q7W (o:Option Addr) (c:Nat) (l:List Sl) (w:World) (hR:RdS w.heap.size w o l) (hl:l.length≤1048576):
  Calls Tryz.prog 41 #[tab (.slice o l.length c)] w fun e w'=> e=.returned (.bool (Q0k l))∧Below w.heap.size w w':=by
 have D:Below w.heap.size w w:=Below.refl _ _
 by_cases hlen:1≤l.length∧l.length≤16
 ·obtain ⟨hn,aa⟩:=hlen
  rcases hR with hR|⟨b,off,rfl,n,y⟩
  ·subst hR;simp at hn
  have Y:=Q01 y
  have i1:¬((l.length:Int) < 1):=by omega
  have i2:¬(16 < (l.length:Int)):=by omega
  have h0:Hid (Below w.heap.size w (w.alloc (.cells #[.slice (some ⟨b,off,none⟩) l.length c] 32))):=D.alloc (Kaq _) _
  have ac:Hid ((w.alloc (.cells #[.slice (some ⟨b,off,none⟩) l.length c] 32)).cell? ⟨w.heap.size,0,none⟩=some (.slice (some ⟨b,off,none⟩) l.length c)):=by simp [Q01,go_sem,Hid]
  have ad:w.heap.size < (w.alloc (.cells #[.slice (some ⟨b,off,none⟩) l.length c] 32)).heap.size:=by simp
  clear y D;go_enter Tryz.func41,Tryz.ntmps41;go_wp2;generalize w.alloc (.cells #[.slice (some ⟨b,off,none⟩) l.length c] 32)=w0 at *
  go_loopw [3] (fun i wr=> ∃k:Nat,k≤l.length∧i=.int .i64 k∧Hid (Qhp l k)∧Hid (Below w0.heap.size w0 wr))
   (fun i _=> l.length - (intOf i).toNat)
  case atStart=> exact ⟨0,Kcq _,rfl,fun i hi=> absurd hi (Nat.not_lt_zero _),Below.refl _ _⟩
  case round=>
   obtain ⟨k,hk,rfl,A,t⟩:=hrel;have d0:=bKq0v0v0 t.out ac.out ad;have h:=Q01 (h0.out.trans (t.out.mono h0.out.size));have ag:w0.heap.size≤wr.heap.size:=t.out.size
   by_cases hlt:k < l.length
   ·obtain ⟨s,H⟩:∃s,l.getD k sl0=s:=⟨_,rfl⟩
    have q:=RdL.slot (C:=w.heap.size) Y.out k hlt;rw [H] at q;have e0:=bKq0v0v0 h.out q.1 n;have e1:=bKq0v0v0 h.out q.2.1 n;have e2:=bKq0v0v0 h.out q.2.2.1 n;have e3:=bKq0v0v0 h.out q.2.2.2.1 n;have e4:=bKq0v0v0 h.out q.2.2.2.2 n
    have af:(k:Int) < (l.length:Int):=by omega
    have x:=Q01 H;clear q H;obtain ⟨su,J,L,O,st⟩:=s;simp only at e0 e1 e2 e3 e4
    cases su with
    |false=>
     by_cases hz:J=0∧L=0∧O=0∧st=0
     ·obtain ⟨rfl,rfl,rfl,rfl⟩:=hz
      have HT:=Q01 (Q8D A.out (Q4L (by rw [x.out]) ((Qdg (by rw [x.out])).2 x.out)));clear A;go_wp2;go_roundw
      case rel=> exact ⟨k+1,hlt,by go_num,HT,show Below _ _ _ by have D:=t.out;(repeat (first|with_reducible (first|exact D|exact Below.refl _ _|refine Below.drew ?_|refine below_drewN ?_ _|refine Below.alloc ?_ ?_ _|refine Below.setCell ?_ ?_ _)|(focus (simp;first|done|omega))|omega))⟩
      case measure=> simp [intOf];omega
     ·have v:=Q01 (Q2U hlt (Q4E (by rw [x.out];simp [Q2m];intro N h2 h3 h4;exact hz ⟨N,h2,h3,h4⟩)))
      clear A;go_wp2
      all_goals go_ret
      all_goals exact ⟨Q06 v.out,by have D:=h.out;(repeat (first|with_reducible (first|exact D|exact Below.refl _ _|refine Below.drew ?_|refine below_drewN ?_ _|refine Below.alloc ?_ ?_ _|refine Below.setCell ?_ ?_ _)|(focus (simp;first|done|omega))|omega))⟩
    |true=>
     obtain ⟨W1,F⟩:∃W,wr.alloc (.cells #[.bool true,.int .i64 J,.int .i64 L,.int .i64 O,.int .i64 st] 101)=W:=⟨_,rfl⟩
     have G:Hid (Below wr.heap.size wr W1):=by rw [←F];exact (Below.refl _ _).alloc (Kaq _) _
     have d:=alz0v0v1 F;obtain ⟨P,Z,c2,R,T⟩:=alc5v0v1 F;have c5:=bKq0v0v0 G.out d0 (show w.heap.size < wr.heap.size by omega)
     have I:w.heap.size < W1.heap.size:=by omega
     have g:=Q01 (h.out.trans (G.out.mono h.out.size));have M:=Q01 (t.out.trans (G.out.mono t.out.size));have r:=Q0O J L W1
     cases hfo:Q0n J L with
     |false=>
      have v:=Q01 (Q2U hlt (Q4E (by rw [x.out];simp [Q2m,hfo])));rw [hfo] at r;clear A hfo;go_wp2_with (go_at_call 44;refine r.mono ?_;rintro e w2 ⟨rfl,a⟩;have f:=Q01 (g.out.trans (a.mono g.out.size));have m0:=(a.cell (p:=⟨wr.heap.size,0,none⟩) d).trans P;have m2:=(a.cell (p:=⟨wr.heap.size,3,none⟩) d).trans R;have m3:=(a.cell (p:=⟨wr.heap.size,4,none⟩) d).trans T;clear a)
      all_goals go_ret
      all_goals exact ⟨Q06 v.out,f.out⟩
     |true=>
      rw [hfo] at r
      by_cases hv:0≤O∧O≤100000∧0≤st∧st≤200000
      ·obtain ⟨v1,v2,v3,v4⟩:=hv
       have g1:¬O < 0:=by omega
       have g2:¬100000 < O:=by omega
       have g3:¬st < 0:=by omega
       have g4:¬200000 < st:=by omega
       have HS:=Q01 ((Q4I (s:=l.getD k sl0) (by rw [x.out])).2 (by rw [x.out];exact ⟨hfo,v1,v2,v3,v4⟩));have HF:=Q01 hfo;clear hfo v1 v2 v3 v4
       have B:=fun W hr=> Q8S (some ⟨b,off,none⟩) c l J L W hr (by omega) hl HF.out
       by_cases hE:Q1w l J L=((k:Int),true)
       ·have HT:=Q01 (Q8D A.out (Q4z HS.out (by rw [x.out];exact hE)))
        rw [hE] at B;clear A hE
        go_wp2_with (first|(go_at_call 44;refine r.mono ?_;rintro e w2 ⟨rfl,a⟩;have f:=Q01 (g.out.trans (a.mono g.out.size));have z:=Q01 (M.out.trans (a.mono M.out.size));have m0:=(a.cell (p:=⟨wr.heap.size,0,none⟩) d).trans P;have m1:=(a.cell (p:=⟨wr.heap.size,1,none⟩) d).trans Z;have m4:=(a.cell (p:=⟨wr.heap.size,2,none⟩) d).trans c2;have m2:=(a.cell (p:=⟨wr.heap.size,3,none⟩) d).trans R;have m3:=(a.cell (p:=⟨wr.heap.size,4,none⟩) d).trans T;have m5:=(a.cell (p:=⟨w.heap.size,0,none⟩) I).trans c5;have X:=a.size;clear a)|(go_at_call 96;refine (B _ (.inr ⟨b,off,rfl,by omega,fun i hi j V=> (f.out.cell (p:=⟨b,off+i * Q0h.k+j,none⟩) n).trans (Y.out i hi j V)⟩)).mono ?_;rintro e w3 ⟨rfl,m⟩;have u:=Q01 (z.out.trans (m.mono z.out.size));clear m))
        go_roundw
        case rel=> exact ⟨k+1,hlt,by go_num,HT,u⟩
        case measure=> simp [intOf];omega
       ·have v:=Q01 (Q2U hlt (Qef (by rw [x.out]) (by rw [x.out];exact hE)))
        generalize hEE:Q1w l J L=E at *;obtain ⟨E1,E2⟩:=E
        have U:E2=true→¬E1=(k:Int):=fun N h2=> hE (by rw [N,h2])
        clear A hE hEE
        cases E2 with
        |false=>
         go_wp2_with (first|(go_at_call 44;refine r.mono ?_;rintro e w2 ⟨rfl,a⟩;have f:=Q01 (g.out.trans (a.mono g.out.size));have z:=Q01 (M.out.trans (a.mono M.out.size));have m0:=(a.cell (p:=⟨wr.heap.size,0,none⟩) d).trans P;have m1:=(a.cell (p:=⟨wr.heap.size,1,none⟩) d).trans Z;have m4:=(a.cell (p:=⟨wr.heap.size,2,none⟩) d).trans c2;have m2:=(a.cell (p:=⟨wr.heap.size,3,none⟩) d).trans R;have m3:=(a.cell (p:=⟨wr.heap.size,4,none⟩) d).trans T;have m5:=(a.cell (p:=⟨w.heap.size,0,none⟩) I).trans c5;have X:=a.size;clear a)|(go_at_call 96;refine (B _ (.inr ⟨b,off,rfl,by omega,fun i hi j V=> (f.out.cell (p:=⟨b,off+i * Q0h.k+j,none⟩) n).trans (Y.out i hi j V)⟩)).mono ?_;rintro e w3 ⟨rfl,m⟩;have u:=Q01 (f.out.trans (m.mono f.out.size));clear m))
         go_ret;exact ⟨Q06 v.out,u.out⟩
        |true=>
         have ab:=U rfl;have ae:(E1==(k:Int))=false:=beq_eq_false_iff_ne.2 ab;clear U
         go_wp2_with (first|(go_at_call 44;refine r.mono ?_;rintro e w2 ⟨rfl,a⟩;have f:=Q01 (g.out.trans (a.mono g.out.size));have z:=Q01 (M.out.trans (a.mono M.out.size));have m0:=(a.cell (p:=⟨wr.heap.size,0,none⟩) d).trans P;have m1:=(a.cell (p:=⟨wr.heap.size,1,none⟩) d).trans Z;have m4:=(a.cell (p:=⟨wr.heap.size,2,none⟩) d).trans c2;have m2:=(a.cell (p:=⟨wr.heap.size,3,none⟩) d).trans R;have m3:=(a.cell (p:=⟨wr.heap.size,4,none⟩) d).trans T;have m5:=(a.cell (p:=⟨w.heap.size,0,none⟩) I).trans c5;have X:=a.size;clear a)|(go_at_call 96;refine (B _ (.inr ⟨b,off,rfl,by omega,fun i hi j V=> (f.out.cell (p:=⟨b,off+i * Q0h.k+j,none⟩) n).trans (Y.out i hi j V)⟩)).mono ?_;rintro e w3 ⟨rfl,m⟩;have u:=Q01 (f.out.trans (m.mono f.out.size));clear m))
         go_ret;exact ⟨Q06 v.out,u.out⟩
      ·have v:=Q01 (Q2U hlt (Q4E (by rw [x.out];simp [Q2m,hfo];intro N h2 h3;exact Int.not_le.1 fun h4=> hv ⟨N,h2,h3,h4⟩)))
       have HV:=Q01 hv;clear A hfo hv;go_wp2_with (go_at_call 44;refine r.mono ?_;rintro e w2 ⟨rfl,a⟩;have f:=Q01 (g.out.trans (a.mono g.out.size));have m0:=(a.cell (p:=⟨wr.heap.size,0,none⟩) d).trans P;have m1:=(a.cell (p:=⟨wr.heap.size,1,none⟩) d).trans Z;have m4:=(a.cell (p:=⟨wr.heap.size,2,none⟩) d).trans c2;have m2:=(a.cell (p:=⟨wr.heap.size,3,none⟩) d).trans R;have m3:=(a.cell (p:=⟨wr.heap.size,4,none⟩) d).trans T;clear a)
       all_goals first|(go_ret;exact ⟨Q06 v.out,f.out⟩)|(exfalso;apply HV.out;omega)|skip
   ·have e:k=l.length:=by omega
    subst e;have HY:=Q01 (QaA hn aa A.out);go_wp2;go_ret;exact ⟨Q06 HY.out,h.out⟩
 ·have v:=Q01 (Q6r hlen)
  by_cases N:(l.length:Int) < 1
  ·go_enter Tryz.func41,Tryz.ntmps41
   go_wp2;go_ret;exact ⟨Q06 v.out,by (repeat (first|with_reducible (first|exact D|exact Below.refl _ _|refine Below.drew ?_|refine below_drewN ?_ _|refine Below.alloc ?_ ?_ _|refine Below.setCell ?_ ?_ _)|(focus (simp;first|done|omega))|omega))⟩
  ·have h2:(16:Int) < l.length:=by omega
   go_enter Tryz.func41,Tryz.ntmps41;go_wp2;go_ret;exact ⟨Q06 v.out,by (repeat (first|with_reducible (first|exact D|exact Below.refl _ _|refine Below.drew ?_|refine below_drewN ?_ _|refine Below.alloc ?_ ?_ _|refine Below.setCell ?_ ?_ _)|(focus (simp;first|done|omega))|omega))⟩
end Go.Proofs.YtpneolgdghbinaaGreat
