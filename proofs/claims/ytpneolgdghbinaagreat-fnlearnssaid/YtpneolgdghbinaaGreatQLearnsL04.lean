/- Several texts in one: LSlot, ShT, TableMath, Backs, SBacks, STabS, STabS2, STabS3. -/
import Derived.Deep.RegionHeld3
import Derived.Test.YtpneolgdghbinaaGreatQLearnsL03
namespace Go.Proofs.YtpneolgdghbinaaGreat
open Go.ChangeShapes Go.WideShapes Go.ChangeAt Go.RowKit Go.Joins
set_option linter.unusedVariables false
set_option linter.unusedSimpArgs false
set_option maxRecDepth 100000
set_option maxHeartbeats 40000000
structure Sl where
 u:Bool
 a:Int
 p:Int
 v:Int
 t:Int
abbrev sl0:Sl:=⟨false,0,0,0,0⟩
def Q0g:Lay Sl:=⟨5,fun s=> [.bool s.u,.int .i64 s.a,.int .i64 s.p,.int .i64 s.v,.int .i64 s.t],sl0,fun _=> rfl⟩
abbrev slot (s:Sl):Value:=.agg #[.bool s.u,.int .i64 s.a,.int .i64 s.p,.int .i64 s.v,.int .i64 s.t]
abbrev RdS:=RdL Q0g
abbrev Qgq:=ownL Q0g 101
abbrev InS:=InL Q0g 101
theorem RdL.slot {C:Nat} {w:World} {b off:Nat} {l:List Sl} (h:∀i,i < l.length→∀j,j < Q0g.k→w.cell? ⟨b,off+i * Q0g.k+j,none⟩=(Q0g.cs (l.getD i Q0g.d))[j]?) (i:Nat) (hi:i < l.length):
  w.cell? ⟨b,off+i * 5,none⟩=some (.bool (l.getD i sl0).u)∧w.cell? ⟨b,off+i * 5+1,none⟩=some (.int .i64 (l.getD i sl0).a)∧w.cell? ⟨b,off+i * 5+2,none⟩=some (.int .i64 (l.getD i sl0).p)∧w.cell? ⟨b,off+i * 5+3,none⟩=some (.int .i64 (l.getD i sl0).v)∧w.cell? ⟨b,off+i * 5+4,none⟩=some (.int .i64 (l.getD i sl0).t):=
 ⟨h i hi 0 (by decide),h i hi 1 (by decide),h i hi 2 (by decide),h i hi 3 (by decide),h i hi 4 (by decide)⟩
theorem Qa1 {α:Type} (L:Lay α) (c:L.k=5) {f j h m d:Value} {a:α} (g:L.cs a=[f,j,h,m,d]):∀(l:List α) (i:Nat),(((((l.flatMap L.cs).set (i * 5) f).set (i * 5+1) j).set (i * 5+2) h).set (i * 5+3) m).set (i * 5+4) d=(l.set i a).flatMap L.cs
 |[],i=> by simp
 |q::l,0=> by
  have b:=(L.len q).trans c
  match hc:L.cs q,b with
  |[q0,q1,q2,q3,q4],_=> simp [g,hc]
 |q::l,i+1=> by
  have b:=(L.len q).trans c
  match hc:L.cs q,b with
  |[q0,q1,q2,q3,q4],_=>
   rw [show (i+1) * 5=i * 5+1+1+1+1+1 by omega];simp only [List.flatMap_cons,hc,List.cons_append,List.nil_append,List.set_cons_succ];rw [Qa1 L c g l i]
theorem Q72:(Tryz.prog.info? 101).map (fun i=> (i.zero,i.size,i.bytes))=some (some (.agg #[.bool false,.int .i64 0,.int .i64 0,.int .i64 0,.int .i64 0]),5,40):=by kernel_rfl
theorem Q3o {e:TypeId} {w wr:World} {base B g c n:Nat} {l:List Sl} {k:Nat} (s:Sl) (d:B≤g) (b:wr.ownsRow base e 5 (.slice (some ⟨g,0,none⟩) n c) n (l.flatMap Q0g.cs)) (f:Below B w wr):
  (((((wr.setCell ⟨g,k * 5,none⟩ (.bool s.u)).setCell ⟨g,k * 5+1,none⟩ (.int .i64 s.a)).setCell ⟨g,k * 5+2,none⟩ (.int .i64 s.p)).setCell ⟨g,k * 5+3,none⟩ (.int .i64 s.v)).setCell ⟨g,k * 5+4,none⟩ (.int .i64 s.t)).ownsRow base e 5 (.slice (some ⟨g,0,none⟩) n c) n ((l.set k s).flatMap Q0g.cs)∧
   Below B w (((((wr.setCell ⟨g,k * 5,none⟩ (.bool s.u)).setCell ⟨g,k * 5+1,none⟩ (.int .i64 s.a)).setCell ⟨g,k * 5+2,none⟩ (.int .i64 s.p)).setCell ⟨g,k * 5+3,none⟩ (.int .i64 s.v)).setCell ⟨g,k * 5+4,none⟩ (.int .i64 s.t)):=by
 have h:=(((((b.stored (k * 5) (.bool s.u)).1.stored (k * 5+1) (.int .i64 s.a)).1.stored (k * 5+2) (.int .i64 s.p)).1.stored (k * 5+3) (.int .i64 s.v)).1.stored (k * 5+4) (.int .i64 s.t)).1;rw [Qa1 Q0g rfl (a:=s) rfl] at h;exact ⟨h,((((f.setCell (p:=⟨g,k * 5,none⟩) d _).setCell (p:=⟨g,k * 5+1,none⟩) d _).setCell (p:=⟨g,k * 5+2,none⟩) d _).setCell (p:=⟨g,k * 5+3,none⟩) d _).setCell (p:=⟨g,k * 5+4,none⟩) d _⟩
abbrev tab (v:Value):Value:=.agg #[v]
theorem Q0m {W:World} {B:Nat} {c:Array Value} {t:TypeId} (h:W.heap[B]? =some (.cells c t (0,0))) (j:Nat) (u:Value) (hj:c[j]? =some u):W.cell? ⟨B,j,none⟩=some u:=by
 simp [World.cell?,h,hj]
def RdT (C:Nat) (w:World) (v:Value) (l:List Sl):Prop:=∃vl,v=tab vl∧RdV Q0g C w vl l
def InTb (lo hi:Nat) (w:World) (v:Value) (l:List Sl):Prop:=∃vl,v=tab vl∧InS lo hi w vl l
theorem RdT.le {C D:Nat} {w:World} {v:Value} {m:List Sl} (h:RdT C w v m) (hc:C≤D):RdT D w v m:=by
 obtain ⟨vl,e,h1⟩:=h;exact ⟨vl,e,h1.le hc⟩
theorem InTb.rd {lo hi:Nat} {w:World} {v:Value} {m:List Sl} (h:InTb lo hi w v m):RdT hi w v m:=by
 obtain ⟨vl,e,h1⟩:=h;exact ⟨vl,e,InL.rd (L:=Q0g) h1⟩
theorem InTb.step {a b lo hi:Nat} {w w':World} {v:Value} {m:List Sl} (h:InTb a b w v m) (s:Stp lo hi w w') (hd:hi≤a∨b≤lo):InTb a b w' v m:=by
 obtain ⟨vl,e,h1⟩:=h;exact ⟨vl,e,InRow.step h1 s hd⟩
theorem InTb.row {lo hi:Nat} {w:World} {v:Value} {l:List Sl} (h:InTb lo hi w (tab v) l):InS lo hi w v l:=by
 obtain ⟨vl,e,h1⟩:=h;injection e with e;simp at e;subst e;exact h1
def Q0S (n:Nat) (a p:Int):Nat:=((a * 31+p) % (n:Int)).toNat
theorem Q1o {n:Nat} (b:0 < n) (a p:Int):Q0S n a p < n:=by
 unfold Q0S;have c:=Int.emod_nonneg (a * 31+p) (show (n:Int)≠0 by omega);have h2:=Int.emod_lt_of_pos (a * 31+p) (show (0:Int) < n by omega);omega
theorem QdJ {n:Nat} (hn:0 < n) (a p:Int):((Q0S n a p:Nat):Int)=(a * 31+p) % (n:Int):=by
 unfold Q0S;have h1:=Int.emod_nonneg (a * 31+p) (show (n:Int)≠0 by omega);omega
theorem Q8x {n:Nat} (hn:0 < n) {a p:Int} (h:Q0h a p=true):(a * 31+p).tmod (n:Int)=((Q0S n a p:Nat):Int):=by
 rw [QdJ hn,Int.tmod_eq_emod_of_nonneg];have:=Q2l.1 h;omega
theorem QbT {n:Nat} (hn:0 < n) {a p:Int} (h:Q0h a p=true):(31 * a+p).tmod (n:Int)=((Q0S n a p:Nat):Int):=by
 rw [Int.mul_comm];exact Q8x hn h
theorem Q5w (n i:Nat):((i:Int)+1).tmod (n:Int)=(((i+1) % n:Nat):Int):=by
 rw [Int.tmod_eq_emod_of_nonneg (by omega)];simp
def Q1C (n i k:Nat):Nat:=(k+n - i) % n
theorem Q94 {n i k:Nat} (hi:i < n) (a:k < n):((k:Int) - (i:Int)+(n:Int)).tmod (n:Int)=((Q1C n i k:Nat):Int):=by
 rw [Int.tmod_eq_emod_of_nonneg (by omega),show (k:Int) - i+n=((k+n - i:Nat):Int) by omega];simp [Q1C]
theorem Q3j {n:Nat} (hn:0 < n) (i:Nat):(i+1) % n < n:=Nat.mod_lt _ hn
def Q4Y (l:List Sl) (a p:Int):Nat→Nat→Int × Bool
 |0,_=> (-1,false)
 |f+1,i=> if (l.getD i sl0).u=true then (if (l.getD i sl0).a=a∧(l.getD i sl0).p=p then ((i:Int),true) else Q4Y l a p f ((i+1) % l.length)) else ((i:Int),false)
def Q0Z (l:List Sl) (a p:Int):Int × Bool:=Q4Y l a p l.length (Q0S l.length a p)
theorem Q2I {l:List Sl} {a p:Int} {f i:Nat} (h:(l.getD i sl0).u=false):Q4Y l a p (f+1) i=((i:Int),false):=by simp only [Q4Y,h];simp
theorem Q5M {l:List Sl} {a p:Int} {f i:Nat} (h:(l.getD i sl0).u=true) (h1:(l.getD i sl0).a=a) (h2:(l.getD i sl0).p=p):Q4Y l a p (f+1) i=((i:Int),true):=by simp only [Q4Y,h,h1,h2];simp
theorem Q4W {l:List Sl} {a p:Int} {f i:Nat} (h:(l.getD i sl0).u=true) (h1:¬((l.getD i sl0).a=a∧(l.getD i sl0).p=p)):Q4Y l a p (f+1) i=Q4Y l a p f ((i+1) % l.length):=by simp only [Q4Y,h,h1];simp
theorem Q7Q (l:List Sl) (b:0 < l.length) (a p:Int):∀(f i:Nat),i < l.length→Q4Y l a p f i=(-1,false)∨∃k,k < l.length∧((Q4Y l a p f i=((k:Int),false)∧(l.getD k sl0).u=false)∨(Q4Y l a p f i=((k:Int),true)∧(l.getD k sl0).u=true∧(l.getD k sl0).a=a∧(l.getD k sl0).p=p))
 |0,i,_=> .inl rfl
 |f+1,i,hi=> by
  cases hu:(l.getD i sl0).u with
  |false=> exact .inr ⟨i,hi,.inl ⟨Q2I hu,hu⟩⟩
  |true=>
   by_cases h:(l.getD i sl0).a=a∧(l.getD i sl0).p=p
   ·exact .inr ⟨i,hi,.inr ⟨Q5M hu h.1 h.2,hu,h.1,h.2⟩⟩
   ·rw [Q4W hu h]
    exact Q7Q l b a p f _ (Q3j b i)
theorem Q1f (l:List Sl) (b:0 < l.length) (a p:Int):Q0Z l a p=(-1,false)∨∃k,k < l.length∧((Q0Z l a p=((k:Int),false)∧(l.getD k sl0).u=false)∨(Q0Z l a p=((k:Int),true)∧(l.getD k sl0).u=true∧(l.getD k sl0).a=a∧(l.getD k sl0).p=p)):=
 Q7Q l b a p _ _ (Q1o b a p)
def Q2g (s:Sl):Bool:=if s.u=true then Q0h s.a s.p && decide (0≤s.v) && decide (s.v≤100000) && decide (0≤s.t) && decide (s.t≤200000) else decide (s.a=0) && decide (s.p=0) && decide (s.v=0) && decide (s.t=0)
theorem Q3M {s:Sl} (h:s.u=true):Q2g s=true↔Q0h s.a s.p=true∧0≤s.v∧s.v≤100000∧0≤s.t∧s.t≤200000:=by simp [Q2g,h,and_assoc]
theorem QdO {s:Sl} (h:s.u=false):Q2g s=true↔s=sl0:=by
 obtain ⟨u,a,p,v,t⟩:=s;simp at h;subst h;simp [Q2g,and_assoc]
def Q9S (l:List Sl) (i:Nat):Bool:= !(l.getD i sl0).u||(Q0Z l (l.getD i sl0).a (l.getD i sl0).p==((i:Int),true))
def Q3s (l:List Sl) (i:Nat):Bool:=Q2g (l.getD i sl0) && Q9S l i
def Q0c (l:List Sl):Bool:=decide (1≤l.length) && decide (l.length≤16) && (List.range l.length).all (Q3s l)
theorem Q07 {l:List Sl}:Q0c l=true↔1≤l.length∧l.length≤16∧∀i,i < l.length→Q3s l i=true:=by simp [Q0c,and_assoc]
theorem Qak {l:List Sl} (h1:1≤l.length) (h2:l.length≤16) (h:∀i,i < l.length→Q3s l i=true):true=Q0c l:=(Q07.2 ⟨h1,h2,h⟩).symm
theorem Q2T {l:List Sl} {i:Nat} (hi:i < l.length) (h:Q3s l i=false):false=Q0c l:=by
 cases hb:Q0c l with
 |false=> rfl
 |true=> rw [(Q07.1 hb).2.2 i hi] at h;cases h
theorem Q6D {l:List Sl} (h:¬(1≤l.length∧l.length≤16)):false=Q0c l:=by
 cases hb:Q0c l with
 |false=> rfl
 |true=> exact absurd ⟨(Q07.1 hb).1,(Q07.1 hb).2.1⟩ h
theorem Q4I {l:List Sl} {i:Nat} (h:Q2g (l.getD i sl0)=false):Q3s l i=false:=by unfold Q3s;rw [h];rfl
theorem QeY {l:List Sl} {i:Nat} (b:(l.getD i sl0).u=true) (h:Q0Z l (l.getD i sl0).a (l.getD i sl0).p≠((i:Int),true)):Q3s l i=false:=by unfold Q3s Q9S;rw [b,beq_eq_false_iff_ne.2 h];cases Q2g (l.getD i sl0) <;> rfl
theorem Q4H {l:List Sl} {i:Nat} (hu:(l.getD i sl0).u=false) (h:Q2g (l.getD i sl0)=true):Q3s l i=true:=by unfold Q3s Q9S;rw [hu,h];rfl
theorem Q4M {l:List Sl} {i:Nat} (h:Q2g (l.getD i sl0)=true) (h':Q0Z l (l.getD i sl0).a (l.getD i sl0).p=((i:Int),true)):Q3s l i=true:=by unfold Q3s Q9S;rw [h,h'];cases (l.getD i sl0).u <;> simp
def QhQ (l:List Sl) (k:Nat):Prop:=∀i,i < k→Q3s l i=true
theorem Q8D {l:List Sl} {k:Nat} (h:QhQ l k) (hk:Q3s l k=true):QhQ l (k+1):=fun i hi=> by
 rcases Nat.lt_succ_iff_lt_or_eq.1 hi with h1|h1
 ·exact h i h1
 ·rw [h1];exact hk
def Q7l (l:List Sl) (k:Nat):Prop:=∀i,i < k→Q2g (l.getD i sl0)=true
theorem QbL {l:List Sl} {k:Nat} (h:Q7l l k) (hk:Q2g (l.getD k sl0)=true):Q7l l (k+1):=fun i hi=> by
 rcases Nat.lt_succ_iff_lt_or_eq.1 hi with h1|h1
 ·exact h i h1
 ·rw [h1];exact hk
def Q4c (l:List Sl) (a p v t:Int):List Sl:=if 0≤(Q0Z l a p).1 then l.set (Q0Z l a p).1.toNat ⟨true,a,p,v,t⟩ else l
theorem Q82 (l:List Sl) (a p v t:Int):(Q4c l a p v t).length=l.length:=by unfold Q4c;split <;> simp
def Q6j (l:List Sl) (a p:Int):Sl:=if (Q0Z l a p).2=true then l.getD (Q0Z l a p).1.toNat sl0 else sl0
def QaG:Nat→(Nat→Nat)→Nat
 |0,_=> 0
 |n+1,f=> QaG n f+f n
theorem Q8E:∀(n:Nat) {f g:Nat→Nat},(∀x,x < n→f x=g x)→QaG n f=QaG n g
 |0,_,_,_=> rfl
 |n+1,f,g,h=> by simp only [QaG];rw [Q8E n (fun x hx=> h x (by omega)),h n (by omega)]
theorem Q7N:∀(n:Nat) {f g:Nat→Nat} {j:Nat},j < n→(∀x,x≠j→f x=g x)→QaG n f+g j=QaG n g+f j
 |0,_,_,_,h,_=> absurd h (Nat.not_lt_zero _)
 |n+1,f,g,j,h,he=> by
  simp only [QaG]
  by_cases e:j=n
  ·subst e
   rw [Q8E j (fun x b=> he x (by omega))];omega
  ·have:=Q7N n (show j < n by omega) he
   rw [he n (fun a=> e a.symm)];omega
def wt (n:Nat) (l:List Sl) (j:Nat):Nat:=if (l.getD j sl0).u=true then Q1C n (Q0S n (l.getD j sl0).a (l.getD j sl0).p) j else 0
def phi (l:List Sl):Nat:=QaG l.length (wt l.length l)
def QfU (l:List Sl) (i k:Nat):Nat:=phi l * 17+Q1C l.length k i
def Q4X (n:Nat) (l:List Sl) (i k:Nat):Bool:=decide (Q1C n i k≤Q1C n (Q0S n (l.getD k sl0).a (l.getD k sl0).p) k)
def Q2B (n:Nat):Nat→List Sl→Nat→Nat→List Sl
 |0,l,_,_=> l
 |f+1,l,i,k=> if (l.getD k sl0).u=true then (if Q4X n l i k=true then Q2B n f ((l.set i (l.getD k sl0)).set k sl0) k ((k+1) % n) else Q2B n f l i ((k+1) % n)) else l
def Q1F (l:List Sl) (i:Nat):List Sl:=Q2B l.length (QfU (l.set i sl0) i ((i+1) % l.length)+1) (l.set i sl0) i ((i+1) % l.length)
theorem QcT {n f i k:Nat} {l:List Sl} (h:(l.getD k sl0).u=false):Q2B n (f+1) l i k=l:=by simp only [Q2B,h];simp
theorem QbU {n f i k:Nat} {l:List Sl} (h:(l.getD k sl0).u=true) (hm:Q4X n l i k=true):Q2B n (f+1) l i k=Q2B n f ((l.set i (l.getD k sl0)).set k sl0) k ((k+1) % n):=by simp only [Q2B,h,hm];simp
theorem Qbz {n f i k:Nat} {l:List Sl} (h:(l.getD k sl0).u=true) (hm:Q4X n l i k=false):Q2B n (f+1) l i k=Q2B n f l i ((k+1) % n):=by simp only [Q2B,h,hm];simp
theorem Q0Y (l:List Sl) (i:Nat) (s:Sl) (h:i < l.length):(l.set i s).getD i sl0=s:=by simp [h]
theorem Q1G (l:List Sl) (i j:Nat) (s:Sl) (h:i≠j):(l.set i s).getD j sl0=l.getD j sl0:=by
 simp [List.getElem?_set,h]
theorem Q32 {a n:Nat} (h:a < n):a % n=a:=Nat.mod_eq_of_lt h
theorem Q9G {a n:Nat} (h1:n≤a) (h2:a < n+n):a % n=a - n:=by rw [Nat.mod_eq_sub_mod h1,Nat.mod_eq_of_lt (by omega)]
theorem Q15 {n i k:Nat} (hi:i < n) (hk:k < n):Q1C n i k=if i≤k then k - i else k+n - i:=by
 unfold Q1C
 by_cases h:i≤k
 ·rw [if_pos h,Q9G (by omega) (by omega)];omega
 ·rw [if_neg h,Q32 (by omega)]
theorem Qid {n k:Nat} (hk:k < n):(k+1) % n=if k+1=n then 0 else k+1:=by
 by_cases h:k+1=n
 ·rw [if_pos h,h,Nat.mod_self]
 ·rw [if_neg h,Q32 (by omega)]
theorem QeC {l:List Sl} {i k:Nat} (hi:i < l.length) (a:k < l.length) (b:k≠i):QfU l i ((k+1) % l.length) < QfU l i k:=by
 unfold QfU;have c:=Q3j (n:=l.length) (by omega) k;rw [Q15 c hi,Q15 a hi,Qid a]
 split <;> (repeat' split) <;> omega
theorem Qeu {l:List Sl} {i k:Nat} (C:l.length≤16) (hi:i < l.length) (d:k < l.length) (b:(l.getD i sl0).u=false) (q:(l.getD k sl0).u=true) (hm:Q4X l.length l i k=true):
  QfU ((l.set i (l.getD k sl0)).set k sl0) k ((k+1) % l.length) < QfU l i k:=by
 have m:i≠k:=fun e=> by rw [e,q] at b;cases b
 unfold QfU phi;rw [show ((l.set i (l.getD k sl0)).set k sl0).length=l.length by simp];have s:=Q7N l.length (f:=wt l.length ((l.set i (l.getD k sl0)).set k sl0)) (g:=wt l.length (l.set i (l.getD k sl0))) d (fun x j=> by unfold wt;rw [Q1G _ k x _ (fun e=> j e.symm)]);have z:=Q7N l.length (f:=wt l.length (l.set i (l.getD k sl0))) (g:=wt l.length l) hi (fun x j=> by unfold wt;rw [Q1G _ i x _ (fun e=> j e.symm)])
 have y:wt l.length ((l.set i (l.getD k sl0)).set k sl0) k=0:=by unfold wt;rw [Q0Y _ _ _ (by simpa using d)];rfl
 have w:wt l.length (l.set i (l.getD k sl0)) k=Q1C l.length (Q0S l.length (l.getD k sl0).a (l.getD k sl0).p) k:=by unfold wt;rw [Q1G _ i k _ m,q];rfl
 have t:wt l.length (l.set i (l.getD k sl0)) i=Q1C l.length (Q0S l.length (l.getD k sl0).a (l.getD k sl0).p) i:=by unfold wt;rw [Q0Y _ _ _ hi,q];rfl
 have v:wt l.length l i=0:=by unfold wt;rw [b];rfl
 rw [y,w] at s;rw [t,v] at z;have r:=Q1o (show 0 < l.length by omega) (l.getD k sl0).a (l.getD k sl0).p
 have c:Q1C l.length i k≤Q1C l.length (Q0S l.length (l.getD k sl0).a (l.getD k sl0).p) k:=by simpa [Q4X] using hm
 generalize Q0S l.length (l.getD k sl0).a (l.getD k sl0).p=h at *;have D:=Q3j (n:=l.length) (by omega) k
 have A:Q1C l.length h i+1≤Q1C l.length h k:=by
  rw [Q15 hi d,Q15 r d] at c;rw [Q15 r hi,Q15 r d]
  (repeat' split at c) <;> (repeat' split) <;> omega
 have B:Q1C l.length ((k+1) % l.length) k < 16:=by
  have:Q1C l.length ((k+1) % l.length) k < l.length:=Nat.mod_lt _ (by omega);omega
 omega
abbrev Bk:=Int × Int × Bool
def Q1d:Lay Bk:=⟨3,fun a=> [.int .i64 a.1,.int .i64 a.2.1,.bool a.2.2],(0,0,false),fun _=> rfl⟩
abbrev back (i g:Int) (d:Bool):Value:=.agg #[.int .i64 i,.int .i64 g,.bool d]
abbrev RdK:=RdL Q1d
abbrev Q1w:=ownL Q1d 119
theorem RdL.back {C:Nat} {w:World} {b off:Nat} {l:List Bk} (h:∀i,i < l.length→∀j,j < Q1d.k→w.cell? ⟨b,off+i * Q1d.k+j,none⟩=(Q1d.cs (l.getD i Q1d.d))[j]?) (i:Nat) (hi:i < l.length):
  w.cell? ⟨b,off+i * 3,none⟩=some (.int .i64 (l.getD i (0,0,false)).1)∧w.cell? ⟨b,off+i * 3+1,none⟩=some (.int .i64 (l.getD i (0,0,false)).2.1)∧w.cell? ⟨b,off+i * 3+2,none⟩=some (.bool (l.getD i (0,0,false)).2.2):=
 ⟨h i hi 0 (by decide),h i hi 1 (by decide),h i hi 2 (by decide)⟩
theorem Qc6:(Tryz.prog.info? 119).map (fun i=> (i.zero,i.size,i.bytes))=some (some (.agg #[.int .i64 0,.int .i64 0,.bool false]),3,24):=by kernel_rfl
def Q3X (i g:Int):Bool:=decide (0≤i) && decide (i < 6) && decide (1≤g) && decide (g≤100)
theorem Q5m {i g:Int}:Q3X i g=true↔0≤i∧i < 6∧1≤g∧g≤100:=by simp [Q3X,and_assoc]
def QcI (l:List Bk) (i:Nat):Bool:=Q3X (l.getD i (0,0,false)).1 (l.getD i (0,0,false)).2.1 && (decide (i=0)||decide ((l.getD (i - 1) (0,0,false)).1 < (l.getD i (0,0,false)).1))
def QiG (l:List Bk) (k:Nat):Prop:=∀i,i < k→QcI l i=true
def Q0e (l:List Bk):Bool:=(List.range l.length).all (QcI l)
theorem Q1x {l:List Bk}:Q0e l=true↔QiG l l.length:=by simp [Q0e,QiG]
theorem Qa9 {l:List Bk} {k:Nat} (h:QiG l k) (hk:QcI l k=true):QiG l (k+1):=fun i hi=> by
 rcases Nat.lt_succ_iff_lt_or_eq.1 hi with h1|h1
 ·exact h i h1
 ·rw [h1];exact hk
theorem Q5i {l:List Bk} {k:Nat} (hk:k < l.length) (h:QcI l k=false):false=Q0e l:=by
 cases hb:Q0e l with
 |false=> rfl
 |true=> rw [Q1x.1 hb k hk] at h;cases h
theorem QeW {l:List Bk} {x y:Int} {z:Bool} (h:l.getD 0 (0,0,false)=(x,y,z)):QcI l 0=Q3X x y:=by simp only [QcI,h];simp
theorem Qfq {l:List Bk} {k:Nat} {x y a c:Int} {z d:Bool} (h:l.getD (k+1) (0,0,false)=(x,y,z)) (b:l.getD k (0,0,false)=(a,c,d)):QcI l (k+1)=(Q3X x y && decide (a < x)):=by simp only [QcI,h,b,Nat.add_sub_cancel];simp
abbrev Q6c (a p:Int):Value:=.agg #[.int .i64 a,.int .i64 p]
theorem Q8n (n:Nat) (a p:Int) (w:World) (d:0 < n) (m:n≤1048576) (c:Q0h a p=true):
  Calls Tryz.prog 147 #[.int .i64 n,Q6c a p] w fun e j=> e=.returned (.int .i64 (Q0S n a p))∧Below w.heap.size w j:=by
 have h:Below w.heap.size w w:=Below.refl _ _;have k:=Q8x d c;have i:=Q1o d a p;have g:=Q2l.1 c
 have b:¬((n:Int)=0):=by omega
 have f:((n:Int)==0)=false:=by simpa using b
 obtain ⟨r,h2,l,q⟩:=g;go_enter Tryz.func147,Tryz.ntmps147;go_wp2;go_ret;exact ⟨rfl,by (repeat (first|with_reducible (first|exact h|exact Below.refl _ _|refine Below.drew ?_|refine below_drewN ?_ _|refine Below.alloc ?_ ?_ _|refine Below.setCell ?_ ?_ _)|(focus (simp;first|done|omega))|omega))⟩
theorem Q9O (o:Option Addr) (c:Nat) (l:List Sl) (a p:Int) (w:World) (G:RdS w.heap.size w o l) (B:0 < l.length) (hl:l.length≤1048576) (hf:Q0h a p=true):
  Calls Tryz.prog 96 #[tab (.slice o l.length c),Q6c a p] w fun e Y=> e=.returned (.tuple #[.int .i64 (Q0Z l a p).1,.bool (Q0Z l a p).2])∧Below w.heap.size w Y:=by
 rcases G with G|⟨b,off,rfl,x,q⟩
 ·subst G;simp at B
 have z:Below w.heap.size w w:=Below.refl _ _;have T:=Q01 q;clear q;go_enter Tryz.func96,Tryz.ntmps96
 go_wp2_with fail;go_at_call 147;refine (Q8n l.length a p _ B hl hf).mono ?_;rintro e f ⟨rfl,m⟩;obtain ⟨t,O⟩:=Q23 m;have D:w.heap.size < f.heap.size:=(by have N:=m.size;(try simp at N);omega);have u:w.heap.size+1 < f.heap.size:=(by have N:=m.size;(try simp at N);omega);have z:Below w.heap.size w f:=(by refine Below.trans ?_ (m.mono (by have hs:=z.size;(try simp) <;> omega));(repeat (first|with_reducible (first|exact z|exact Below.refl _ _|refine Below.drew ?_|refine below_drewN ?_ _|refine Below.alloc ?_ ?_ _|refine Below.setCell ?_ ?_ _)|(focus (simp;first|done|omega))|omega)))
 have A:f.cell? ⟨w.heap.size,0,none⟩=some (.slice (some ⟨b,off,none⟩) l.length c):=by rw [t _ _ (by (try simp) <;> omega)];simp [go_sem]
 have y:f.cell? ⟨w.heap.size+1,0,none⟩=some (.int .i64 a):=by rw [t _ _ (by (try simp) <;> omega)];simp [go_sem]
 have E:f.cell? ⟨w.heap.size+1,1,none⟩=some (.int .i64 p):=by rw [t _ _ (by (try simp) <;> omega)];simp [go_sem]
 have V:=Q01 z;clear z t O m;have hh:=Q1o B a p;have HE:=Q01 (show Q4Y l a p l.length (Q0S l.length a p)=Q0Z l a p from rfl);generalize Q0S l.length a p=h at *;go_wp2
 go_loopw [7,8] (fun i k wr=> ∃(M H:Nat),H≤l.length∧M < l.length∧i=.int .i64 M∧k=.int .i64 H∧Hid (Q4Y l a p (l.length - H) M=Q0Z l a p)∧Hid (Below f.heap.size f wr))
  (fun _ k _=> l.length - (intOf k).toNat)
 case atStart=> exact ⟨h,0,Kcq _,hh,rfl,rfl,HE,Below.refl _ _⟩
 case round=>
  obtain ⟨i,k,hk,hi,rfl,rfl,r,g⟩:=hrel;have d0:=bKq0v0v0 g.out A D;have d1:=bKq0v0v0 g.out y u;have d2:=bKq0v0v0 g.out E u;have j:=Q01 (V.out.trans (g.out.mono V.out.size))
  by_cases hlt:k < l.length
  ·obtain ⟨s,d⟩:∃s,l.getD i sl0=s:=⟨_,rfl⟩
   have n:=RdL.slot (C:=w.heap.size) T.out i hi;rw [d] at n;have e0:=bKq0v0v0 j.out n.1 x;have X:=bKq0v0v0 j.out n.2.1 x;have e2:=bKq0v0v0 j.out n.2.2.1 x
   have aa:(i:Int) < (l.length:Int):=by omega
   have ab:(k:Int) < (l.length:Int):=by omega
   have U:((l.length:Int)==0)=false:=beq_eq_false_iff_ne.2 (by omega);have hm:=Q5w l.length i
   have F:l.length - k=(l.length - (k+1))+1:=by omega
   rw [F] at r;obtain ⟨Z,L,J,sv,st⟩:=s;simp only at e0 X e2;clear n A y E T
   cases Z with
   |false=>
    have v:=Q01 (r.out.symm.trans (Q2I (by rw [d])));clear r d F;go_wp2
    go_ret2
    exact ⟨by rw [v.out];rfl,j.out⟩
   |true=>
    by_cases hq:L=a∧J=p
    ·have v:=Q01 (r.out.symm.trans (Q5M (by rw [d]) (by rw [d];exact hq.1) (by rw [d];exact hq.2)))
     obtain ⟨rfl,rfl⟩:=hq;clear r d F;go_wp2
     go_region
     go_wp2
     go_ret2
     exact ⟨by rw [v.out];rfl,Below.drew j.out⟩
    ·have v:=Q01 (r.out.symm.trans (Q4W (by rw [d]) (by rw [d];exact hq))).symm
     clear r d F
     have R:(k+1≤l.length):=by omega
     by_cases hq1:L=a
     ·subst hq1
      have P:¬J=p:=fun e=> hq ⟨rfl,e⟩
      have I:(J==p)=false:=beq_eq_false_iff_ne.2 P;clear hq;go_wp2
      go_region
      go_wp2;go_roundw
      case rel=> exact ⟨(i+1) % l.length,k+1,R,Q3j B i,by go_num,by go_num,v,Below.drew g.out⟩
      case measure=> simp [intOf];omega
     ·have I:(L==a)=false:=beq_eq_false_iff_ne.2 hq1
      clear hq;go_wp2
      go_region
      go_wp2;go_roundw
      case rel=> exact ⟨(i+1) % l.length,k+1,R,Q3j B i,by go_num,by go_num,v,Below.drew g.out⟩
      case measure=> simp [intOf];omega
  ·have e:k=l.length:=by omega
   subst e;have v:=Q01 (show Q0Z l a p=(-1,false) from r.out.symm.trans (by rw [Nat.sub_self];rfl));clear r;go_wp2
   go_ret2
   exact ⟨by rw [v.out];rfl,j.out⟩
theorem Q7w (o:Option Addr) (c:Nat) (l:List Sl) (w:World) (hR:RdS w.heap.size w o l) (hl:l.length≤1048576):
  Calls Tryz.prog 41 #[tab (.slice o l.length c)] w fun e w'=> e=.returned (.bool (Q0c l))∧Below w.heap.size w w':=by
 have D:Below w.heap.size w w:=Below.refl _ _
 by_cases hlen:1≤l.length∧l.length≤16
 ·obtain ⟨hn,ad⟩:=hlen
  rcases hR with hR|⟨b,off,rfl,m,x⟩
  ·subst hR;simp at hn
  have Z:=Q01 x
  have i1:¬((l.length:Int) < 1):=by omega
  have i2:¬(16 < (l.length:Int)):=by omega
  have h0:Hid (Below w.heap.size w (w.alloc (.cells #[.slice (some ⟨b,off,none⟩) l.length c] 32))):=D.alloc (Kaq _) _
  have ab:Hid ((w.alloc (.cells #[.slice (some ⟨b,off,none⟩) l.length c] 32)).cell? ⟨w.heap.size,0,none⟩=some (.slice (some ⟨b,off,none⟩) l.length c)):=by simp [Q01,go_sem,Hid]
  have ac:w.heap.size < (w.alloc (.cells #[.slice (some ⟨b,off,none⟩) l.length c] 32)).heap.size:=by simp
  clear x D;go_enter Tryz.func41,Tryz.ntmps41;go_wp2;generalize w.alloc (.cells #[.slice (some ⟨b,off,none⟩) l.length c] 32)=w0 at *
  go_loopw [3] (fun i wr=> ∃k:Nat,k≤l.length∧i=.int .i64 k∧Hid (QhQ l k)∧Hid (Below w0.heap.size w0 wr))
   (fun i _=> l.length - (intOf i).toNat)
  case atStart=> exact ⟨0,Kcq _,rfl,fun i hi=> absurd hi (Nat.not_lt_zero _),Below.refl _ _⟩
  case round=>
   obtain ⟨k,hk,rfl,A,t⟩:=hrel;have d0:=bKq0v0v0 t.out ab.out ac;have h:=Q01 (h0.out.trans (t.out.mono h0.out.size));have ae:w0.heap.size≤wr.heap.size:=t.out.size
   by_cases hlt:k < l.length
   ·obtain ⟨s,L⟩:∃s,l.getD k sl0=s:=⟨_,rfl⟩
    have r:=RdL.slot (C:=w.heap.size) Z.out k hlt;rw [L] at r;have e0:=bKq0v0v0 h.out r.1 m;have e1:=bKq0v0v0 h.out r.2.1 m;have e2:=bKq0v0v0 h.out r.2.2.1 m;have e3:=bKq0v0v0 h.out r.2.2.2.1 m;have e4:=bKq0v0v0 h.out r.2.2.2.2 m
    have ag:(k:Int) < (l.length:Int):=by omega
    have u:=Q01 L;clear r L;obtain ⟨su,J,H,N,st⟩:=s;simp only at e0 e1 e2 e3 e4
    cases su with
    |false=>
     by_cases hz:J=0∧H=0∧N=0∧st=0
     ·obtain ⟨rfl,rfl,rfl,rfl⟩:=hz
      have HT:=Q01 (Q8D A.out (Q4H (by rw [u.out]) ((QdO (by rw [u.out])).2 u.out)));clear A;go_wp2;go_roundw
      case rel=> exact ⟨k+1,hlt,by go_num,HT,show Below _ _ _ by have D:=t.out;(repeat (first|with_reducible (first|exact D|exact Below.refl _ _|refine Below.drew ?_|refine below_drewN ?_ _|refine Below.alloc ?_ ?_ _|refine Below.setCell ?_ ?_ _)|(focus (simp;first|done|omega))|omega))⟩
      case measure=> simp [intOf];omega
     ·have v:=Q01 (Q2T hlt (Q4I (by rw [u.out];simp [Q2g];intro O h2 h3 h4;exact hz ⟨O,h2,h3,h4⟩)))
      clear A;go_wp2
      all_goals go_ret
      all_goals exact ⟨Q0d v.out,by have D:=h.out;(repeat (first|with_reducible (first|exact D|exact Below.refl _ _|refine Below.drew ?_|refine below_drewN ?_ _|refine Below.alloc ?_ ?_ _|refine Below.setCell ?_ ?_ _)|(focus (simp;first|done|omega))|omega))⟩
    |true=>
     obtain ⟨W1,G⟩:∃W,wr.alloc (.cells #[.bool true,.int .i64 J,.int .i64 H,.int .i64 N,.int .i64 st] 101)=W:=⟨_,rfl⟩
     have I:Hid (Below wr.heap.size wr W1):=by rw [←G];exact (Below.refl _ _).alloc (Kaq _) _
     have d:=alz0v0v1 G;obtain ⟨T,c1,c2,X,P⟩:=alc5v0v1 G;have c5:=bKq0v0v0 I.out d0 (show w.heap.size < wr.heap.size by omega)
     have F:w.heap.size < W1.heap.size:=by omega
     have g:=Q01 (h.out.trans (I.out.mono h.out.size));have M:=Q01 (t.out.trans (I.out.mono t.out.size));have q:=Q0O J H W1
     cases hfo:Q0h J H with
     |false=>
      have v:=Q01 (Q2T hlt (Q4I (by rw [u.out];simp [Q2g,hfo])));rw [hfo] at q;clear A hfo;go_wp2_with (go_at_call 44;refine q.mono ?_;rintro e w2 ⟨rfl,a⟩;have f:=Q01 (g.out.trans (a.mono g.out.size));have m0:=(a.cell (p:=⟨wr.heap.size,0,none⟩) d).trans T;have Y:=(a.cell (p:=⟨wr.heap.size,3,none⟩) d).trans X;have m3:=(a.cell (p:=⟨wr.heap.size,4,none⟩) d).trans P;clear a)
      all_goals go_ret
      all_goals exact ⟨Q0d v.out,f.out⟩
     |true=>
      rw [hfo] at q
      by_cases hv:0≤N∧N≤100000∧0≤st∧st≤200000
      ·obtain ⟨v1,v2,v3,v4⟩:=hv
       have g1:¬N < 0:=by omega
       have g2:¬100000 < N:=by omega
       have g3:¬st < 0:=by omega
       have g4:¬200000 < st:=by omega
       have HS:=Q01 ((Q3M (s:=l.getD k sl0) (by rw [u.out])).2 (by rw [u.out];exact ⟨hfo,v1,v2,v3,v4⟩));have HF:=Q01 hfo;clear hfo v1 v2 v3 v4
       have z:=fun W hr=> Q9O (some ⟨b,off,none⟩) c l J H W hr (by omega) hl HF.out
       by_cases hE:Q0Z l J H=((k:Int),true)
       ·have HT:=Q01 (Q8D A.out (Q4M HS.out (by rw [u.out];exact hE)))
        rw [hE] at z;clear A hE
        go_wp2_with (first|(go_at_call 44;refine q.mono ?_;rintro e w2 ⟨rfl,a⟩;have f:=Q01 (g.out.trans (a.mono g.out.size));have B:=Q01 (M.out.trans (a.mono M.out.size));have m0:=(a.cell (p:=⟨wr.heap.size,0,none⟩) d).trans T;have m1:=(a.cell (p:=⟨wr.heap.size,1,none⟩) d).trans c1;have m4:=(a.cell (p:=⟨wr.heap.size,2,none⟩) d).trans c2;have Y:=(a.cell (p:=⟨wr.heap.size,3,none⟩) d).trans X;have m3:=(a.cell (p:=⟨wr.heap.size,4,none⟩) d).trans P;have m5:=(a.cell (p:=⟨w.heap.size,0,none⟩) F).trans c5;have U:=a.size;clear a)|(go_at_call 96;refine (z _ (.inr ⟨b,off,rfl,by omega,fun i hi j R=> (f.out.cell (p:=⟨b,off+i * Q0g.k+j,none⟩) m).trans (Z.out i hi j R)⟩)).mono ?_;rintro e w3 ⟨rfl,n⟩;have y:=Q01 (B.out.trans (n.mono B.out.size));clear n))
        go_roundw
        case rel=> exact ⟨k+1,hlt,by go_num,HT,y⟩
        case measure=> simp [intOf];omega
       ·have v:=Q01 (Q2T hlt (QeY (by rw [u.out]) (by rw [u.out];exact hE)))
        generalize hEE:Q0Z l J H=E at *;obtain ⟨E1,E2⟩:=E
        have V:E2=true→¬E1=(k:Int):=fun O h2=> hE (by rw [O,h2])
        clear A hE hEE
        cases E2 with
        |false=>
         go_wp2_with (first|(go_at_call 44;refine q.mono ?_;rintro e w2 ⟨rfl,a⟩;have f:=Q01 (g.out.trans (a.mono g.out.size));have B:=Q01 (M.out.trans (a.mono M.out.size));have m0:=(a.cell (p:=⟨wr.heap.size,0,none⟩) d).trans T;have m1:=(a.cell (p:=⟨wr.heap.size,1,none⟩) d).trans c1;have m4:=(a.cell (p:=⟨wr.heap.size,2,none⟩) d).trans c2;have Y:=(a.cell (p:=⟨wr.heap.size,3,none⟩) d).trans X;have m3:=(a.cell (p:=⟨wr.heap.size,4,none⟩) d).trans P;have m5:=(a.cell (p:=⟨w.heap.size,0,none⟩) F).trans c5;have U:=a.size;clear a)|(go_at_call 96;refine (z _ (.inr ⟨b,off,rfl,by omega,fun i hi j R=> (f.out.cell (p:=⟨b,off+i * Q0g.k+j,none⟩) m).trans (Z.out i hi j R)⟩)).mono ?_;rintro e w3 ⟨rfl,n⟩;have y:=Q01 (f.out.trans (n.mono f.out.size));clear n))
         go_ret;exact ⟨Q0d v.out,y.out⟩
        |true=>
         have aa:=V rfl;have af:(E1==(k:Int))=false:=beq_eq_false_iff_ne.2 aa;clear V
         go_wp2_with (first|(go_at_call 44;refine q.mono ?_;rintro e w2 ⟨rfl,a⟩;have f:=Q01 (g.out.trans (a.mono g.out.size));have B:=Q01 (M.out.trans (a.mono M.out.size));have m0:=(a.cell (p:=⟨wr.heap.size,0,none⟩) d).trans T;have m1:=(a.cell (p:=⟨wr.heap.size,1,none⟩) d).trans c1;have m4:=(a.cell (p:=⟨wr.heap.size,2,none⟩) d).trans c2;have Y:=(a.cell (p:=⟨wr.heap.size,3,none⟩) d).trans X;have m3:=(a.cell (p:=⟨wr.heap.size,4,none⟩) d).trans P;have m5:=(a.cell (p:=⟨w.heap.size,0,none⟩) F).trans c5;have U:=a.size;clear a)|(go_at_call 96;refine (z _ (.inr ⟨b,off,rfl,by omega,fun i hi j R=> (f.out.cell (p:=⟨b,off+i * Q0g.k+j,none⟩) m).trans (Z.out i hi j R)⟩)).mono ?_;rintro e w3 ⟨rfl,n⟩;have y:=Q01 (f.out.trans (n.mono f.out.size));clear n))
         go_ret;exact ⟨Q0d v.out,y.out⟩
      ·have v:=Q01 (Q2T hlt (Q4I (by rw [u.out];simp [Q2g,hfo];intro O h2 h3;exact Int.not_le.1 fun h4=> hv ⟨O,h2,h3,h4⟩)))
       have HV:=Q01 hv;clear A hfo hv;go_wp2_with (go_at_call 44;refine q.mono ?_;rintro e w2 ⟨rfl,a⟩;have f:=Q01 (g.out.trans (a.mono g.out.size));have m0:=(a.cell (p:=⟨wr.heap.size,0,none⟩) d).trans T;have m1:=(a.cell (p:=⟨wr.heap.size,1,none⟩) d).trans c1;have m4:=(a.cell (p:=⟨wr.heap.size,2,none⟩) d).trans c2;have Y:=(a.cell (p:=⟨wr.heap.size,3,none⟩) d).trans X;have m3:=(a.cell (p:=⟨wr.heap.size,4,none⟩) d).trans P;clear a)
       all_goals first|(go_ret;exact ⟨Q0d v.out,f.out⟩)|(exfalso;apply HV.out;omega)|skip
   ·have e:k=l.length:=by omega
    subst e;have HY:=Q01 (Qak hn ad A.out);go_wp2;go_ret;exact ⟨Q0d HY.out,h.out⟩
 ·have v:=Q01 (Q6D hlen)
  by_cases O:(l.length:Int) < 1
  ·go_enter Tryz.func41,Tryz.ntmps41
   go_wp2;go_ret;exact ⟨Q0d v.out,by (repeat (first|with_reducible (first|exact D|exact Below.refl _ _|refine Below.drew ?_|refine below_drewN ?_ _|refine Below.alloc ?_ ?_ _|refine Below.setCell ?_ ?_ _)|(focus (simp;first|done|omega))|omega))⟩
  ·have h2:(16:Int) < l.length:=by omega
   go_enter Tryz.func41,Tryz.ntmps41;go_wp2;go_ret;exact ⟨Q0d v.out,by (repeat (first|with_reducible (first|exact D|exact Below.refl _ _|refine Below.drew ?_|refine below_drewN ?_ _|refine Below.alloc ?_ ?_ _|refine Below.setCell ?_ ?_ _)|(focus (simp;first|done|omega))|omega))⟩
def QbM (l:List Sl) (k:Nat):Nat:=((l.take k).filter (fun s=> s.u)).length
theorem Q8u (l:List Sl) (k:Nat):QbM l k≤k:=Kdq (List.length_filter_le _ _) (by simp;omega)
end Go.Proofs.YtpneolgdghbinaaGreat
