/- Several texts in one: LSlot, ShT, TableMath, Backs, SBacks, STabS. -/
import Derived.Deep.RegionHeld3
import Derived.Test.YtpneolgdghbinaaGreatQSends03
namespace Go.Proofs.YtpneolgdghbinaaGreat
open Go.ChangeShapes Go.WideShapes Go.ChangeAt Go.RowKit Go.Joins
set_option linter.unusedVariables false
set_option linter.unusedSimpArgs false
set_option maxRecDepth 100000
set_option maxHeartbeats 40000000
structure Sl where
 u:Bool
 a:Int
 p:Int
 v:Int
 t:Int
abbrev sl0:Sl:=⟨false,0,0,0,0⟩
def Q0h:Lay Sl:=⟨5,fun s=> [.bool s.u,.int .i64 s.a,.int .i64 s.p,.int .i64 s.v,.int .i64 s.t],sl0,fun _=> rfl⟩
abbrev slot (s:Sl):Value:=.agg #[.bool s.u,.int .i64 s.a,.int .i64 s.p,.int .i64 s.v,.int .i64 s.t]
abbrev RdS:=RdL Q0h
abbrev Qfn:=ownL Q0h 101
abbrev InS:=InL Q0h 101
theorem RdL.slot {C:Nat} {w:World} {b off:Nat} {l:List Sl} (h:∀i,i < l.length→∀j,j < Q0h.k→w.cell? ⟨b,off+i * Q0h.k+j,none⟩=(Q0h.cs (l.getD i Q0h.d))[j]?) (i:Nat) (hi:i < l.length):
  w.cell? ⟨b,off+i * 5,none⟩=some (.bool (l.getD i sl0).u)∧w.cell? ⟨b,off+i * 5+1,none⟩=some (.int .i64 (l.getD i sl0).a)∧w.cell? ⟨b,off+i * 5+2,none⟩=some (.int .i64 (l.getD i sl0).p)∧w.cell? ⟨b,off+i * 5+3,none⟩=some (.int .i64 (l.getD i sl0).v)∧w.cell? ⟨b,off+i * 5+4,none⟩=some (.int .i64 (l.getD i sl0).t):=
 ⟨h i hi 0 (by decide),h i hi 1 (by decide),h i hi 2 (by decide),h i hi 3 (by decide),h i hi 4 (by decide)⟩
theorem Q8X {α:Type} (L:Lay α) (hk:L.k=5) {v0 v1 v2 v3 v4:Value} {a:α} (ha:L.cs a=[v0,v1,v2,v3,v4]):∀(l:List α) (i:Nat),(((((l.flatMap L.cs).set (i * 5) v0).set (i * 5+1) v1).set (i * 5+2) v2).set (i * 5+3) v3).set (i * 5+4) v4=(l.set i a).flatMap L.cs
 |[],i=> by simp
 |q::l,0=> by
  have hq:=(L.len q).trans hk
  match hc:L.cs q,hq with
  |[q0,q1,q2,q3,q4],_=> simp [ha,hc]
 |q::l,i+1=> by
  have hq:=(L.len q).trans hk
  match hc:L.cs q,hq with
  |[q0,q1,q2,q3,q4],_=>
   rw [show (i+1) * 5=i * 5+1+1+1+1+1 by omega]
   simp only [List.flatMap_cons,hc,List.cons_append,List.nil_append,List.set_cons_succ]
   rw [Q8X L hk ha l i]
theorem Q6l:(Tryz.prog.info? 101).map (fun i=> (i.zero,i.size,i.bytes))=some (some (.agg #[.bool false,.int .i64 0,.int .i64 0,.int .i64 0,.int .i64 0]),5,40):=by kernel_rfl
theorem Q5x {e:TypeId} {w wr:World} {base B g c n:Nat} {l:List Sl} {k:Nat} (s:Sl) (hg:B≤g) (hown:wr.ownsRow base e 5 (.slice (some ⟨g,0,none⟩) n c) n (l.flatMap Q0h.cs)) (hB:Below B w wr):
  (((((wr.setCell ⟨g,k * 5,none⟩ (.bool s.u)).setCell ⟨g,k * 5+1,none⟩ (.int .i64 s.a)).setCell ⟨g,k * 5+2,none⟩ (.int .i64 s.p)).setCell ⟨g,k * 5+3,none⟩ (.int .i64 s.v)).setCell ⟨g,k * 5+4,none⟩ (.int .i64 s.t)).ownsRow base e 5 (.slice (some ⟨g,0,none⟩) n c) n ((l.set k s).flatMap Q0h.cs)∧
   Below B w (((((wr.setCell ⟨g,k * 5,none⟩ (.bool s.u)).setCell ⟨g,k * 5+1,none⟩ (.int .i64 s.a)).setCell ⟨g,k * 5+2,none⟩ (.int .i64 s.p)).setCell ⟨g,k * 5+3,none⟩ (.int .i64 s.v)).setCell ⟨g,k * 5+4,none⟩ (.int .i64 s.t)):=by
 have h:=(((((hown.stored (k * 5) (.bool s.u)).1.stored (k * 5+1) (.int .i64 s.a)).1.stored (k * 5+2) (.int .i64 s.p)).1.stored (k * 5+3) (.int .i64 s.v)).1.stored (k * 5+4) (.int .i64 s.t)).1
 rw [Q8X Q0h rfl (a:=s) rfl] at h
 exact ⟨h,((((hB.setCell (p:=⟨g,k * 5,none⟩) hg _).setCell (p:=⟨g,k * 5+1,none⟩) hg _).setCell (p:=⟨g,k * 5+2,none⟩) hg _).setCell (p:=⟨g,k * 5+3,none⟩) hg _).setCell (p:=⟨g,k * 5+4,none⟩) hg _⟩
abbrev tab (v:Value):Value:=.agg #[v]
theorem Q0j {W:World} {B:Nat} {c:Array Value} {t:TypeId} (h:W.heap[B]? =some (.cells c t (0,0))) (j:Nat) (u:Value) (hj:c[j]? =some u):W.cell? ⟨B,j,none⟩=some u:=by
 simp [World.cell?,h,hj]
def RdT (C:Nat) (w:World) (v:Value) (l:List Sl):Prop:=∃vl,v=tab vl∧RdV Q0h C w vl l
def InTb (lo hi:Nat) (w:World) (v:Value) (l:List Sl):Prop:=∃vl,v=tab vl∧InS lo hi w vl l
theorem RdT.le {C D:Nat} {w:World} {v:Value} {m:List Sl} (h:RdT C w v m) (hc:C≤D):RdT D w v m:=by
 obtain ⟨vl,e,h1⟩:=h
 exact ⟨vl,e,h1.le hc⟩
theorem InTb.rd {lo hi:Nat} {w:World} {v:Value} {m:List Sl} (h:InTb lo hi w v m):RdT hi w v m:=by
 obtain ⟨vl,e,h1⟩:=h
 exact ⟨vl,e,InL.rd (L:=Q0h) h1⟩
theorem InTb.step {a b lo hi:Nat} {w w':World} {v:Value} {m:List Sl} (h:InTb a b w v m) (s:Stp lo hi w w') (hd:hi≤a∨b≤lo):InTb a b w' v m:=by
 obtain ⟨vl,e,h1⟩:=h
 exact ⟨vl,e,InRow.step h1 s hd⟩
theorem InTb.row {lo hi:Nat} {w:World} {v:Value} {l:List Sl} (h:InTb lo hi w (tab v) l):InS lo hi w v l:=by
 obtain ⟨vl,e,h1⟩:=h
 injection e with e
 simp at e
 subst e
 exact h1
def Q11 (n:Nat) (a p:Int):Nat:=((a * 31+p) % (n:Int)).toNat
theorem Q1E {n:Nat} (hn:0 < n) (a p:Int):Q11 n a p < n:=by
 unfold Q11
 have h1:=Int.emod_nonneg (a * 31+p) (show (n:Int)≠0 by omega)
 have h2:=Int.emod_lt_of_pos (a * 31+p) (show (0:Int) < n by omega)
 omega
theorem QbH {n:Nat} (hn:0 < n) (a p:Int):((Q11 n a p:Nat):Int)=(a * 31+p) % (n:Int):=by
 unfold Q11
 have h1:=Int.emod_nonneg (a * 31+p) (show (n:Int)≠0 by omega)
 omega
theorem Q7R {n:Nat} (hn:0 < n) {a p:Int} (h:Q0f a p=true):(a * 31+p).tmod (n:Int)=((Q11 n a p:Nat):Int):=by
 rw [QbH hn,Int.tmod_eq_emod_of_nonneg]
 have:=Q0Y.1 h
 omega
theorem QaK {n:Nat} (hn:0 < n) {a p:Int} (h:Q0f a p=true):(31 * a+p).tmod (n:Int)=((Q11 n a p:Nat):Int):=by
 rw [Int.mul_comm];exact Q7R hn h
theorem Q5f (n i:Nat):((i:Int)+1).tmod (n:Int)=(((i+1) % n:Nat):Int):=by
 rw [Int.tmod_eq_emod_of_nonneg (by omega)];simp
def Q1A (n i k:Nat):Nat:=(k+n - i) % n
theorem Qbf {n i k:Nat} (hi:i < n) (hk:k < n):((k:Int) - (i:Int)+(n:Int)).tmod (n:Int)=((Q1A n i k:Nat):Int):=by
 rw [Int.tmod_eq_emod_of_nonneg (by omega),show (k:Int) - i+n=((k+n - i:Nat):Int) by omega];simp [Q1A]
theorem Q31 {n:Nat} (hn:0 < n) (i:Nat):(i+1) % n < n:=Nat.mod_lt _ hn
def Q4x (l:List Sl) (a p:Int):Nat→Nat→Int × Bool
 |0,_=> (-1,false)
 |f+1,i=> if (l.getD i sl0).u=true then (if (l.getD i sl0).a=a∧(l.getD i sl0).p=p then ((i:Int),true) else Q4x l a p f ((i+1) % l.length)) else ((i:Int),false)
def Q1o (l:List Sl) (a p:Int):Int × Bool:=Q4x l a p l.length (Q11 l.length a p)
theorem Q4c {l:List Sl} {a p:Int} {f i:Nat} (h:(l.getD i sl0).u=false):Q4x l a p (f+1) i=((i:Int),false):=by simp only [Q4x,h];simp
theorem Q7a {l:List Sl} {a p:Int} {f i:Nat} (h:(l.getD i sl0).u=true) (h1:(l.getD i sl0).a=a) (h2:(l.getD i sl0).p=p):Q4x l a p (f+1) i=((i:Int),true):=by simp only [Q4x,h,h1,h2];simp
theorem Q5K {l:List Sl} {a p:Int} {f i:Nat} (h:(l.getD i sl0).u=true) (h1:¬((l.getD i sl0).a=a∧(l.getD i sl0).p=p)):Q4x l a p (f+1) i=Q4x l a p f ((i+1) % l.length):=by simp only [Q4x,h,h1];simp
theorem Q6K (l:List Sl) (hn:0 < l.length) (a p:Int):∀(f i:Nat),i < l.length→Q4x l a p f i=(-1,false)∨∃k,k < l.length∧((Q4x l a p f i=((k:Int),false)∧(l.getD k sl0).u=false)∨(Q4x l a p f i=((k:Int),true)∧(l.getD k sl0).u=true∧(l.getD k sl0).a=a∧(l.getD k sl0).p=p))
 |0,i,_=> .inl rfl
 |f+1,i,hi=> by
  cases hu:(l.getD i sl0).u with
  |false=> exact .inr ⟨i,hi,.inl ⟨Q4c hu,hu⟩⟩
  |true=>
   by_cases h:(l.getD i sl0).a=a∧(l.getD i sl0).p=p
   ·exact .inr ⟨i,hi,.inr ⟨Q7a hu h.1 h.2,hu,h.1,h.2⟩⟩
   ·rw [Q5K hu h]
    exact Q6K l hn a p f _ (Q31 hn i)
theorem Q23 (l:List Sl) (hn:0 < l.length) (a p:Int):Q1o l a p=(-1,false)∨∃k,k < l.length∧((Q1o l a p=((k:Int),false)∧(l.getD k sl0).u=false)∨(Q1o l a p=((k:Int),true)∧(l.getD k sl0).u=true∧(l.getD k sl0).a=a∧(l.getD k sl0).p=p)):=
 Q6K l hn a p _ _ (Q1E hn a p)
def Q34 (s:Sl):Bool:=if s.u=true then Q0f s.a s.p && decide (0≤s.v) && decide (s.v≤100000) && decide (0≤s.t) && decide (s.t≤200000) else decide (s.a=0) && decide (s.p=0) && decide (s.v=0) && decide (s.t=0)
theorem Q5L {s:Sl} (h:s.u=true):Q34 s=true↔Q0f s.a s.p=true∧0≤s.v∧s.v≤100000∧0≤s.t∧s.t≤200000:=by simp [Q34,h,and_assoc]
def Q92 (l:List Sl) (i:Nat):Bool:= !(l.getD i sl0).u||(Q1o l (l.getD i sl0).a (l.getD i sl0).p==((i:Int),true))
def Q5m (l:List Sl) (i:Nat):Bool:=Q34 (l.getD i sl0) && Q92 l i
def Q0l (l:List Sl):Bool:=decide (1≤l.length) && decide (l.length≤16) && (List.range l.length).all (Q5m l)
theorem Q0i {l:List Sl}:Q0l l=true↔1≤l.length∧l.length≤16∧∀i,i < l.length→Q5m l i=true:=by simp [Q0l,and_assoc]
theorem Q9Z {l:List Sl} {i:Nat} (hi:i < l.length) (h:Q5m l i=false):false=Q0l l:=by
 cases hb:Q0l l with
 |false=> rfl
 |true=> rw [(Q0i.1 hb).2.2 i hi] at h;cases h
theorem Q8U {l:List Sl} (h:¬(1≤l.length∧l.length≤16)):false=Q0l l:=by
 cases hb:Q0l l with
 |false=> rfl
 |true=> exact absurd ⟨(Q0i.1 hb).1,(Q0i.1 hb).2.1⟩ h
theorem Qcg {l:List Sl} {i:Nat} (h:Q34 (l.getD i sl0)=false):Q5m l i=false:=by unfold Q5m;rw [h];rfl
theorem Q5E {l:List Sl} {i:Nat} (hu:(l.getD i sl0).u=false) (h:Q34 (l.getD i sl0)=true):Q5m l i=true:=by unfold Q5m Q92;rw [hu,h];rfl
theorem Q5z {l:List Sl} {i:Nat} (h:Q34 (l.getD i sl0)=true) (h':Q1o l (l.getD i sl0).a (l.getD i sl0).p=((i:Int),true)):Q5m l i=true:=by unfold Q5m Q92;rw [h,h'];cases (l.getD i sl0).u <;> simp
def Q78 (l:List Sl) (k:Nat):Prop:=∀i,i < k→Q34 (l.getD i sl0)=true
theorem Qa3 {l:List Sl} {k:Nat} (h:Q78 l k) (hk:Q34 (l.getD k sl0)=true):Q78 l (k+1):=fun i hi=> by
 rcases Nat.lt_succ_iff_lt_or_eq.1 hi with h1|h1
 ·exact h i h1
 ·rw [h1];exact hk
def Q6j (l:List Sl) (a p v t:Int):List Sl:=if 0≤(Q1o l a p).1 then l.set (Q1o l a p).1.toNat ⟨true,a,p,v,t⟩ else l
theorem Qah (l:List Sl) (a p v t:Int):(Q6j l a p v t).length=l.length:=by unfold Q6j;split <;> simp
def Q8m (l:List Sl) (a p:Int):Sl:=if (Q1o l a p).2=true then l.getD (Q1o l a p).1.toNat sl0 else sl0
def Q8W:Nat→(Nat→Nat)→Nat
 |0,_=> 0
 |n+1,f=> Q8W n f+f n
theorem Q7E:∀(n:Nat) {f g:Nat→Nat},(∀x,x < n→f x=g x)→Q8W n f=Q8W n g
 |0,_,_,_=> rfl
 |n+1,f,g,h=> by simp only [Q8W];rw [Q7E n (fun x hx=> h x (by omega)),h n (by omega)]
theorem Q6z:∀(n:Nat) {f g:Nat→Nat} {j:Nat},j < n→(∀x,x≠j→f x=g x)→Q8W n f+g j=Q8W n g+f j
 |0,_,_,_,h,_=> absurd h (Nat.not_lt_zero _)
 |n+1,f,g,j,h,he=> by
  simp only [Q8W]
  by_cases e:j=n
  ·subst e
   rw [Q7E j (fun x hx=> he x (by omega))];omega
  ·have:=Q6z n (show j < n by omega) he
   rw [he n (fun e'=> e e'.symm)];omega
def wt (n:Nat) (l:List Sl) (j:Nat):Nat:=if (l.getD j sl0).u=true then Q1A n (Q11 n (l.getD j sl0).a (l.getD j sl0).p) j else 0
def phi (l:List Sl):Nat:=Q8W l.length (wt l.length l)
def QeB (l:List Sl) (i k:Nat):Nat:=phi l * 17+Q1A l.length k i
def Q69 (n:Nat) (l:List Sl) (i k:Nat):Bool:=decide (Q1A n i k≤Q1A n (Q11 n (l.getD k sl0).a (l.getD k sl0).p) k)
def Q2j (n:Nat):Nat→List Sl→Nat→Nat→List Sl
 |0,l,_,_=> l
 |f+1,l,i,k=> if (l.getD k sl0).u=true then (if Q69 n l i k=true then Q2j n f ((l.set i (l.getD k sl0)).set k sl0) k ((k+1) % n) else Q2j n f l i ((k+1) % n)) else l
def Q4I (l:List Sl) (i:Nat):List Sl:=Q2j l.length (QeB (l.set i sl0) i ((i+1) % l.length)+1) (l.set i sl0) i ((i+1) % l.length)
theorem QbY {n f i k:Nat} {l:List Sl} (h:(l.getD k sl0).u=false):Q2j n (f+1) l i k=l:=by simp only [Q2j,h];simp
theorem QaF {n f i k:Nat} {l:List Sl} (h:(l.getD k sl0).u=true) (hm:Q69 n l i k=true):Q2j n (f+1) l i k=Q2j n f ((l.set i (l.getD k sl0)).set k sl0) k ((k+1) % n):=by simp only [Q2j,h,hm];simp
theorem Qa2 {n f i k:Nat} {l:List Sl} (h:(l.getD k sl0).u=true) (hm:Q69 n l i k=false):Q2j n (f+1) l i k=Q2j n f l i ((k+1) % n):=by simp only [Q2j,h,hm];simp
theorem Q19 (l:List Sl) (i:Nat) (s:Sl) (h:i < l.length):(l.set i s).getD i sl0=s:=by simp [h]
theorem Q25 (l:List Sl) (i j:Nat) (s:Sl) (h:i≠j):(l.set i s).getD j sl0=l.getD j sl0:=by
 simp [List.getElem?_set,h]
theorem Q2y {a n:Nat} (h:a < n):a % n=a:=Nat.mod_eq_of_lt h
theorem Q8n {a n:Nat} (h1:n≤a) (h2:a < n+n):a % n=a - n:=by rw [Nat.mod_eq_sub_mod h1,Nat.mod_eq_of_lt (by omega)]
theorem Q0W {n i k:Nat} (hi:i < n) (hk:k < n):Q1A n i k=if i≤k then k - i else k+n - i:=by
 unfold Q1A
 by_cases h:i≤k
 ·rw [if_pos h,Q8n (by omega) (by omega)];omega
 ·rw [if_neg h,Q2y (by omega)]
theorem Qgj {n k:Nat} (hk:k < n):(k+1) % n=if k+1=n then 0 else k+1:=by
 by_cases h:k+1=n
 ·rw [if_pos h,h,Nat.mod_self]
 ·rw [if_neg h,Q2y (by omega)]
theorem Qez {l:List Sl} {i k:Nat} (hi:i < l.length) (hk:k < l.length) (hne:k≠i):QeB l i ((k+1) % l.length) < QeB l i k:=by
 unfold QeB
 have h1:=Q31 (n:=l.length) (by omega) k
 rw [Q0W h1 hi,Q0W hk hi,Qgj hk]
 split <;> (repeat' split) <;> omega
theorem Qeh {l:List Sl} {i k:Nat} (hl:l.length≤16) (hi:i < l.length) (hk:k < l.length) (hfree:(l.getD i sl0).u=false) (hu:(l.getD k sl0).u=true) (hm:Q69 l.length l i k=true):
  QeB ((l.set i (l.getD k sl0)).set k sl0) k ((k+1) % l.length) < QeB l i k:=by
 have hne:i≠k:=fun e=> by rw [e,hu] at hfree;cases hfree
 unfold QeB phi
 rw [show ((l.set i (l.getD k sl0)).set k sl0).length=l.length by simp]
 have e1:=Q6z l.length (f:=wt l.length ((l.set i (l.getD k sl0)).set k sl0)) (g:=wt l.length (l.set i (l.getD k sl0))) hk (fun x hx=> by unfold wt;rw [Q25 _ k x _ (fun e=> hx e.symm)])
 have e2:=Q6z l.length (f:=wt l.length (l.set i (l.getD k sl0))) (g:=wt l.length l) hi (fun x hx=> by unfold wt;rw [Q25 _ i x _ (fun e=> hx e.symm)])
 have w1:wt l.length ((l.set i (l.getD k sl0)).set k sl0) k=0:=by unfold wt;rw [Q19 _ _ _ (by simpa using hk)];rfl
 have w2:wt l.length (l.set i (l.getD k sl0)) k=Q1A l.length (Q11 l.length (l.getD k sl0).a (l.getD k sl0).p) k:=by unfold wt;rw [Q25 _ i k _ hne,hu];rfl
 have w3:wt l.length (l.set i (l.getD k sl0)) i=Q1A l.length (Q11 l.length (l.getD k sl0).a (l.getD k sl0).p) i:=by unfold wt;rw [Q19 _ _ _ hi,hu];rfl
 have w4:wt l.length l i=0:=by unfold wt;rw [hfree];rfl
 rw [w1,w2] at e1
 rw [w3,w4] at e2
 have hh:=Q1E (show 0 < l.length by omega) (l.getD k sl0).a (l.getD k sl0).p
 have hmv:Q1A l.length i k≤Q1A l.length (Q11 l.length (l.getD k sl0).a (l.getD k sl0).p) k:=by simpa [Q69] using hm
 generalize Q11 l.length (l.getD k sl0).a (l.getD k sl0).p=h at *
 have h1:=Q31 (n:=l.length) (by omega) k
 have hd:Q1A l.length h i+1≤Q1A l.length h k:=by
  rw [Q0W hi hk,Q0W hh hk] at hmv
  rw [Q0W hh hi,Q0W hh hk]
  (repeat' split at hmv) <;> (repeat' split) <;> omega
 have hf:Q1A l.length ((k+1) % l.length) k < 16:=by
  have:Q1A l.length ((k+1) % l.length) k < l.length:=Nat.mod_lt _ (by omega)
  omega
 omega
abbrev Bk:=Int × Int × Bool
def Q12:Lay Bk:=⟨3,fun a=> [.int .i64 a.1,.int .i64 a.2.1,.bool a.2.2],(0,0,false),fun _=> rfl⟩
abbrev back (i g:Int) (d:Bool):Value:=.agg #[.int .i64 i,.int .i64 g,.bool d]
abbrev RdK:=RdL Q12
abbrev Q1i:=ownL Q12 119
theorem RdL.back {C:Nat} {w:World} {b off:Nat} {l:List Bk} (h:∀i,i < l.length→∀j,j < Q12.k→w.cell? ⟨b,off+i * Q12.k+j,none⟩=(Q12.cs (l.getD i Q12.d))[j]?) (i:Nat) (hi:i < l.length):
  w.cell? ⟨b,off+i * 3,none⟩=some (.int .i64 (l.getD i (0,0,false)).1)∧w.cell? ⟨b,off+i * 3+1,none⟩=some (.int .i64 (l.getD i (0,0,false)).2.1)∧w.cell? ⟨b,off+i * 3+2,none⟩=some (.bool (l.getD i (0,0,false)).2.2):=
 ⟨h i hi 0 (by decide),h i hi 1 (by decide),h i hi 2 (by decide)⟩
theorem QaT:(Tryz.prog.info? 119).map (fun i=> (i.zero,i.size,i.bytes))=some (some (.agg #[.int .i64 0,.int .i64 0,.bool false]),3,24):=by kernel_rfl
def Q3x (i g:Int):Bool:=decide (0≤i) && decide (i < 6) && decide (1≤g) && decide (g≤100)
theorem Q5l {i g:Int}:Q3x i g=true↔0≤i∧i < 6∧1≤g∧g≤100:=by simp [Q3x,and_assoc]
def QbA (l:List Bk) (i:Nat):Bool:=Q3x (l.getD i (0,0,false)).1 (l.getD i (0,0,false)).2.1 && (decide (i=0)||decide ((l.getD (i - 1) (0,0,false)).1 < (l.getD i (0,0,false)).1))
def Qho (l:List Bk) (k:Nat):Prop:=∀i,i < k→QbA l i=true
def Q0a (l:List Bk):Bool:=(List.range l.length).all (QbA l)
theorem Q1k {l:List Bk}:Q0a l=true↔Qho l l.length:=by simp [Q0a,Qho]
theorem Q9y {l:List Bk} {k:Nat} (h:Qho l k) (hk:QbA l k=true):Qho l (k+1):=fun i hi=> by
 rcases Nat.lt_succ_iff_lt_or_eq.1 hi with h1|h1
 ·exact h i h1
 ·rw [h1];exact hk
theorem Q4A {l:List Bk} {k:Nat} (hk:k < l.length) (h:QbA l k=false):false=Q0a l:=by
 cases hb:Q0a l with
 |false=> rfl
 |true=> rw [Q1k.1 hb k hk] at h;cases h
theorem Qd3 {l:List Bk} {x y:Int} {z:Bool} (h:l.getD 0 (0,0,false)=(x,y,z)):QbA l 0=Q3x x y:=by simp only [QbA,h];simp
theorem QcM {l:List Bk} {k:Nat} {x y x' y':Int} {z z':Bool} (h:l.getD (k+1) (0,0,false)=(x,y,z)) (h':l.getD k (0,0,false)=(x',y',z')):QbA l (k+1)=(Q3x x y && decide (x' < x)):=by simp only [QbA,h,h',Nat.add_sub_cancel];simp
abbrev Q9T (a p:Int):Value:=.agg #[.int .i64 a,.int .i64 p]
theorem Q7M (n:Nat) (a p:Int) (w:World) (hn:0 < n) (hl:n≤1048576) (hf:Q0f a p=true):
  Calls Tryz.prog 147 #[.int .i64 n,Q9T a p] w fun e w'=> e=.returned (.int .i64 (Q11 n a p))∧Below w.heap.size w w':=by
 have hB:Below w.heap.size w w:=Below.refl _ _;have hh:=Q7R hn hf;have hlt:=Q1E hn a p;have h0:=Q0Y.1 hf
 have hne:¬((n:Int)=0):=by omega
 have hne':((n:Int)==0)=false:=by simpa using hne
 obtain ⟨h1,h2,h3,h4⟩:=h0
 go_enter Tryz.func147,Tryz.ntmps147
 go_wp2
 go_ret
 exact ⟨rfl,by (repeat (first|with_reducible (first|exact hB|exact Below.refl _ _|refine Below.drew ?_|refine below_drewN ?_ _|refine Below.alloc ?_ ?_ _|refine Below.setCell ?_ ?_ _)|(focus (simp;first|done|omega))|omega))⟩
theorem Qb5 (o:Option Addr) (c:Nat) (l:List Sl) (a p:Int) (w:World) (hR:RdS w.heap.size w o l) (hn:0 < l.length) (hl:l.length≤1048576) (hf:Q0f a p=true):
  Calls Tryz.prog 96 #[tab (.slice o l.length c),Q9T a p] w fun e w'=> e=.returned (.tuple #[.int .i64 (Q1o l a p).1,.bool (Q1o l a p).2])∧Below w.heap.size w w':=by
 rcases hR with hR|⟨b,off,rfl,hbl,hcell⟩
 ·subst hR;simp at hn
 have hB:Below w.heap.size w w:=Below.refl _ _;have HC:=Q02 hcell;clear hcell
 go_enter Tryz.func96,Tryz.ntmps96
 go_wp2_with fail;go_at_call 147;refine (Q7M l.length a p _ hn hl hf).mono ?_;rintro e w1a ⟨rfl,hba⟩;obtain ⟨hca,hfa⟩:=Q1z hba;have hz0a:w.heap.size < w1a.heap.size:=(by have hz:=hba.size;(try simp at hz);omega);have hz1a:w.heap.size+1 < w1a.heap.size:=(by have hz:=hba.size;(try simp at hz);omega);have hB:Below w.heap.size w w1a:=(by refine Below.trans ?_ (hba.mono (by have hs:=hB.size;(try simp) <;> omega));(repeat (first|with_reducible (first|exact hB|exact Below.refl _ _|refine Below.drew ?_|refine below_drewN ?_ _|refine Below.alloc ?_ ?_ _|refine Below.setCell ?_ ?_ _)|(focus (simp;first|done|omega))|omega)))
 have hc0:w1a.cell? ⟨w.heap.size,0,none⟩=some (.slice (some ⟨b,off,none⟩) l.length c):=by rw [hca _ _ (by (try simp) <;> omega)];simp [go_sem]
 have hc1:w1a.cell? ⟨w.heap.size+1,0,none⟩=some (.int .i64 a):=by rw [hca _ _ (by (try simp) <;> omega)];simp [go_sem]
 have hc2:w1a.cell? ⟨w.heap.size+1,1,none⟩=some (.int .i64 p):=by rw [hca _ _ (by (try simp) <;> omega)];simp [go_sem]
 have HB:=Q02 hB;clear hB hca hfa hba;have hh:=Q1E hn a p;have HE:=Q02 (show Q4x l a p l.length (Q11 l.length a p)=Q1o l a p from rfl);generalize Q11 l.length a p=h at *
 go_wp2
 go_loopw [7,8] (fun i k wr=> ∃(i' k':Nat),k'≤l.length∧i' < l.length∧i=.int .i64 i'∧k=.int .i64 k'∧Hid (Q4x l a p (l.length - k') i'=Q1o l a p)∧Hid (Below w1a.heap.size w1a wr))
  (fun _ k _=> l.length - (intOf k).toNat)
 case atStart=> exact ⟨h,0,Kcq _,hh,rfl,rfl,HE,Below.refl _ _⟩
 case round=>
  obtain ⟨i,k,hk,hi,rfl,rfl,hE,HBr⟩:=hrel;have d0:wr.cell? ⟨w.heap.size,0,none⟩=some (.slice (some ⟨b,off,none⟩) l.length c):=(HBr.out.cell (p:=⟨w.heap.size,0,none⟩) hz0a).trans hc0;have d1:wr.cell? ⟨w.heap.size+1,0,none⟩=some (.int .i64 a):=(HBr.out.cell (p:=⟨w.heap.size+1,0,none⟩) hz1a).trans hc1;have d2:wr.cell? ⟨w.heap.size+1,1,none⟩=some (.int .i64 p):=(HBr.out.cell (p:=⟨w.heap.size+1,1,none⟩) hz1a).trans hc2;have HB2:=Q02 (HB.out.trans (HBr.out.mono HB.out.size))
  by_cases hlt:k < l.length
  ·obtain ⟨s,hxy⟩:∃s,l.getD i sl0=s:=⟨_,rfl⟩
   have hcx:=RdL.slot (C:=w.heap.size) HC.out i hi
   rw [hxy] at hcx
   have e0:wr.cell? ⟨b,off+i * 5,none⟩=some (.bool s.u):=(HB2.out.cell (p:=⟨b,off+i * 5,none⟩) hbl).trans hcx.1;have e1:wr.cell? ⟨b,off+i * 5+1,none⟩=some (.int .i64 s.a):=(HB2.out.cell (p:=⟨b,off+i * 5+1,none⟩) hbl).trans hcx.2.1;have e2:wr.cell? ⟨b,off+i * 5+2,none⟩=some (.int .i64 s.p):=(HB2.out.cell (p:=⟨b,off+i * 5+2,none⟩) hbl).trans hcx.2.2.1
   have hi':(i:Int) < (l.length:Int):=by omega
   have hk':(k:Int) < (l.length:Int):=by omega
   have hne':((l.length:Int)==0)=false:=beq_eq_false_iff_ne.2 (by omega)
   have hm:=Q5f l.length i
   have ek:l.length - k=(l.length - (k+1))+1:=by omega
   rw [ek] at hE
   obtain ⟨su,sa,sp,sv,st⟩:=s
   simp only at e0 e1 e2
   clear hcx hc0 hc1 hc2 HC
   cases su with
   |false=>
    have HF:=Q02 (hE.out.symm.trans (Q4c (by rw [hxy])))
    clear hE hxy ek
    go_wp2
    go_ret2
    exact ⟨by rw [HF.out];rfl,HB2.out⟩
   |true=>
    by_cases hq:sa=a∧sp=p
    ·have HF:=Q02 (hE.out.symm.trans (Q7a (by rw [hxy]) (by rw [hxy];exact hq.1) (by rw [hxy];exact hq.2)))
     obtain ⟨rfl,rfl⟩:=hq;clear hE hxy ek
     go_wp2
     go_region
     go_wp2
     go_ret2
     exact ⟨by rw [HF.out];rfl,Below.drew HB2.out⟩
    ·have HF:=Q02 (hE.out.symm.trans (Q5K (by rw [hxy]) (by rw [hxy];exact hq))).symm
     clear hE hxy ek
     have hx:(k+1≤l.length):=by omega
     by_cases hq1:sa=a
     ·subst hq1
      have hq2:¬sp=p:=fun e=> hq ⟨rfl,e⟩
      have hq3:(sp==p)=false:=beq_eq_false_iff_ne.2 hq2;clear hq
      go_wp2
      go_region
      go_wp2
      go_roundw
      case rel=> exact ⟨(i+1) % l.length,k+1,hx,Q31 hn i,by go_num,by go_num,HF,Below.drew HBr.out⟩
      case measure=> simp [intOf];omega
     ·have hq3:(sa==a)=false:=beq_eq_false_iff_ne.2 hq1
      clear hq
      go_wp2
      go_region
      go_wp2
      go_roundw
      case rel=> exact ⟨(i+1) % l.length,k+1,hx,Q31 hn i,by go_num,by go_num,HF,Below.drew HBr.out⟩
      case measure=> simp [intOf];omega
  ·have e:k=l.length:=by omega
   subst e
   have HF:=Q02 (show Q1o l a p=(-1,false) from hE.out.symm.trans (by rw [Nat.sub_self];rfl))
   clear hE
   go_wp2
   go_ret2
   exact ⟨by rw [HF.out];rfl,HB2.out⟩
end Go.Proofs.YtpneolgdghbinaaGreat
