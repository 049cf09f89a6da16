/- Several texts in one: LSlot, ShT, ShA, TableMath, STabS, STabS2, STabS3. -/
import Derived.Deep.RegionHeld3
import Derived.Test.YtljogkoaaidlcaaQHandL03
namespace Go.Proofs.Ytljogkoaaidlcaa
open Go.ChangeShapes Go.WideShapes Go.ChangeAt Go.RowKit Go.Joins
set_option linter.unusedVariables false
set_option linter.unusedSimpArgs false
set_option maxRecDepth 100000
set_option maxHeartbeats 40000000
structure Sl where
 u:Bool
 a:Int
 p:Int
 v:Int
 t:Int
abbrev sl0:Sl:=⟨false,0,0,0,0⟩
def Q0e:Lay Sl:=⟨5,fun s=> [.bool s.u,.int .i64 s.a,.int .i64 s.p,.int .i64 s.v,.int .i64 s.t],sl0,fun _=> rfl⟩
abbrev slot (s:Sl):Value:=.agg #[.bool s.u,.int .i64 s.a,.int .i64 s.p,.int .i64 s.v,.int .i64 s.t]
abbrev RdS:=RdL Q0e
abbrev Q8v:=ownL Q0e 84
abbrev InS:=InL Q0e 84
theorem RdL.slot {C:Nat} {w:World} {b off:Nat} {l:List Sl} (h:∀i,i < l.length→∀j,j < Q0e.k→w.cell? ⟨b,off+i * Q0e.k+j,none⟩=(Q0e.cs (l.getD i Q0e.d))[j]?) (i:Nat) (hi:i < l.length):
  w.cell? ⟨b,off+i * 5,none⟩=some (.bool (l.getD i sl0).u)∧w.cell? ⟨b,off+i * 5+1,none⟩=some (.int .i64 (l.getD i sl0).a)∧w.cell? ⟨b,off+i * 5+2,none⟩=some (.int .i64 (l.getD i sl0).p)∧w.cell? ⟨b,off+i * 5+3,none⟩=some (.int .i64 (l.getD i sl0).v)∧w.cell? ⟨b,off+i * 5+4,none⟩=some (.int .i64 (l.getD i sl0).t):=
 ⟨h i hi 0 (by decide),h i hi 1 (by decide),h i hi 2 (by decide),h i hi 3 (by decide),h i hi 4 (by decide)⟩
theorem Q53 {α:Type} (L:Lay α) (hk:L.k=5) {v0 v1 v2 v3 v4:Value} {a:α} (ha:L.cs a=[v0,v1,v2,v3,v4]):∀(l:List α) (i:Nat),(((((l.flatMap L.cs).set (i * 5) v0).set (i * 5+1) v1).set (i * 5+2) v2).set (i * 5+3) v3).set (i * 5+4) v4=(l.set i a).flatMap L.cs
 |[],i=> by simp
 |q::l,0=> by
  have hq:=(L.len q).trans hk
  match hc:L.cs q,hq with
  |[q0,q1,q2,q3,q4],_=> simp [ha,hc]
 |q::l,i+1=> by
  have hq:=(L.len q).trans hk
  match hc:L.cs q,hq with
  |[q0,q1,q2,q3,q4],_=>
   rw [show (i+1) * 5=i * 5+1+1+1+1+1 by omega]
   simp only [List.flatMap_cons,hc,List.cons_append,List.nil_append,List.set_cons_succ]
   rw [Q53 L hk ha l i]
theorem Q3f:(Try.prog.info? 84).map (fun i=> (i.zero,i.size,i.bytes))=some (some (.agg #[.bool false,.int .i64 0,.int .i64 0,.int .i64 0,.int .i64 0]),5,40):=by kernel_rfl
theorem Q1I {e:TypeId} {w wr:World} {base B g c n:Nat} {l:List Sl} {k:Nat} (s:Sl) (hg:B≤g) (hown:wr.ownsRow base e 5 (.slice (some ⟨g,0,none⟩) n c) n (l.flatMap Q0e.cs)) (hB:Below B w wr):
  (((((wr.setCell ⟨g,k * 5,none⟩ (.bool s.u)).setCell ⟨g,k * 5+1,none⟩ (.int .i64 s.a)).setCell ⟨g,k * 5+2,none⟩ (.int .i64 s.p)).setCell ⟨g,k * 5+3,none⟩ (.int .i64 s.v)).setCell ⟨g,k * 5+4,none⟩ (.int .i64 s.t)).ownsRow base e 5 (.slice (some ⟨g,0,none⟩) n c) n ((l.set k s).flatMap Q0e.cs)∧
   Below B w (((((wr.setCell ⟨g,k * 5,none⟩ (.bool s.u)).setCell ⟨g,k * 5+1,none⟩ (.int .i64 s.a)).setCell ⟨g,k * 5+2,none⟩ (.int .i64 s.p)).setCell ⟨g,k * 5+3,none⟩ (.int .i64 s.v)).setCell ⟨g,k * 5+4,none⟩ (.int .i64 s.t)):=by
 have h:=(((((hown.stored (k * 5) (.bool s.u)).1.stored (k * 5+1) (.int .i64 s.a)).1.stored (k * 5+2) (.int .i64 s.p)).1.stored (k * 5+3) (.int .i64 s.v)).1.stored (k * 5+4) (.int .i64 s.t)).1
 rw [Q53 Q0e rfl (a:=s) rfl] at h
 exact ⟨h,((((hB.setCell (p:=⟨g,k * 5,none⟩) hg _).setCell (p:=⟨g,k * 5+1,none⟩) hg _).setCell (p:=⟨g,k * 5+2,none⟩) hg _).setCell (p:=⟨g,k * 5+3,none⟩) hg _).setCell (p:=⟨g,k * 5+4,none⟩) hg _⟩
abbrev tab (v:Value):Value:=.agg #[v]
theorem Q02 {W:World} {B:Nat} {c:Array Value} {t:TypeId} (h:W.heap[B]? =some (.cells c t (0,0))) (j:Nat) (u:Value) (hj:c[j]? =some u):W.cell? ⟨B,j,none⟩=some u:=by
 simp [World.cell?,h,hj]
def RdT (C:Nat) (w:World) (v:Value) (l:List Sl):Prop:=∃vl,v=tab vl∧RdV Q0e C w vl l
def InTb (lo hi:Nat) (w:World) (v:Value) (l:List Sl):Prop:=∃vl,v=tab vl∧InS lo hi w vl l
theorem InTb.step {a b lo hi:Nat} {w w':World} {v:Value} {m:List Sl} (h:InTb a b w v m) (s:Stp lo hi w w') (hd:hi≤a∨b≤lo):InTb a b w' v m:=by
 obtain ⟨vl,e,h1⟩:=h
 exact ⟨vl,e,InRow.step h1 s hd⟩
theorem Q0s (W:World) (B j:Nat) (v:Value):Stp B (B+1) W (W.setCell ⟨B,j,none⟩ v):=by
 have h:=(Below.refl B W).setCell (p:=⟨B,j,none⟩) (Kaq _) v
 exact ⟨h.os,h.tape,h.output,h.size,fun k hk hn=> Below.heap_setCell W ⟨B,j,none⟩ v k (by simp;omega)⟩
theorem Q04 (W:World) (B:Nat) (a b c d e:Value):Stp B (B+1) W (((((W.setCell ⟨B,0,none⟩ a).setCell ⟨B,1,none⟩ b).setCell ⟨B,2,none⟩ c).setCell ⟨B,3,none⟩ d).setCell ⟨B,4,none⟩ e):=
 ((((Q0s W B 0 a).trans (Q0s _ B 1 b)).trans (Q0s _ B 2 c)).trans (Q0s _ B 3 d)).trans (Q0s _ B 4 e)
theorem Q07 {w W:World} {C B:Nat} (h:Below C w W) (hC:C≤B) (a b c d e:Value):Below C w (((((W.setCell ⟨B,0,none⟩ a).setCell ⟨B,1,none⟩ b).setCell ⟨B,2,none⟩ c).setCell ⟨B,3,none⟩ d).setCell ⟨B,4,none⟩ e):=
 ((((h.setCell (p:=⟨B,0,none⟩) hC a).setCell (p:=⟨B,1,none⟩) hC b).setCell (p:=⟨B,2,none⟩) hC c).setCell (p:=⟨B,3,none⟩) hC d).setCell (p:=⟨B,4,none⟩) hC e
theorem Q1J {W:World} {B k j:Nat} {u a b c d e:Value} (h:W.cell? ⟨k,j,none⟩=some u) (hk:k < B):(((((W.setCell ⟨B,0,none⟩ a).setCell ⟨B,1,none⟩ b).setCell ⟨B,2,none⟩ c).setCell ⟨B,3,none⟩ d).setCell ⟨B,4,none⟩ e).cell? ⟨k,j,none⟩=some u:=
 ((Q07 (Below.refl B W) (Kaq _) a b c d e).cell (p:=⟨k,j,none⟩) hk).trans h
theorem Q18 (W:World) (B:Nat) (a b c d e:Value):(((((W.setCell ⟨B,0,none⟩ a).setCell ⟨B,1,none⟩ b).setCell ⟨B,2,none⟩ c).setCell ⟨B,3,none⟩ d).setCell ⟨B,4,none⟩ e).heap.size=W.heap.size:=by simp
structure Am where
 id:Int
 lim:Int
 dr:Bool
 c:List Sl
 t:List Sl
abbrev agt (i l:Int) (d:Bool) (vc vt:Value):Value:=.agg #[.int .i64 i,.int .i64 l,.bool d,vc,vt]
def RdA (C:Nat) (w:World) (v:Value) (m:Am):Prop:=∃vc vt,v=agt m.id m.lim m.dr vc vt∧RdV Q0e C w vc m.c∧RdV Q0e C w vt m.t
def InA (lo hi:Nat) (w:World) (v:Value) (m:Am):Prop:=∃vc vt mid,v=agt m.id m.lim m.dr vc vt∧InS lo mid w vc m.c∧InS mid hi w vt m.t∧lo≤mid∧mid≤hi
theorem RdA.kept {C D:Nat} {w w':World} {v:Value} {m:Am} (h:RdA C w v m) (hb:Below D w w') (hc:C≤D):RdA C w' v m:=by
 obtain ⟨vc,vt,e,h1,h2⟩:=h
 exact ⟨vc,vt,e,h1.kept hb hc,h2.kept hb hc⟩
theorem RdA.le {C D:Nat} {w:World} {v:Value} {m:Am} (h:RdA C w v m) (hc:C≤D):RdA D w v m:=by
 obtain ⟨vc,vt,e,h1,h2⟩:=h
 exact ⟨vc,vt,e,h1.le hc,h2.le hc⟩
theorem InA.rd {lo hi:Nat} {w:World} {v:Value} {m:Am} (h:InA lo hi w v m):RdA hi w v m:=by
 obtain ⟨vc,vt,mid,e,h1,h2,h3,h4⟩:=h
 exact ⟨vc,vt,e,(InL.rd (L:=Q0e) h1).le h4,InL.rd (L:=Q0e) h2⟩
theorem InA.step {a b lo hi:Nat} {w w':World} {v:Value} {m:Am} (h:InA a b w v m) (s:Stp lo hi w w') (hd:hi≤a∨b≤lo):InA a b w' v m:=by
 obtain ⟨vc,vt,mid,e,h1,h2,h3,h4⟩:=h
 exact ⟨vc,vt,mid,e,InRow.step h1 s (by omega),InRow.step h2 s (by omega),h3,h4⟩
theorem InA.mono {a b a' b':Nat} {w:World} {v:Value} {m:Am} (h:InA a b w v m) (h1:a'≤a) (h2:b≤b'):InA a' b' w v m:=by
 obtain ⟨vc,vt,mid,e,i1,i2,h3,h4⟩:=h
 exact ⟨vc,vt,mid,e,InRow.mono i1 h1 (Kaq _),InRow.mono i2 (Kaq _) h2,Kdq h1 h3,Kdq h4 h2⟩
def Q0B (n:Nat) (a p:Int):Nat:=((a * 31+p) % (n:Int)).toNat
theorem Q0V {n:Nat} (hn:0 < n) (a p:Int):Q0B n a p < n:=by
 unfold Q0B
 have h1:=Int.emod_nonneg (a * 31+p) (show (n:Int)≠0 by omega)
 have h2:=Int.emod_lt_of_pos (a * 31+p) (show (0:Int) < n by omega)
 omega
theorem Q5L {n:Nat} (hn:0 < n) (a p:Int):((Q0B n a p:Nat):Int)=(a * 31+p) % (n:Int):=by
 unfold Q0B
 have h1:=Int.emod_nonneg (a * 31+p) (show (n:Int)≠0 by omega)
 omega
theorem Q4b {n:Nat} (hn:0 < n) {a p:Int} (h:Q0c a p=true):(a * 31+p).tmod (n:Int)=((Q0B n a p:Nat):Int):=by
 rw [Q5L hn,Int.tmod_eq_emod_of_nonneg]
 have:=Q1u.1 h
 omega
theorem Q5i {n:Nat} (hn:0 < n) {a p:Int} (h:Q0c a p=true):(31 * a+p).tmod (n:Int)=((Q0B n a p:Nat):Int):=by
 rw [Int.mul_comm];exact Q4b hn h
theorem Q2N (n i:Nat):((i:Int)+1).tmod (n:Int)=(((i+1) % n:Nat):Int):=by
 rw [Int.tmod_eq_emod_of_nonneg (by omega)];simp
def Q0U (n i k:Nat):Nat:=(k+n - i) % n
theorem Q4r {n i k:Nat} (hi:i < n) (hk:k < n):((k:Int) - (i:Int)+(n:Int)).tmod (n:Int)=((Q0U n i k:Nat):Int):=by
 rw [Int.tmod_eq_emod_of_nonneg (by omega),show (k:Int) - i+n=((k+n - i:Nat):Int) by omega];simp [Q0U]
theorem Q1F {n:Nat} (hn:0 < n) (i:Nat):(i+1) % n < n:=Nat.mod_lt _ hn
def Q2t (l:List Sl) (a p:Int):Nat→Nat→Int × Bool
 |0,_=> (-1,false)
 |f+1,i=> if (l.getD i sl0).u=true then (if (l.getD i sl0).a=a∧(l.getD i sl0).p=p then ((i:Int),true) else Q2t l a p f ((i+1) % l.length)) else ((i:Int),false)
def Q0m (l:List Sl) (a p:Int):Int × Bool:=Q2t l a p l.length (Q0B l.length a p)
theorem Q2q {l:List Sl} {a p:Int} {f i:Nat} (h:(l.getD i sl0).u=false):Q2t l a p (f+1) i=((i:Int),false):=by simp only [Q2t,h];simp
theorem Q2J {l:List Sl} {a p:Int} {f i:Nat} (h:(l.getD i sl0).u=true) (h1:(l.getD i sl0).a=a) (h2:(l.getD i sl0).p=p):Q2t l a p (f+1) i=((i:Int),true):=by simp only [Q2t,h,h1,h2];simp
theorem Q2a {l:List Sl} {a p:Int} {f i:Nat} (h:(l.getD i sl0).u=true) (h1:¬((l.getD i sl0).a=a∧(l.getD i sl0).p=p)):Q2t l a p (f+1) i=Q2t l a p f ((i+1) % l.length):=by simp only [Q2t,h,h1];simp
theorem Q3K (l:List Sl) (hn:0 < l.length) (a p:Int):∀(f i:Nat),i < l.length→Q2t l a p f i=(-1,false)∨∃k,k < l.length∧((Q2t l a p f i=((k:Int),false)∧(l.getD k sl0).u=false)∨(Q2t l a p f i=((k:Int),true)∧(l.getD k sl0).u=true∧(l.getD k sl0).a=a∧(l.getD k sl0).p=p))
 |0,i,_=> .inl rfl
 |f+1,i,hi=> by
  cases hu:(l.getD i sl0).u with
  |false=> exact .inr ⟨i,hi,.inl ⟨Q2q hu,hu⟩⟩
  |true=>
   by_cases h:(l.getD i sl0).a=a∧(l.getD i sl0).p=p
   ·exact .inr ⟨i,hi,.inr ⟨Q2J hu h.1 h.2,hu,h.1,h.2⟩⟩
   ·rw [Q2a hu h]
    exact Q3K l hn a p f _ (Q1F hn i)
theorem Q0C (l:List Sl) (hn:0 < l.length) (a p:Int):Q0m l a p=(-1,false)∨∃k,k < l.length∧((Q0m l a p=((k:Int),false)∧(l.getD k sl0).u=false)∨(Q0m l a p=((k:Int),true)∧(l.getD k sl0).u=true∧(l.getD k sl0).a=a∧(l.getD k sl0).p=p)):=
 Q3K l hn a p _ _ (Q0V hn a p)
def Q1i (s:Sl):Bool:=if s.u=true then Q0c s.a s.p && decide (0≤s.v) && decide (s.v≤100000) && decide (0≤s.t) && decide (s.t≤200000) else decide (s.a=0) && decide (s.p=0) && decide (s.v=0) && decide (s.t=0)
theorem Q2f {s:Sl} (h:s.u=true):Q1i s=true↔Q0c s.a s.p=true∧0≤s.v∧s.v≤100000∧0≤s.t∧s.t≤200000:=by simp [Q1i,h,and_assoc]
theorem Q6a {s:Sl} (h:s.u=false):Q1i s=true↔s=sl0:=by
 obtain ⟨u,a,p,v,t⟩:=s
 simp at h;subst h
 simp [Q1i,and_assoc]
def Q4G (l:List Sl) (i:Nat):Bool:= !(l.getD i sl0).u||(Q0m l (l.getD i sl0).a (l.getD i sl0).p==((i:Int),true))
def Q26 (l:List Sl) (i:Nat):Bool:=Q1i (l.getD i sl0) && Q4G l i
def Q0b (l:List Sl):Bool:=decide (1≤l.length) && decide (l.length≤16) && (List.range l.length).all (Q26 l)
theorem Q0d {l:List Sl}:Q0b l=true↔1≤l.length∧l.length≤16∧∀i,i < l.length→Q26 l i=true:=by simp [Q0b,and_assoc]
theorem Q4K {l:List Sl} (h1:1≤l.length) (h2:l.length≤16) (h:∀i,i < l.length→Q26 l i=true):true=Q0b l:=(Q0d.2 ⟨h1,h2,h⟩).symm
theorem Q1w {l:List Sl} {i:Nat} (hi:i < l.length) (h:Q26 l i=false):false=Q0b l:=by
 cases hb:Q0b l with
 |false=> rfl
 |true=> rw [(Q0d.1 hb).2.2 i hi] at h;cases h
theorem Q38 {l:List Sl} (h:¬(1≤l.length∧l.length≤16)):false=Q0b l:=by
 cases hb:Q0b l with
 |false=> rfl
 |true=> exact absurd ⟨(Q0d.1 hb).1,(Q0d.1 hb).2.1⟩ h
theorem Q2l {l:List Sl} {i:Nat} (h:Q1i (l.getD i sl0)=false):Q26 l i=false:=by unfold Q26;rw [h];rfl
theorem Q6A {l:List Sl} {i:Nat} (hu:(l.getD i sl0).u=true) (h:Q0m l (l.getD i sl0).a (l.getD i sl0).p≠((i:Int),true)):Q26 l i=false:=by unfold Q26 Q4G;rw [hu,beq_eq_false_iff_ne.2 h];cases Q1i (l.getD i sl0) <;> rfl
theorem Q2d {l:List Sl} {i:Nat} (hu:(l.getD i sl0).u=false) (h:Q1i (l.getD i sl0)=true):Q26 l i=true:=by unfold Q26 Q4G;rw [hu,h];rfl
theorem Q2h {l:List Sl} {i:Nat} (h:Q1i (l.getD i sl0)=true) (h':Q0m l (l.getD i sl0).a (l.getD i sl0).p=((i:Int),true)):Q26 l i=true:=by unfold Q26 Q4G;rw [h,h'];cases (l.getD i sl0).u <;> simp
def Q89 (l:List Sl) (k:Nat):Prop:=∀i,i < k→Q26 l i=true
theorem Q47 {l:List Sl} {k:Nat} (h:Q89 l k) (hk:Q26 l k=true):Q89 l (k+1):=fun i hi=> by
 rcases Nat.lt_succ_iff_lt_or_eq.1 hi with h1|h1
 ·exact h i h1
 ·rw [h1];exact hk
def Q3x (l:List Sl) (k:Nat):Prop:=∀i,i < k→Q1i (l.getD i sl0)=true
theorem Q5l {l:List Sl} {k:Nat} (h:Q3x l k) (hk:Q1i (l.getD k sl0)=true):Q3x l (k+1):=fun i hi=> by
 rcases Nat.lt_succ_iff_lt_or_eq.1 hi with h1|h1
 ·exact h i h1
 ·rw [h1];exact hk
def Q11 (l:List Sl) (a p v t:Int):List Sl:=if 0≤(Q0m l a p).1 then l.set (Q0m l a p).1.toNat ⟨true,a,p,v,t⟩ else l
theorem Q0p (l:List Sl) (a p v t:Int):(Q11 l a p v t).length=l.length:=by unfold Q11;split <;> simp
def Q5B (l:List Sl) (a p:Int):Sl:=if (Q0m l a p).2=true then l.getD (Q0m l a p).1.toNat sl0 else sl0
def Q4X:Nat→(Nat→Nat)→Nat
 |0,_=> 0
 |n+1,f=> Q4X n f+f n
theorem Q4h:∀(n:Nat) {f g:Nat→Nat},(∀x,x < n→f x=g x)→Q4X n f=Q4X n g
 |0,_,_,_=> rfl
 |n+1,f,g,h=> by simp only [Q4X];rw [Q4h n (fun x hx=> h x (by omega)),h n (by omega)]
theorem Q3R:∀(n:Nat) {f g:Nat→Nat} {j:Nat},j < n→(∀x,x≠j→f x=g x)→Q4X n f+g j=Q4X n g+f j
 |0,_,_,_,h,_=> absurd h (Nat.not_lt_zero _)
 |n+1,f,g,j,h,he=> by
  simp only [Q4X]
  by_cases e:j=n
  ·subst e
   rw [Q4h j (fun x hx=> he x (by omega))];omega
  ·have:=Q3R n (show j < n by omega) he
   rw [he n (fun e'=> e e'.symm)];omega
def wt (n:Nat) (l:List Sl) (j:Nat):Nat:=if (l.getD j sl0).u=true then Q0U n (Q0B n (l.getD j sl0).a (l.getD j sl0).p) j else 0
def phi (l:List Sl):Nat:=Q4X l.length (wt l.length l)
def Q6l (l:List Sl) (i k:Nat):Nat:=phi l * 17+Q0U l.length k i
def Q2D (n:Nat) (l:List Sl) (i k:Nat):Bool:=decide (Q0U n i k≤Q0U n (Q0B n (l.getD k sl0).a (l.getD k sl0).p) k)
def Q1y (n:Nat):Nat→List Sl→Nat→Nat→List Sl
 |0,l,_,_=> l
 |f+1,l,i,k=> if (l.getD k sl0).u=true then (if Q2D n l i k=true then Q1y n f ((l.set i (l.getD k sl0)).set k sl0) k ((k+1) % n) else Q1y n f l i ((k+1) % n)) else l
def Q1j (l:List Sl) (i:Nat):List Sl:=Q1y l.length (Q6l (l.set i sl0) i ((i+1) % l.length)+1) (l.set i sl0) i ((i+1) % l.length)
theorem Q5R {n f i k:Nat} {l:List Sl} (h:(l.getD k sl0).u=false):Q1y n (f+1) l i k=l:=by simp only [Q1y,h];simp
theorem Q5m {n f i k:Nat} {l:List Sl} (h:(l.getD k sl0).u=true) (hm:Q2D n l i k=true):Q1y n (f+1) l i k=Q1y n f ((l.set i (l.getD k sl0)).set k sl0) k ((k+1) % n):=by simp only [Q1y,h,hm];simp
theorem Q5w {n f i k:Nat} {l:List Sl} (h:(l.getD k sl0).u=true) (hm:Q2D n l i k=false):Q1y n (f+1) l i k=Q1y n f l i ((k+1) % n):=by simp only [Q1y,h,hm];simp
theorem Q0I (l:List Sl) (i:Nat) (s:Sl) (h:i < l.length):(l.set i s).getD i sl0=s:=by simp [h]
theorem Q1b (l:List Sl) (i j:Nat) (s:Sl) (h:i≠j):(l.set i s).getD j sl0=l.getD j sl0:=by
 simp [List.getElem?_set,h]
theorem Q1t {a n:Nat} (h:a < n):a % n=a:=Nat.mod_eq_of_lt h
theorem Q4A {a n:Nat} (h1:n≤a) (h2:a < n+n):a % n=a - n:=by rw [Nat.mod_eq_sub_mod h1,Nat.mod_eq_of_lt (by omega)]
theorem Q0D {n i k:Nat} (hi:i < n) (hk:k < n):Q0U n i k=if i≤k then k - i else k+n - i:=by
 unfold Q0U
 by_cases h:i≤k
 ·rw [if_pos h,Q4A (by omega) (by omega)];omega
 ·rw [if_neg h,Q1t (by omega)]
theorem Q84 {n k:Nat} (hk:k < n):(k+1) % n=if k+1=n then 0 else k+1:=by
 by_cases h:k+1=n
 ·rw [if_pos h,h,Nat.mod_self]
 ·rw [if_neg h,Q1t (by omega)]
theorem Q6e {l:List Sl} {i k:Nat} (hi:i < l.length) (hk:k < l.length) (hne:k≠i):Q6l l i ((k+1) % l.length) < Q6l l i k:=by
 unfold Q6l
 have h1:=Q1F (n:=l.length) (by omega) k
 rw [Q0D h1 hi,Q0D hk hi,Q84 hk]
 split <;> (repeat' split) <;> omega
theorem Q6d {l:List Sl} {i k:Nat} (hl:l.length≤16) (hi:i < l.length) (hk:k < l.length) (hfree:(l.getD i sl0).u=false) (hu:(l.getD k sl0).u=true) (hm:Q2D l.length l i k=true):
  Q6l ((l.set i (l.getD k sl0)).set k sl0) k ((k+1) % l.length) < Q6l l i k:=by
 have hne:i≠k:=fun e=> by rw [e,hu] at hfree;cases hfree
 unfold Q6l phi
 rw [show ((l.set i (l.getD k sl0)).set k sl0).length=l.length by simp]
 have e1:=Q3R l.length (f:=wt l.length ((l.set i (l.getD k sl0)).set k sl0)) (g:=wt l.length (l.set i (l.getD k sl0))) hk (fun x hx=> by unfold wt;rw [Q1b _ k x _ (fun e=> hx e.symm)])
 have e2:=Q3R l.length (f:=wt l.length (l.set i (l.getD k sl0))) (g:=wt l.length l) hi (fun x hx=> by unfold wt;rw [Q1b _ i x _ (fun e=> hx e.symm)])
 have w1:wt l.length ((l.set i (l.getD k sl0)).set k sl0) k=0:=by unfold wt;rw [Q0I _ _ _ (by simpa using hk)];rfl
 have w2:wt l.length (l.set i (l.getD k sl0)) k=Q0U l.length (Q0B l.length (l.getD k sl0).a (l.getD k sl0).p) k:=by unfold wt;rw [Q1b _ i k _ hne,hu];rfl
 have w3:wt l.length (l.set i (l.getD k sl0)) i=Q0U l.length (Q0B l.length (l.getD k sl0).a (l.getD k sl0).p) i:=by unfold wt;rw [Q0I _ _ _ hi,hu];rfl
 have w4:wt l.length l i=0:=by unfold wt;rw [hfree];rfl
 rw [w1,w2] at e1
 rw [w3,w4] at e2
 have hh:=Q0V (show 0 < l.length by omega) (l.getD k sl0).a (l.getD k sl0).p
 have hmv:Q0U l.length i k≤Q0U l.length (Q0B l.length (l.getD k sl0).a (l.getD k sl0).p) k:=by simpa [Q2D] using hm
 generalize Q0B l.length (l.getD k sl0).a (l.getD k sl0).p=h at *
 have h1:=Q1F (n:=l.length) (by omega) k
 have hd:Q0U l.length h i+1≤Q0U l.length h k:=by
  rw [Q0D hi hk,Q0D hh hk] at hmv
  rw [Q0D hh hi,Q0D hh hk]
  (repeat' split at hmv) <;> (repeat' split) <;> omega
 have hf:Q0U l.length ((k+1) % l.length) k < 16:=by
  have:Q0U l.length ((k+1) % l.length) k < l.length:=Nat.mod_lt _ (by omega)
  omega
 omega
abbrev Q2S (a p:Int):Value:=.agg #[.int .i64 a,.int .i64 p]
theorem Q4a (n:Nat) (a p:Int) (w:World) (hn:0 < n) (hl:n≤1048576) (hf:Q0c a p=true):
  Calls Try.prog 89 #[.int .i64 n,Q2S a p] w fun e w'=> e=.returned (.int .i64 (Q0B n a p))∧Below w.heap.size w w':=by
 have hB:Below w.heap.size w w:=Below.refl _ _
 have hh:=Q4b hn hf
 have hlt:=Q0V hn a p
 have h0:=Q1u.1 hf
 have hne:¬((n:Int)=0):=by omega
 have hne':((n:Int)==0)=false:=by simpa using hne
 obtain ⟨h1,h2,h3,h4⟩:=h0
 go_enter Try.func89,Try.ntmps89
 go_wp2
 go_ret
 exact ⟨rfl,by (repeat (first|with_reducible (first|exact hB|exact Below.refl _ _|refine Below.drew ?_|refine below_drewN ?_ _|refine Below.alloc ?_ ?_ _|refine Below.setCell ?_ ?_ _)|(focus (simp;first|done|omega))|omega))⟩
theorem Q3g (o:Option Addr) (c:Nat) (l:List Sl) (a p:Int) (w:World) (hR:RdS w.heap.size w o l) (hn:0 < l.length) (hl:l.length≤1048576) (hf:Q0c a p=true):
  Calls Try.prog 65 #[tab (.slice o l.length c),Q2S a p] w fun e w'=> e=.returned (.tuple #[.int .i64 (Q0m l a p).1,.bool (Q0m l a p).2])∧Below w.heap.size w w':=by
 rcases hR with hR|⟨b,off,rfl,hbl,hcell⟩
 ·subst hR;simp at hn
 have hB:Below w.heap.size w w:=Below.refl _ _
 have HC:=Q00 hcell
 clear hcell
 go_enter Try.func65,Try.ntmps65
 go_wp2_with fail;go_at_call 89;refine (Q4a l.length a p _ hn hl hf).mono ?_;rintro e w1a ⟨rfl,hba⟩;obtain ⟨hca,hfa⟩:=Q2A hba;have hz0a:w.heap.size < w1a.heap.size:=(by have hz:=hba.size;(try simp at hz);omega);have hz1a:w.heap.size+1 < w1a.heap.size:=(by have hz:=hba.size;(try simp at hz);omega);have hB:Below w.heap.size w w1a:=(by refine Below.trans ?_ (hba.mono (by have hs:=hB.size;(try simp) <;> omega));(repeat (first|with_reducible (first|exact hB|exact Below.refl _ _|refine Below.drew ?_|refine below_drewN ?_ _|refine Below.alloc ?_ ?_ _|refine Below.setCell ?_ ?_ _)|(focus (simp;first|done|omega))|omega)))
 have hc0:w1a.cell? ⟨w.heap.size,0,none⟩=some (.slice (some ⟨b,off,none⟩) l.length c):=by rw [hca _ _ (by (try simp) <;> omega)];simp [go_sem]
 have hc1:w1a.cell? ⟨w.heap.size+1,0,none⟩=some (.int .i64 a):=by rw [hca _ _ (by (try simp) <;> omega)];simp [go_sem]
 have hc2:w1a.cell? ⟨w.heap.size+1,1,none⟩=some (.int .i64 p):=by rw [hca _ _ (by (try simp) <;> omega)];simp [go_sem]
 have HB:=Q00 hB
 clear hB hca hfa hba
 have hh:=Q0V hn a p
 have HE:=Q00 (show Q2t l a p l.length (Q0B l.length a p)=Q0m l a p from rfl)
 generalize Q0B l.length a p=h at *
 go_wp2
 go_loopw [7,8] (fun i k wr=> ∃(i' k':Nat),k'≤l.length∧i' < l.length∧i=.int .i64 i'∧k=.int .i64 k'∧Hid (Q2t l a p (l.length - k') i'=Q0m l a p)∧Hid (Below w1a.heap.size w1a wr))
  (fun _ k _=> l.length - (intOf k).toNat)
 case atStart=> exact ⟨h,0,Kcq _,hh,rfl,rfl,HE,Below.refl _ _⟩
 case round=>
  obtain ⟨i,k,hk,hi,rfl,rfl,hE,HBr⟩:=hrel
  have d0:wr.cell? ⟨w.heap.size,0,none⟩=some (.slice (some ⟨b,off,none⟩) l.length c):=(HBr.out.cell (p:=⟨w.heap.size,0,none⟩) hz0a).trans hc0
  have d1:wr.cell? ⟨w.heap.size+1,0,none⟩=some (.int .i64 a):=(HBr.out.cell (p:=⟨w.heap.size+1,0,none⟩) hz1a).trans hc1
  have d2:wr.cell? ⟨w.heap.size+1,1,none⟩=some (.int .i64 p):=(HBr.out.cell (p:=⟨w.heap.size+1,1,none⟩) hz1a).trans hc2
  have HB2:=Q00 (HB.out.trans (HBr.out.mono HB.out.size))
  by_cases hlt:k < l.length
  ·obtain ⟨s,hxy⟩:∃s,l.getD i sl0=s:=⟨_,rfl⟩
   have hcx:=RdL.slot (C:=w.heap.size) HC.out i hi
   rw [hxy] at hcx
   have e0:wr.cell? ⟨b,off+i * 5,none⟩=some (.bool s.u):=(HB2.out.cell (p:=⟨b,off+i * 5,none⟩) hbl).trans hcx.1
   have e1:wr.cell? ⟨b,off+i * 5+1,none⟩=some (.int .i64 s.a):=(HB2.out.cell (p:=⟨b,off+i * 5+1,none⟩) hbl).trans hcx.2.1
   have e2:wr.cell? ⟨b,off+i * 5+2,none⟩=some (.int .i64 s.p):=(HB2.out.cell (p:=⟨b,off+i * 5+2,none⟩) hbl).trans hcx.2.2.1
   have hi':(i:Int) < (l.length:Int):=by omega
   have hk':(k:Int) < (l.length:Int):=by omega
   have hne':((l.length:Int)==0)=false:=beq_eq_false_iff_ne.2 (by omega)
   have hm:=Q2N l.length i
   have ek:l.length - k=(l.length - (k+1))+1:=by omega
   rw [ek] at hE
   obtain ⟨su,sa,sp,sv,st⟩:=s
   simp only at e0 e1 e2
   clear hcx hc0 hc1 hc2 HC
   cases su with
   |false=>
    have HF:=Q00 (hE.out.symm.trans (Q2q (by rw [hxy])))
    clear hE hxy ek
    go_wp2
    go_ret2
    exact ⟨by rw [HF.out];rfl,HB2.out⟩
   |true=>
    by_cases hq:sa=a∧sp=p
    ·have HF:=Q00 (hE.out.symm.trans (Q2J (by rw [hxy]) (by rw [hxy];exact hq.1) (by rw [hxy];exact hq.2)))
     obtain ⟨rfl,rfl⟩:=hq
     clear hE hxy ek
     go_wp2
     go_region
     go_wp2
     go_ret2
     exact ⟨by rw [HF.out];rfl,Below.drew HB2.out⟩
    ·have HF:=Q00 (hE.out.symm.trans (Q2a (by rw [hxy]) (by rw [hxy];exact hq))).symm
     clear hE hxy ek
     have hx:(k+1≤l.length):=by omega
     by_cases hq1:sa=a
     ·subst hq1
      have hq2:¬sp=p:=fun e=> hq ⟨rfl,e⟩
      have hq3:(sp==p)=false:=beq_eq_false_iff_ne.2 hq2
      clear hq
      go_wp2
      go_region
      go_wp2
      go_roundw
      case rel=> exact ⟨(i+1) % l.length,k+1,hx,Q1F hn i,by go_num,by go_num,HF,Below.drew HBr.out⟩
      case measure=> simp [intOf];omega
     ·have hq3:(sa==a)=false:=beq_eq_false_iff_ne.2 hq1
      clear hq
      go_wp2
      go_region
      go_wp2
      go_roundw
      case rel=> exact ⟨(i+1) % l.length,k+1,hx,Q1F hn i,by go_num,by go_num,HF,Below.drew HBr.out⟩
      case measure=> simp [intOf];omega
  ·have e:k=l.length:=by omega
   subst e
   have HF:=Q00 (show Q0m l a p=(-1,false) from hE.out.symm.trans (by rw [Nat.sub_self];rfl))
   clear hE
   go_wp2
   go_ret2
   exact ⟨by rw [HF.out];rfl,HB2.out⟩
theorem Q25 (o:Option Addr) (c:Nat) (l:List Sl) (w:World) (hR:RdS w.heap.size w o l) (hl:l.length≤1048576):
  Calls Try.prog 41 #[tab (.slice o l.length c)] w fun e w'=> e=.returned (.bool (Q0b l))∧Below w.heap.size w w':=by
 have hB:Below w.heap.size w w:=Below.refl _ _
 by_cases hlen:1≤l.length∧l.length≤16
 ·obtain ⟨hn,h16⟩:=hlen
  rcases hR with hR|⟨b,off,rfl,hbl,hcell⟩
  ·subst hR;simp at hn
  have HC:=Q00 hcell
  have i1:¬((l.length:Int) < 1):=by omega
  have i2:¬(16 < (l.length:Int)):=by omega
  have h0:Hid (Below w.heap.size w (w.alloc (.cells #[.slice (some ⟨b,off,none⟩) l.length c] 25))):=hB.alloc (Kaq _) _
  have hb0:Hid ((w.alloc (.cells #[.slice (some ⟨b,off,none⟩) l.length c] 25)).cell? ⟨w.heap.size,0,none⟩=some (.slice (some ⟨b,off,none⟩) l.length c)):=by simp [Q00,go_sem,Hid]
  have hz0:w.heap.size < (w.alloc (.cells #[.slice (some ⟨b,off,none⟩) l.length c] 25)).heap.size:=by simp
  clear hcell hB
  go_enter Try.func41,Try.ntmps41
  go_wp2
  generalize w.alloc (.cells #[.slice (some ⟨b,off,none⟩) l.length c] 25)=w0 at *
  go_loopw [3] (fun i wr=> ∃k:Nat,k≤l.length∧i=.int .i64 k∧Hid (Q89 l k)∧Hid (Below w0.heap.size w0 wr))
   (fun i _=> l.length - (intOf i).toNat)
  case atStart=> exact ⟨0,Kcq _,rfl,fun i hi=> absurd hi (Nat.not_lt_zero _),Below.refl _ _⟩
  case round=>
   obtain ⟨k,hk,rfl,hT,HBr⟩:=hrel
   have d0:wr.cell? ⟨w.heap.size,0,none⟩=some (.slice (some ⟨b,off,none⟩) l.length c):=(HBr.out.cell (p:=⟨w.heap.size,0,none⟩) hz0).trans hb0.out
   have HB2:=Q00 (h0.out.trans (HBr.out.mono h0.out.size))
   have hs1:w0.heap.size≤wr.heap.size:=HBr.out.size
   by_cases hlt:k < l.length
   ·obtain ⟨s,hxy⟩:∃s,l.getD k sl0=s:=⟨_,rfl⟩
    have hcx:=RdL.slot (C:=w.heap.size) HC.out k hlt
    rw [hxy] at hcx
    have e0:wr.cell? ⟨b,off+k * 5,none⟩=some (.bool s.u):=(HB2.out.cell (p:=⟨b,off+k * 5,none⟩) hbl).trans hcx.1
    have e1:wr.cell? ⟨b,off+k * 5+1,none⟩=some (.int .i64 s.a):=(HB2.out.cell (p:=⟨b,off+k * 5+1,none⟩) hbl).trans hcx.2.1
    have e2:wr.cell? ⟨b,off+k * 5+2,none⟩=some (.int .i64 s.p):=(HB2.out.cell (p:=⟨b,off+k * 5+2,none⟩) hbl).trans hcx.2.2.1
    have e3:wr.cell? ⟨b,off+k * 5+3,none⟩=some (.int .i64 s.v):=(HB2.out.cell (p:=⟨b,off+k * 5+3,none⟩) hbl).trans hcx.2.2.2.1
    have e4:wr.cell? ⟨b,off+k * 5+4,none⟩=some (.int .i64 s.t):=(HB2.out.cell (p:=⟨b,off+k * 5+4,none⟩) hbl).trans hcx.2.2.2.2
    have hk':(k:Int) < (l.length:Int):=by omega
    have HX:=Q00 hxy
    clear hcx hxy
    obtain ⟨su,sa,sp,sv,st⟩:=s
    simp only at e0 e1 e2 e3 e4
    cases su with
    |false=>
     by_cases hz:sa=0∧sp=0∧sv=0∧st=0
     ·obtain ⟨rfl,rfl,rfl,rfl⟩:=hz
      have HT:=Q00 (Q47 hT.out (Q2d (by rw [HX.out]) ((Q6a (by rw [HX.out])).2 HX.out)))
      clear hT
      go_wp2
      go_roundw
      case rel=> exact ⟨k+1,hlt,by go_num,HT,show Below _ _ _ by have hB:=HBr.out;(repeat (first|with_reducible (first|exact hB|exact Below.refl _ _|refine Below.drew ?_|refine below_drewN ?_ _|refine Below.alloc ?_ ?_ _|refine Below.setCell ?_ ?_ _)|(focus (simp;first|done|omega))|omega))⟩
      case measure=> simp [intOf];omega
     ·have HN:=Q00 (Q1w hlt (Q2l (by rw [HX.out];simp [Q1i];intro h1 h2 h3 h4;exact hz ⟨h1,h2,h3,h4⟩)))
      clear hT
      go_wp2
      all_goals go_ret
      all_goals exact ⟨Q0i HN.out,by have hB:=HB2.out;(repeat (first|with_reducible (first|exact hB|exact Below.refl _ _|refine Below.drew ?_|refine below_drewN ?_ _|refine Below.alloc ?_ ?_ _|refine Below.setCell ?_ ?_ _)|(focus (simp;first|done|omega))|omega))⟩
    |true=>
     obtain ⟨W1,hW1⟩:∃W,wr.alloc (.cells #[.bool true,.int .i64 sa,.int .i64 sp,.int .i64 sv,.int .i64 st] 84)=W:=⟨_,rfl⟩
     have hbW:Hid (Below wr.heap.size wr W1):=by rw [←hW1];exact (Below.refl _ _).alloc (Kaq _) _
     have hzW:wr.heap.size < W1.heap.size:=by rw [←hW1];simp
     have c0:W1.cell? ⟨wr.heap.size,0,none⟩=some (.bool true):=by rw [←hW1];simp [go_sem]
     have c1:W1.cell? ⟨wr.heap.size,1,none⟩=some (.int .i64 sa):=by rw [←hW1];simp [go_sem]
     have c2:W1.cell? ⟨wr.heap.size,2,none⟩=some (.int .i64 sp):=by rw [←hW1];simp [go_sem]
     have c3:W1.cell? ⟨wr.heap.size,3,none⟩=some (.int .i64 sv):=by rw [←hW1];simp [go_sem]
     have c4:W1.cell? ⟨wr.heap.size,4,none⟩=some (.int .i64 st):=by rw [←hW1];simp [go_sem]
     have c5:W1.cell? ⟨w.heap.size,0,none⟩=some (.slice (some ⟨b,off,none⟩) l.length c):=(hbW.out.cell (p:=⟨w.heap.size,0,none⟩) (show w.heap.size < wr.heap.size by omega)).trans d0
     have hz3:w.heap.size < W1.heap.size:=by omega
     have HBW:=Q00 (HB2.out.trans (hbW.out.mono HB2.out.size))
     have HW:=Q00 (HBr.out.trans (hbW.out.mono HBr.out.size))
     have hfl:=Q2u sa sp W1
     cases hfo:Q0c sa sp with
     |false=>
      have HN:=Q00 (Q1w hlt (Q2l (by rw [HX.out];simp [Q1i,hfo])))
      rw [hfo] at hfl
      clear hT hfo
      go_wp2_with (go_at_call 33;refine hfl.mono ?_;rintro e w2 ⟨rfl,hb2⟩;have HB3:=Q00 (HBW.out.trans (hb2.mono HBW.out.size));have m0:=(hb2.cell (p:=⟨wr.heap.size,0,none⟩) hzW).trans c0;have m2:=(hb2.cell (p:=⟨wr.heap.size,3,none⟩) hzW).trans c3;have m3:=(hb2.cell (p:=⟨wr.heap.size,4,none⟩) hzW).trans c4;clear hb2)
      all_goals go_ret
      all_goals exact ⟨Q0i HN.out,HB3.out⟩
     |true=>
      rw [hfo] at hfl
      by_cases hv:0≤sv∧sv≤100000∧0≤st∧st≤200000
      ·obtain ⟨v1,v2,v3,v4⟩:=hv
       have g1:¬sv < 0:=by omega
       have g2:¬100000 < sv:=by omega
       have g3:¬st < 0:=by omega
       have g4:¬200000 < st:=by omega
       have HS:=Q00 ((Q2f (s:=l.getD k sl0) (by rw [HX.out])).2 (by rw [HX.out];exact ⟨hfo,v1,v2,v3,v4⟩))
       have HF:=Q00 hfo
       clear hfo v1 v2 v3 v4
       have hat:=fun W hr=> Q3g (some ⟨b,off,none⟩) c l sa sp W hr (by omega) hl HF.out
       by_cases hE:Q0m l sa sp=((k:Int),true)
       ·have HT:=Q00 (Q47 hT.out (Q2h HS.out (by rw [HX.out];exact hE)))
        rw [hE] at hat
        clear hT hE
        go_wp2_with (first|(go_at_call 33;refine hfl.mono ?_;rintro e w2 ⟨rfl,hb2⟩;have HB3:=Q00 (HBW.out.trans (hb2.mono HBW.out.size));have HB4:=Q00 (HW.out.trans (hb2.mono HW.out.size));have m0:=(hb2.cell (p:=⟨wr.heap.size,0,none⟩) hzW).trans c0;have m1:=(hb2.cell (p:=⟨wr.heap.size,1,none⟩) hzW).trans c1;have m4:=(hb2.cell (p:=⟨wr.heap.size,2,none⟩) hzW).trans c2;have m2:=(hb2.cell (p:=⟨wr.heap.size,3,none⟩) hzW).trans c3;have m3:=(hb2.cell (p:=⟨wr.heap.size,4,none⟩) hzW).trans c4;have m5:=(hb2.cell (p:=⟨w.heap.size,0,none⟩) hz3).trans c5;have hz2:=hb2.size;clear hb2)|(go_at_call 65;refine (hat _ (.inr ⟨b,off,rfl,by omega,fun i hi j hj=> (HB3.out.cell (p:=⟨b,off+i * Q0e.k+j,none⟩) hbl).trans (HC.out i hi j hj)⟩)).mono ?_;rintro e w3 ⟨rfl,hb3⟩;have HB5:=Q00 (HB4.out.trans (hb3.mono HB4.out.size));clear hb3))
        go_roundw
        case rel=> exact ⟨k+1,hlt,by go_num,HT,HB5⟩
        case measure=> simp [intOf];omega
       ·have HN:=Q00 (Q1w hlt (Q6A (by rw [HX.out]) (by rw [HX.out];exact hE)))
        generalize hEE:Q0m l sa sp=E at *
        obtain ⟨E1,E2⟩:=E
        have hE':E2=true→¬E1=(k:Int):=fun h1 h2=> hE (by rw [h1,h2])
        clear hT hE hEE
        cases E2 with
        |false=>
         go_wp2_with (first|(go_at_call 33;refine hfl.mono ?_;rintro e w2 ⟨rfl,hb2⟩;have HB3:=Q00 (HBW.out.trans (hb2.mono HBW.out.size));have HB4:=Q00 (HW.out.trans (hb2.mono HW.out.size));have m0:=(hb2.cell (p:=⟨wr.heap.size,0,none⟩) hzW).trans c0;have m1:=(hb2.cell (p:=⟨wr.heap.size,1,none⟩) hzW).trans c1;have m4:=(hb2.cell (p:=⟨wr.heap.size,2,none⟩) hzW).trans c2;have m2:=(hb2.cell (p:=⟨wr.heap.size,3,none⟩) hzW).trans c3;have m3:=(hb2.cell (p:=⟨wr.heap.size,4,none⟩) hzW).trans c4;have m5:=(hb2.cell (p:=⟨w.heap.size,0,none⟩) hz3).trans c5;have hz2:=hb2.size;clear hb2)|(go_at_call 65;refine (hat _ (.inr ⟨b,off,rfl,by omega,fun i hi j hj=> (HB3.out.cell (p:=⟨b,off+i * Q0e.k+j,none⟩) hbl).trans (HC.out i hi j hj)⟩)).mono ?_;rintro e w3 ⟨rfl,hb3⟩;have HB5:=Q00 (HB3.out.trans (hb3.mono HB3.out.size));clear hb3))
         go_ret
         exact ⟨Q0i HN.out,HB5.out⟩
        |true=>
         have hE3:=hE' rfl
         have hE4:(E1==(k:Int))=false:=beq_eq_false_iff_ne.2 hE3
         clear hE'
         go_wp2_with (first|(go_at_call 33;refine hfl.mono ?_;rintro e w2 ⟨rfl,hb2⟩;have HB3:=Q00 (HBW.out.trans (hb2.mono HBW.out.size));have HB4:=Q00 (HW.out.trans (hb2.mono HW.out.size));have m0:=(hb2.cell (p:=⟨wr.heap.size,0,none⟩) hzW).trans c0;have m1:=(hb2.cell (p:=⟨wr.heap.size,1,none⟩) hzW).trans c1;have m4:=(hb2.cell (p:=⟨wr.heap.size,2,none⟩) hzW).trans c2;have m2:=(hb2.cell (p:=⟨wr.heap.size,3,none⟩) hzW).trans c3;have m3:=(hb2.cell (p:=⟨wr.heap.size,4,none⟩) hzW).trans c4;have m5:=(hb2.cell (p:=⟨w.heap.size,0,none⟩) hz3).trans c5;have hz2:=hb2.size;clear hb2)|(go_at_call 65;refine (hat _ (.inr ⟨b,off,rfl,by omega,fun i hi j hj=> (HB3.out.cell (p:=⟨b,off+i * Q0e.k+j,none⟩) hbl).trans (HC.out i hi j hj)⟩)).mono ?_;rintro e w3 ⟨rfl,hb3⟩;have HB5:=Q00 (HB3.out.trans (hb3.mono HB3.out.size));clear hb3))
         go_ret
         exact ⟨Q0i HN.out,HB5.out⟩
      ·have HN:=Q00 (Q1w hlt (Q2l (by rw [HX.out];simp [Q1i,hfo];intro h1 h2 h3;exact Int.not_le.1 fun h4=> hv ⟨h1,h2,h3,h4⟩)))
       have HV:=Q00 hv
       clear hT hfo hv
       go_wp2_with (go_at_call 33;refine hfl.mono ?_;rintro e w2 ⟨rfl,hb2⟩;have HB3:=Q00 (HBW.out.trans (hb2.mono HBW.out.size));have m0:=(hb2.cell (p:=⟨wr.heap.size,0,none⟩) hzW).trans c0;have m1:=(hb2.cell (p:=⟨wr.heap.size,1,none⟩) hzW).trans c1;have m4:=(hb2.cell (p:=⟨wr.heap.size,2,none⟩) hzW).trans c2;have m2:=(hb2.cell (p:=⟨wr.heap.size,3,none⟩) hzW).trans c3;have m3:=(hb2.cell (p:=⟨wr.heap.size,4,none⟩) hzW).trans c4;clear hb2)
       all_goals first|(go_ret;exact ⟨Q0i HN.out,HB3.out⟩)|(exfalso;apply HV.out;omega)|skip
   ·have e:k=l.length:=by omega
    subst e
    have HY:=Q00 (Q4K hn h16 hT.out)
    go_wp2
    go_ret
    exact ⟨Q0i HY.out,HB2.out⟩
 ·have HN:=Q00 (Q38 hlen)
  by_cases h1:(l.length:Int) < 1
  ·go_enter Try.func41,Try.ntmps41
   go_wp2
   go_ret
   exact ⟨Q0i HN.out,by (repeat (first|with_reducible (first|exact hB|exact Below.refl _ _|refine Below.drew ?_|refine below_drewN ?_ _|refine Below.alloc ?_ ?_ _|refine Below.setCell ?_ ?_ _)|(focus (simp;first|done|omega))|omega))⟩
  ·have h2:(16:Int) < l.length:=by omega
   go_enter Try.func41,Try.ntmps41
   go_wp2
   go_ret
   exact ⟨Q0i HN.out,by (repeat (first|with_reducible (first|exact hB|exact Below.refl _ _|refine Below.drew ?_|refine below_drewN ?_ _|refine Below.alloc ?_ ?_ _|refine Below.setCell ?_ ?_ _)|(focus (simp;first|done|omega))|omega))⟩
def Q1E (l:List Sl) (k:Nat):Nat:=((l.take k).filter (fun s=> s.u)).length
theorem Q2e (l:List Sl) (k:Nat):Q1E l k≤k:=Kdq (List.length_filter_le _ _) (by simp;omega)
theorem Q39 {l:List Sl} {k:Nat} (h:k < l.length):Q1E l (k+1)=Q1E l k+(if (l.getD k sl0).u=true then 1 else 0):=by
 unfold Q1E
 rw [Q2k Q0e l k h,List.filter_append,List.length_append]
 congr 1
 show (List.filter (fun s=> s.u) [l.getD k sl0]).length=_
 cases hu:(l.getD k sl0).u with
 |false=> rw [List.filter_cons_of_neg (by rw [hu];decide)];rfl
 |true=> rw [List.filter_cons_of_pos hu];rfl
def Q0y (l:List Sl):Nat:=Q1E l l.length
theorem Q0j (b off c:Nat) (l:List Sl) (w:World) (hbl:b < w.heap.size) (hc:∀i,i < l.length→∀j,j < Q0e.k→w.cell? ⟨b,off+i * Q0e.k+j,none⟩=(Q0e.cs (l.getD i Q0e.d))[j]?) (hl:l.length≤1048576):
  Calls Try.prog 43 #[tab (.slice (some ⟨b,off,none⟩) l.length c)] w fun e w'=> e=.returned (.int .i64 (Q0y l))∧Below w.heap.size w w':=by
 have HC:=Q00 hc
 clear hc
 obtain ⟨W0,hW0⟩:∃W,(w.alloc (.cells #[.slice (some ⟨b,off,none⟩) l.length c] 25))=W:=⟨_,rfl⟩
 have hb_W0:Below w.heap.size w W0:=by rw [←hW0];exact ((Below.refl _ _).alloc (Kaq _) _)
 have HB:=Q00 hb_W0
 clear hb_W0
 have zct:w.heap.size < W0.heap.size:=by rw [←hW0];simp
 have ct0:W0.cell? ⟨w.heap.size,0,none⟩=some (.slice (some ⟨b,off,none⟩) l.length c):=by rw [←hW0];simp [go_sem]
 go_enter Try.func43,Try.ntmps43
 go_wp2
 go_loop [3,4] (fun n i=> ∃k:Nat,k≤l.length∧i=.int .i64 k∧n=.int .i64 (Q1E l k))
  (fun _ i=> l.length - (intOf i).toNat)
 case atStart=> exact ⟨0,Kcq _,rfl,rfl⟩
 case round=>
  obtain ⟨k,hk,rfl,rfl⟩:=hrel
  have hcl:=Q2e l k
  by_cases hlt:k < l.length
  ·have hcx:=RdL.slot (C:=w.heap.size) HC.out k hlt
   have HS:=Q00 (Q39 hlt)
   obtain ⟨s,hxy⟩:∃s,l.getD k sl0=s:=⟨_,rfl⟩
   rw [hxy] at hcx HS
   have e0:=(HB.out.cell (p:=⟨b,off+k * 5,none⟩) hbl).trans hcx.1
   have hk':(k:Int) < (l.length:Int):=by omega
   obtain ⟨su,sa,sp,sv,st⟩:=s
   simp only at e0
   clear hcx hxy
   cases su with
   |false=>
    go_wp2
    go_round
    case rel=> exact ⟨k+1,hlt,by go_num,by rw [HS.out];rfl⟩
    case measure=> simp [intOf];omega
   |true=>
    go_wp2
    go_round
    case rel=> exact ⟨k+1,hlt,by go_num,by rw [HS.out];go_num⟩
    case measure=> simp [intOf];omega
  ·have e:k=l.length:=by omega
   subst e
   go_wp2
   go_ret
   exact ⟨rfl,HB.out⟩
end Go.Proofs.Ytljogkoaaidlcaa
