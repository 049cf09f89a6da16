/- A drawn table that is bent. -/
import Derived.Test.YtpneolgdghbinaaGreatQLearnsL37
namespace Go.Proofs.YtpneolgdghbinaaGreat
open Go.ChangeShapes Go.WideShapes Go.ChangeAt Go.RowKit Go.Joins
set_option linter.unusedVariables false
set_option linter.unusedSimpArgs false
set_option maxRecDepth 100000
set_option maxHeartbeats 40000000
theorem QaP {α:Type} (L:Lay α) {a:α} {j:Nat} {u:Value} (c:j < L.k):∀(l:List α) (i:Nat),i < l.length→L.cs a=(L.cs (l.getD i L.d)).set j u→(l.flatMap L.cs).set (i * L.k+j) u=(l.set i a).flatMap L.cs
 |[],i,h,_=> absurd h (Nat.not_lt_zero _)
 |x::l,0,_,e=> by
  have b:(L.cs x).length=L.k:=L.len x;rw [List.set_cons_zero,List.flatMap_cons,List.flatMap_cons,Nat.zero_mul,Nat.zero_add,List.set_append_left _ _ (by omega),e];rfl
 |x::l,i+1,h,e=> by
  have b:(L.cs x).length=L.k:=L.len x;have h2:=QaP L c l i (by simpa using h) e;rw [List.set_cons_succ,List.flatMap_cons,List.flatMap_cons,List.set_append_right _ _ (by rw [b,Nat.succ_mul];omega),←h2,b,show (i+1) * L.k+j - L.k=i * L.k+j by rw [Nat.succ_mul];omega]
structure BInv (k B R:Nat) (w0 wr:World) (m:List Sl) (g c:Nat):Prop where
 ln:1≤m.length∧m.length≤16
 cur:isCur k wr
 box:wr.heap[B]? =some (.cells #[.slice (some ⟨g,0,none⟩) m.length c] 32 (0,0))
 res:wr.heap[R]? =some (.cells #[.slice none 0 0] 32 (0,0))
 own:wr.ownsRow w0.heap.size 101 5 (.slice (some ⟨g,0,none⟩) m.length c) m.length (m.flatMap Q0g.cs)
 gr:w0.grownBy wr (some k)
theorem BInv.draw {k B R:Nat} {a wr x:World} {m:List Sl} {g c:Nat} (h:BInv k B R a wr m g c) (p:k < a.heap.size) (l:a.heap.size≤B) (n:a.heap.size≤R) (b:wr.grownBy x (some k)) (i:isCur k x):BInv k B R a x m g c:=by
 have d:=(Array.getElem?_eq_some_iff.1 h.box).1;have f:=(Array.getElem?_eq_some_iff.1 h.res).1;have j:=h.own.lt g rfl;exact ⟨h.ln,i,(b.block B d (by simp;omega)).trans h.box,(b.block R f (by simp;omega)).trans h.res,World.ownsRow.kept h.own b (.inr (by simp [Value.ownBlock];omega)),Q05 h.gr b⟩
theorem BInv.drawd {k B R:Nat} {b wr x:World} {m:List Sl} {g c:Nat} (h:BInv k B R b wr m g c) (j:k < b.heap.size) (d:b.heap.size≤B) (f:b.heap.size≤R) (a:wr.drew.grownBy x (some k)) (i:isCur k x):BInv k B R b x m g c:=
 h.draw j d f ⟨a.os,a.tape,a.output,a.size,a.block⟩ i
theorem BInv.grown {k B R:Nat} {b wr x:World} {m:List Sl} {g c:Nat} (h:BInv k B R b wr m g c) (d:k < b.heap.size) (f:b.heap.size≤B) (j:b.heap.size≤R) (a:Below wr.heap.size wr x):BInv k B R b x m g c:=
 h.draw d f j ⟨a.os,a.tape,a.output,a.size,fun i hi _=> a.block i hi⟩ (h.cur.below (a.mono (Kbq d h.gr.size)))
theorem BInv.apart {k B R:Nat} {f wr:World} {m:List Sl} {g c:Nat} (h:BInv k B R f wr m g c):g≠B∧g≠R:=by
 rcases h.own.2 with ⟨b,_⟩|⟨i,cap,d,b,_,a,_⟩
 ·cases b
 ·injection b with b _ _
  injection b with b;injection b with b _ _;subst b
  constructor
  ·intro e
   rw [e,h.box] at a;injection a with a;injection a with _ a _;exact absurd a (by decide)
  ·intro e
   rw [e,h.res] at a;injection a with a;injection a with _ a _;exact absurd a (by decide)
theorem BInv.store {k B R:Nat} {b wr:World} {m:List Sl} {g c i j:Nat} {u:Value} (h:BInv k B R b wr m g c) (w:k < b.heap.size) (y:b.heap.size≤B) (z:b.heap.size≤R) (v:j < 5) (hi:i < m.length) (s:Sl) (hs:Q0g.cs s=(Q0g.cs (m.getD i Q0g.d)).set j u):BInv k B R b (wr.setCell ⟨g,i * 5+j,none⟩ u) (m.set i s) g c:=by
 have l:=h.own.lt g rfl;obtain ⟨r,t⟩:=h.apart;have n:=Q4W wr g (i * 5+j) u;have a:Below b.heap.size wr (wr.setCell ⟨g,i * 5+j,none⟩ u):=n.below l.1 h.gr.size;have f:=QcY (j:=i * 5+j) (u:=u) h.own (World.grownBy.refl wr (some g));refine ⟨by rw [List.length_set];exact h.ln,h.cur.below (a.mono w), ?_, ?_, ?_, ?_⟩
 ·rw [List.length_set];exact (Below.heap_setCell wr ⟨g,i * 5+j,none⟩ u B (fun e=> r e.symm)).trans h.box
 ·exact (Below.heap_setCell wr ⟨g,i * 5+j,none⟩ u R (fun e=> t e.symm)).trans h.res
 ·rw [List.length_set,←QaP Q0g v m i hi hs];exact f.1
 ·exact ⟨a.os.trans h.gr.os,a.tape.trans h.gr.tape,a.output.trans h.gr.output,Kdq h.gr.size a.size,fun q p x=> (a.block q p).trans (h.gr.block q p x)⟩
theorem BInv.boxc {k B R:Nat} {w0 wr:World} {m:List Sl} {g c:Nat} (h:BInv k B R w0 wr m g c):wr.cell? ⟨B,0,none⟩=some (.slice (some ⟨g,0,none⟩) m.length c):=Q0m h.box 0 _ rfl
theorem BInv.resc {k B R:Nat} {w0 wr:World} {m:List Sl} {g c:Nat} (h:BInv k B R w0 wr m g c):wr.cell? ⟨R,0,none⟩=some (.slice none 0 0)∧wr.frozen? ⟨R,0,none⟩=false:=⟨Q0m h.res 0 _ rfl,Q2f h.res 0⟩
theorem BInv.row {k B R:Nat} {b wr:World} {m:List Sl} {g c:Nat} (h:BInv k B R b wr m g c) {i j:Nat} (hi:i < m.length) (d:j < 5):(∃u,wr.cell? ⟨g,i * 5+j,none⟩=some u)∧wr.frozen? ⟨g,i * 5+j,none⟩=false:=by
 have f:(m.flatMap Q0g.cs).length=m.length * 5:=by rw [Q0o];rfl
 have a:i * 5+j < m.length * 5:=by omega
 exact ⟨⟨_,(h.own.cellAt (i * 5+j) a).trans (List.getElem?_eq_getElem (by omega))⟩,h.own.frozenAt (i * 5+j)⟩
theorem BInv.done {k B:Nat} {w wr:World} {m:List Sl} {g c:Nat} (h:BInv k B w.heap.size w wr m g c) (r:k < w.heap.size):InTb w.heap.size (wr.setCell ⟨w.heap.size,0,none⟩ (.slice (some ⟨g,0,none⟩) m.length c)).heap.size (wr.setCell ⟨w.heap.size,0,none⟩ (.slice (some ⟨g,0,none⟩) m.length c)) (tab (.slice (some ⟨g,0,none⟩) m.length c)) m∧isCur k (wr.setCell ⟨w.heap.size,0,none⟩ (.slice (some ⟨g,0,none⟩) m.length c))∧w.grownBy (wr.setCell ⟨w.heap.size,0,none⟩ (.slice (some ⟨g,0,none⟩) m.length c)) (some k):=by
 obtain ⟨_,l⟩:=h.apart;have a:Below w.heap.size wr (wr.setCell ⟨w.heap.size,0,none⟩ (.slice (some ⟨g,0,none⟩) m.length c)):=((Below.refl _ _).mono h.gr.size).setCell (p:=⟨w.heap.size,0,none⟩) (Kaq _) _;refine ⟨⟨_,rfl,InRow.of ?_⟩,h.cur.below (a.mono r),a.os.trans h.gr.os,a.tape.trans h.gr.tape,a.output.trans h.gr.output,Kdq h.gr.size a.size,fun q f s=> (a.block q f).trans (h.gr.block q f s)⟩
 rcases h.own.2 with ⟨b,_⟩|⟨i,cap,d,b,h2,n,j⟩
 ·cases b
 ·refine ⟨h.own.1,.inr ⟨i,cap,d,b,h2, ?_,j⟩⟩
  injection b with b _ _;injection b with b;injection b with b _ _;subst b;exact (Below.heap_setCell wr ⟨w.heap.size,0,none⟩ _ g l).trans n
theorem BInv.doned {k B:Nat} {w wr:World} {m:List Sl} {g c:Nat} (h:BInv k B w.heap.size w wr m g c) (d:k < w.heap.size):InTb w.heap.size (wr.setCell ⟨w.heap.size,0,none⟩ (.slice (some ⟨g,0,none⟩) m.length c)).drew.heap.size (wr.setCell ⟨w.heap.size,0,none⟩ (.slice (some ⟨g,0,none⟩) m.length c)).drew (tab (.slice (some ⟨g,0,none⟩) m.length c)) m∧isCur k (wr.setCell ⟨w.heap.size,0,none⟩ (.slice (some ⟨g,0,none⟩) m.length c)).drew∧w.grownBy (wr.setCell ⟨w.heap.size,0,none⟩ (.slice (some ⟨g,0,none⟩) m.length c)).drew (some k):=by
 obtain ⟨b,h2,a⟩:=h.done d;exact ⟨b.step (Stp.of (lo:=0) (hi:=0) (Below.drew (Below.refl _ _))) (.inl (Kcq _)),h2.below (Below.drew (Below.refl _ _)),a.os,a.tape,a.output,a.size,a.block⟩
theorem Qiv (k g:Nat) (a b c:Int) (w:World) (j:isCur k w) (l:g < w.heap.size) (d:g≠k) (n:w.cell? ⟨g,0,none⟩=some (.int .i64 a)) (p:w.cell? ⟨g,1,none⟩=some (.int .i64 b)) (r:w.cell? ⟨g,2,none⟩=some (.int .i64 c)):
  Calls Tryz.prog 55 #[.pointer (some ⟨k,0,none⟩),.slice (some ⟨g,0,none⟩) 3 3] w fun e h=> ∃x:Int,e=.returned (.int .i64 x)∧isCur k h∧w.grownBy h (some k):=by
 refine (Q0P k g [a,b,c] w j l d (by simp) (by simp) ?_).mono ?_
 ·intro q m
  have f:q < 3:=m
  match q,f with
  |0,_=> exact n
  |1,_=> exact p
  |2,_=> exact r
 ·rintro e h ⟨q,_,rfl,i,h2⟩
  exact ⟨_,rfl,i,h2⟩
theorem Qfh {k B R:Nat} {n wr:World} {m:List Sl} {g c i:Nat} {f:Bool} {t l j st:Int} (w:m.getD i sl0=⟨f,t,l,j,st⟩) (h:BInv k B R n wr m g c) (s:k < n.heap.size) (q:n.heap.size≤B) (b:i < m.length) (a p:Int) (r:n.heap.size≤R:=by exact Kaq _):BInv k B R n ((wr.setCell ⟨g,i * 5+1,none⟩ (.int .i64 a)).setCell ⟨g,i * 5+2,none⟩ (.int .i64 p)) (m.set i ⟨f,a,p,j,st⟩) g c:=by
 have v:=h.store s q r (show 1 < 5 by decide) b ⟨f,a,l,j,st⟩ (u:=.int .i64 a) (by rw [show m.getD i Q0g.d=⟨f,t,l,j,st⟩ from w];rfl);have h2:=v.store s q r (show 2 < 5 by decide) (i:=i) (by rw [List.length_set];exact b) ⟨f,a,p,j,st⟩ (u:=.int .i64 p) (by rw [show (m.set i ⟨f,a,l,j,st⟩).getD i Q0g.d=⟨f,a,l,j,st⟩ from Q0Y m i _ b];rfl)
 rwa [List.set_set] at h2
theorem QiQ {k B R:Nat} {a wr:World} {m:List Sl} {g c i:Nat} {l:Bool} {f j p st:Int} (t:m.getD i sl0=⟨l,f,j,p,st⟩) (h:BInv k B R a wr m g c) (s:k < a.heap.size) (q:a.heap.size≤B) (n:i < m.length) (b:Int) (r:a.heap.size≤R:=by exact Kaq _):BInv k B R a (wr.setCell ⟨g,i * 5+3,none⟩ (.int .i64 b)) (m.set i ⟨l,f,j,b,st⟩) g c:=
 h.store s q r (show 3 < 5 by decide) n ⟨l,f,j,b,st⟩ (u:=.int .i64 b) (by rw [show m.getD i Q0g.d=⟨l,f,j,p,st⟩ from t];rfl)
theorem QiU {k B R:Nat} {a wr:World} {m:List Sl} {g c i:Nat} {l:Bool} {f j n st:Int} (t:m.getD i sl0=⟨l,f,j,n,st⟩) (h:BInv k B R a wr m g c) (s:k < a.heap.size) (q:a.heap.size≤B) (p:i < m.length) (b:Int) (r:a.heap.size≤R:=by exact Kaq _):BInv k B R a (wr.setCell ⟨g,i * 5+4,none⟩ (.int .i64 b)) (m.set i ⟨l,f,j,n,b⟩) g c:=
 h.store s q r (show 4 < 5 by decide) p ⟨l,f,j,n,b⟩ (u:=.int .i64 b) (by rw [show m.getD i Q0g.d=⟨l,f,j,n,st⟩ from t];rfl)
theorem QdE (k:Nat) (w:World) (hc:isCur k w) (l:k < w.heap.size):
  Calls Tryz.prog 83 #[.pointer (some ⟨k,0,none⟩)] w fun e w'=> ∃v' m,e=.returned v'∧(1≤m.length∧m.length≤16)∧InTb w.heap.size w'.heap.size w' v' m∧isCur k w'∧w.grownBy w' (some k):=by
 obtain ⟨W0,J⟩:∃W,w.alloc (.cells #[.slice none 0 0] 32)=W:=⟨_,rfl⟩;have af:=alb0v0v1 J
 have ak:w.grownBy W0 (some k):=by rw [←J];exact World.grownBy_alloc w _ _
 have ae:Hid _:=alx0v0v1 J;have aa:=alz0v0v1 J;have ac:=Q01 (hc.below (af.mono l));have ad:=Q01 ak;clear af ak hc;go_enter Tryz.func83,Tryz.ntmps83;go_wp2_with fail;refine (Qdn k W0 ac.out (by omega)).mono ?_;rintro e v1 ⟨vt,m,rfl,ao,⟨vl,rfl,L,_⟩,ag,M⟩;have Y:=(Q07.1 ao);have N:=Y.1;have O:=Y.2.1
 obtain ⟨g,cap,rfl⟩:∃g cap,vl=.slice (some ⟨g,0,none⟩) m.length cap:=by
  rcases L.2 with ⟨h1,h2⟩|⟨g,cap,av,h1,_⟩
  ·omega
  ·exact ⟨g,cap,h1⟩
 obtain ⟨W2,X⟩:∃W,v1.alloc (.cells #[.slice (some ⟨g,0,none⟩) m.length cap] 32)=W:=⟨_,rfl⟩;have t:=alb0v0v1 X;have au:=M.size
 have P:Hid (BInv k v1.heap.size w.heap.size w W2 m g cap):=by
  refine ⟨⟨N,O⟩,ag.below (t.mono (by omega)),by rw [←X];exact World.alloc_heap_new v1 _,(t.block _ (by omega)).trans ((M.block _ aa (by simp;omega)).trans ae.out),Q03 (Q04 L (Nat.le_of_lt aa)) t,Q05 (Q05 ad.out M) ⟨t.os,t.tape,t.output,t.size,fun i hi _=> t.block i hi⟩⟩
 have b:w.heap.size≤v1.heap.size:=by omega
 clear Y ao L ag M t ae ac ad J aa au;go_wp2_with fail;refine (Q1w k 7 W2 P.out.cur (by decide) (by decide)).mono ?_;rintro e v3 ⟨y,rfl,ah,al⟩;have C:=Q01 (P.out.draw l b (Kaq _) al ah);clear ah al P X;generalize v1.heap.size=B at *;have ct:=C.out.boxc
 cases y with
 |false=>
  have cr:=C.out.resc.1;have fr:=C.out.resc.2;have h:=Q01 (C.out.done l);go_wp2;refine bodyPost_ret (v:=tab (.slice (some ⟨g,0,none⟩) m.length cap)) (by simp [results,Tryz.results83,go_sem,cr]) rfl ⟨_,m,rfl,⟨N,O⟩,h.out.1,h.out.2.1,h.out.2.2⟩
 |true=>
  go_wp2_with fail;refine (Q0p k (m.length:Int) v3 C.out.cur (by omega) (by omega)).mono ?_;rintro e v4 ⟨iz,rfl,aw,ax,ai,am⟩;obtain ⟨i,rfl⟩:∃i:Nat,iz=i:=⟨iz.toNat,by omega⟩
  have c:i < m.length:=by omega
  have R:=Q01 (C.out.draw l b (Kaq _) am ai);clear ai am C ct;go_wp2_with fail;refine (Q0p k 4 v4 R.out.cur (by decide) (by decide)).mono ?_;rintro e n ⟨q,rfl,q0,q4,aj,an⟩;have p:=Q01 (R.out.draw l b (Kaq _) an aj);clear aj an R;have ct:=p.out.boxc;have aq:k < n.heap.size:=Kbq l p.out.gr.size;obtain ⟨s,ab⟩:∃s,m.getD i sl0=s:=⟨_,rfl⟩;have Z:=Qce p.out.own rfl i c;rw [ab] at Z;have e0:=Z.1;have f0:n.frozen? ⟨g,i * 5,none⟩=false:=(p.out.row c (show 0 < 5 by decide)).2;have HX:=Q01 ab;clear Z ab;obtain ⟨su,sa,sp,sv,st⟩:=s;simp only at e0
  have hq:q=0∨q=1∨q=2∨q=3:=by omega
  rcases hq with rfl|rfl|rfl|rfl
  ·obtain ⟨W6,G⟩:∃W,n.setCell ⟨g,i * 5,none⟩ (.bool (!su))=W:=⟨_,rfl⟩
   have a:Hid (BInv k B w.heap.size w W6 (m.set i ⟨!su,sa,sp,sv,st⟩) g cap):=by
    rw [←G];exact (p.out.store l b (Kaq _) (show 0 < 5 by decide) c ⟨!su,sa,sp,sv,st⟩ (u:=.bool (!su)) (by rw [show m.getD i Q0g.d=⟨su,sa,sp,sv,st⟩ from HX.out];rfl))
   have j:=Q01 (show (m.set i ⟨!su,sa,sp,sv,st⟩).length=m.length from List.length_set);have F:=a.out.boxc;rw [j.out] at F;have E:=a.out.resc.1;have V:=a.out.resc.2;have h:=Q01 (a.out.doned l);rw [j.out] at h;have T:=Q01 a.out.ln;clear a;go_wp2
   go_region
   all_goals (
    go_wp2
    refine bodyPost_ret (v:=tab (.slice (some ⟨g,0,none⟩) m.length cap)) (by simp [results,Tryz.results83,go_sem,E]) rfl ⟨_,_,rfl,T.out,h.out.1,h.out.2.1,h.out.2.2⟩)
  ·go_wp2
   go_region_with (first|(go_at_call 130;have x:=Q1T k n.drew (p.out.grown l b (Kaq _) (Below.drew (Below.refl _ _))).cur aq;with_reducible refine x.mono ?_;clear x;rintro e x0 ⟨fa,fp,rfl,ha,hp,z,A⟩;have r:=Q01 (p.out.drawd l b (Kaq _) A z);have k0:=r.out.boxc;obtain ⟨u1,c1⟩:=(r.out.row c (show 1 < 5 by decide)).1;have f1:=(r.out.row c (show 1 < 5 by decide)).2;obtain ⟨u2,c2⟩:=(r.out.row c (show 2 < 5 by decide)).1;have f2:=(r.out.row c (show 2 < 5 by decide)).2;have I:=Q01 (Qfh HX.out r.out l b c fa fp);obtain ⟨W6,G⟩:∃W,(x0.setCell ⟨g,i * 5+1,none⟩ (.int .i64 fa)).setCell ⟨g,i * 5+2,none⟩ (.int .i64 fp)=W:=⟨_,rfl⟩;rw [G] at I;have a:=I;have j:=Q01 (show (m.set i ⟨su,fa,fp,sv,st⟩).length=m.length from List.length_set);have F:=a.out.boxc;rw [j.out] at F;have E:=a.out.resc.1;have V:=a.out.resc.2;have h:=Q01 (a.out.done l);rw [j.out] at h;have T:=Q01 a.out.ln;clear z A I a r))
   all_goals (
    go_wp2
    refine bodyPost_ret (v:=tab (.slice (some ⟨g,0,none⟩) m.length cap)) (by simp [results,Tryz.results83,go_sem,E]) rfl ⟨_,_,rfl,T.out,h.out.1,h.out.2.1,h.out.2.2⟩)
  ·obtain ⟨H,f⟩:∃W,n.alloc (.cells #[.int .i64 (-1),.int .i64 100001,.int .i64 1] 3)=W:=⟨_,rfl⟩
   have D:Hid (BInv k B w.heap.size w H m g cap):=by rw [←f];exact p.out.grown l b (Kaq _) ((Below.refl _ _).alloc (Kaq _) _)
   have p0:H.drew.cell? ⟨n.heap.size,0,none⟩=some (.int .i64 (-1)):=by rw [←f];simp [go_sem]
   have p1:H.drew.cell? ⟨n.heap.size,1,none⟩=some (.int .i64 100001):=by rw [←f];simp [go_sem]
   have p2:H.drew.cell? ⟨n.heap.size,2,none⟩=some (.int .i64 1):=by rw [←f];simp [go_sem]
   have U:=Q01 (Qiv k n.heap.size (-1) 100001 1 H.drew (D.out.grown l b (Kaq _) (Below.drew (Below.refl _ _))).cur (by rw [←f];show n.heap.size < (n.alloc _).heap.size;simp) (by omega) p0 p1 p2);clear p0 p1 p2
   have ar:n.heap.size < H.heap.size:=by rw [←f];simp
   have ap:=D.out.boxc;go_wp2
   go_region_with (first|(go_at_call 55;have x:=U.out;with_reducible refine x.mono ?_;clear x;rintro e x0 ⟨pv,rfl,z,A⟩;have r:=Q01 (D.out.drawd l b (Kaq _) A z);have k0:=r.out.boxc;obtain ⟨u1,c1⟩:=(r.out.row c (show 3 < 5 by decide)).1;have f1:=(r.out.row c (show 3 < 5 by decide)).2;have I:=Q01 (QiQ HX.out r.out l b c pv);obtain ⟨W6,G⟩:∃W,x0.setCell ⟨g,i * 5+3,none⟩ (.int .i64 pv)=W:=⟨_,rfl⟩;rw [G] at I;have a:=I;have j:=Q01 (show (m.set i ⟨su,sa,sp,pv,st⟩).length=m.length from List.length_set);have F:=a.out.boxc;rw [j.out] at F;have E:=a.out.resc.1;have V:=a.out.resc.2;have h:=Q01 (a.out.done l);rw [j.out] at h;have T:=Q01 a.out.ln;clear z A I a r))
   all_goals (
    go_wp2
    refine bodyPost_ret (v:=tab (.slice (some ⟨g,0,none⟩) m.length cap)) (by simp [results,Tryz.results83,go_sem,E]) rfl ⟨_,_,rfl,T.out,h.out.1,h.out.2.1,h.out.2.2⟩)
  ·obtain ⟨H,f⟩:∃W,n.alloc (.cells #[.int .i64 (-1),.int .i64 200001,.int .i64 1] 3)=W:=⟨_,rfl⟩
   have D:Hid (BInv k B w.heap.size w H m g cap):=by rw [←f];exact p.out.grown l b (Kaq _) ((Below.refl _ _).alloc (Kaq _) _)
   have p0:H.drew.cell? ⟨n.heap.size,0,none⟩=some (.int .i64 (-1)):=by rw [←f];simp [go_sem]
   have p1:H.drew.cell? ⟨n.heap.size,1,none⟩=some (.int .i64 200001):=by rw [←f];simp [go_sem]
   have p2:H.drew.cell? ⟨n.heap.size,2,none⟩=some (.int .i64 1):=by rw [←f];simp [go_sem]
   have U:=Q01 (Qiv k n.heap.size (-1) 200001 1 H.drew (D.out.grown l b (Kaq _) (Below.drew (Below.refl _ _))).cur (by rw [←f];show n.heap.size < (n.alloc _).heap.size;simp) (by omega) p0 p1 p2);clear p0 p1 p2
   have ar:n.heap.size < H.heap.size:=by rw [←f];simp
   have ap:=D.out.boxc;go_wp2
   go_region_with (first|(go_at_call 55;have x:=U.out;with_reducible refine x.mono ?_;clear x;rintro e x0 ⟨pv,rfl,z,A⟩;have r:=Q01 (D.out.drawd l b (Kaq _) A z);have k0:=r.out.boxc;obtain ⟨u1,c1⟩:=(r.out.row c (show 4 < 5 by decide)).1;have f1:=(r.out.row c (show 4 < 5 by decide)).2;have I:=Q01 (QiU HX.out r.out l b c pv);obtain ⟨W6,G⟩:∃W,x0.setCell ⟨g,i * 5+4,none⟩ (.int .i64 pv)=W:=⟨_,rfl⟩;rw [G] at I;have a:=I;have j:=Q01 (show (m.set i ⟨su,sa,sp,sv,pv⟩).length=m.length from List.length_set);have F:=a.out.boxc;rw [j.out] at F;have E:=a.out.resc.1;have V:=a.out.resc.2;have h:=Q01 (a.out.done l);rw [j.out] at h;have T:=Q01 a.out.ln;clear z A I a r))
   all_goals (
    go_wp2
    refine bodyPost_ret (v:=tab (.slice (some ⟨g,0,none⟩) m.length cap)) (by simp [results,Tryz.results83,go_sem,E]) rfl ⟨_,_,rfl,T.out,h.out.1,h.out.2.1,h.out.2.2⟩)
end Go.Proofs.YtpneolgdghbinaaGreat
