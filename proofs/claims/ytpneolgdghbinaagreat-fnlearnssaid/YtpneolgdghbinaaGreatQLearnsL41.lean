/- A drawn table that is bent. -/
import Derived.Test.YtpneolgdghbinaaGreatQLearnsL37
namespace Go.Proofs.YtpneolgdghbinaaGreat
open Go.ChangeShapes Go.WideShapes Go.ChangeAt Go.RowKit Go.Joins
set_option linter.unusedVariables false
set_option linter.unusedSimpArgs false
set_option maxRecDepth 100000
set_option maxHeartbeats 40000000
theorem QaK {α:Type} (L:Lay α) {a:α} {j:Nat} {u:Value} (c:j < L.k):∀(l:List α) (i:Nat),i < l.length→L.cs a=(L.cs (l.getD i L.d)).set j u→(l.flatMap L.cs).set (i * L.k+j) u=(l.set i a).flatMap L.cs
 |[],i,h,_=> absurd h (Nat.not_lt_zero _)
 |x::l,0,_,e=> by
  have b:(L.cs x).length=L.k:=L.len x;rw [List.set_cons_zero,List.flatMap_cons,List.flatMap_cons,Nat.zero_mul,Nat.zero_add,List.set_append_left _ _ (by omega),e];rfl
 |x::l,i+1,h,e=> by
  have b:(L.cs x).length=L.k:=L.len x;have h2:=QaK L c l i (by simpa using h) e;rw [List.set_cons_succ,List.flatMap_cons,List.flatMap_cons,List.set_append_right _ _ (by rw [b,Nat.succ_mul];omega),←h2,b,show (i+1) * L.k+j - L.k=i * L.k+j by rw [Nat.succ_mul];omega]
structure BInv (k B R:Nat) (w0 wr:World) (m:List Sl) (g c:Nat):Prop where
 ln:1≤m.length∧m.length≤16
 cur:isCur k wr
 box:wr.heap[B]? =some (.cells #[.slice (some ⟨g,0,none⟩) m.length c] 32 (0,0))
 res:wr.heap[R]? =some (.cells #[.slice none 0 0] 32 (0,0))
 own:wr.ownsRow w0.heap.size 101 5 (.slice (some ⟨g,0,none⟩) m.length c) m.length (m.flatMap Q0g.cs)
 gr:w0.grownBy wr (some k)
theorem BInv.draw {k B R:Nat} {a wr x:World} {m:List Sl} {g c:Nat} (h:BInv k B R a wr m g c) (p:k < a.heap.size) (l:a.heap.size≤B) (n:a.heap.size≤R) (b:wr.grownBy x (some k)) (j:isCur k x):BInv k B R a x m g c:=by
 have f:=(Array.getElem?_eq_some_iff.1 h.box).1;have d:=(Array.getElem?_eq_some_iff.1 h.res).1;have i:=h.own.lt g rfl;exact ⟨h.ln,j,(b.block B f (by simp;omega)).trans h.box,(b.block R d (by simp;omega)).trans h.res,World.ownsRow.kept h.own b (.inr (by simp [Value.ownBlock];omega)),Q05 h.gr b⟩
theorem BInv.drawd {k B R:Nat} {a wr x:World} {m:List Sl} {g c:Nat} (h:BInv k B R a wr m g c) (i:k < a.heap.size) (d:a.heap.size≤B) (f:a.heap.size≤R) (b:wr.drew.grownBy x (some k)) (j:isCur k x):BInv k B R a x m g c:=
 h.draw i d f ⟨b.os,b.tape,b.output,b.size,b.block⟩ j
theorem BInv.grown {k B R:Nat} {b wr x:World} {m:List Sl} {g c:Nat} (h:BInv k B R b wr m g c) (d:k < b.heap.size) (f:b.heap.size≤B) (j:b.heap.size≤R) (a:Below wr.heap.size wr x):BInv k B R b x m g c:=
 h.draw d f j ⟨a.os,a.tape,a.output,a.size,fun i hi _=> a.block i hi⟩ (h.cur.below (a.mono (Kbq d h.gr.size)))
theorem BInv.apart {k B R:Nat} {d wr:World} {m:List Sl} {g c:Nat} (h:BInv k B R d wr m g c):g≠B∧g≠R:=by
 rcases h.own.2 with ⟨b,_⟩|⟨i,cap,f,b,_,a,_⟩
 ·cases b
 ·injection b with b _ _
  injection b with b;injection b with b _ _;subst b
  constructor
  ·intro e
   rw [e,h.box] at a;injection a with a;injection a with _ a _;exact absurd a (by decide)
  ·intro e
   rw [e,h.res] at a;injection a with a;injection a with _ a _;exact absurd a (by decide)
theorem BInv.store {k B R:Nat} {b wr:World} {m:List Sl} {g c i j:Nat} {u:Value} (h:BInv k B R b wr m g c) (x:k < b.heap.size) (y:b.heap.size≤B) (z:b.heap.size≤R) (v:j < 5) (hi:i < m.length) (s:Sl) (hs:Q0g.cs s=(Q0g.cs (m.getD i Q0g.d)).set j u):BInv k B R b (wr.setCell ⟨g,i * 5+j,none⟩ u) (m.set i s) g c:=by
 have f:=h.own.lt g rfl;obtain ⟨r,w⟩:=h.apart;have l:=Q4T wr g (i * 5+j) u;have a:Below b.heap.size wr (wr.setCell ⟨g,i * 5+j,none⟩ u):=l.below f.1 h.gr.size;have n:=QcV (j:=i * 5+j) (u:=u) h.own (World.grownBy.refl wr (some g));refine ⟨by rw [List.length_set];exact h.ln,h.cur.below (a.mono x), ?_, ?_, ?_, ?_⟩
 ·rw [List.length_set];exact (Below.heap_setCell wr ⟨g,i * 5+j,none⟩ u B (fun e=> r e.symm)).trans h.box
 ·exact (Below.heap_setCell wr ⟨g,i * 5+j,none⟩ u R (fun e=> w e.symm)).trans h.res
 ·rw [List.length_set,←QaK Q0g v m i hi hs];exact n.1
 ·exact ⟨a.os.trans h.gr.os,a.tape.trans h.gr.tape,a.output.trans h.gr.output,Kdq h.gr.size a.size,fun q p t=> (a.block q p).trans (h.gr.block q p t)⟩
theorem BInv.boxc {k B R:Nat} {w0 wr:World} {m:List Sl} {g c:Nat} (h:BInv k B R w0 wr m g c):wr.cell? ⟨B,0,none⟩=some (.slice (some ⟨g,0,none⟩) m.length c):=Q0m h.box 0 _ rfl
theorem BInv.resc {k B R:Nat} {w0 wr:World} {m:List Sl} {g c:Nat} (h:BInv k B R w0 wr m g c):wr.cell? ⟨R,0,none⟩=some (.slice none 0 0)∧wr.frozen? ⟨R,0,none⟩=false:=⟨Q0m h.res 0 _ rfl,Q24 h.res 0⟩
theorem BInv.row {k B R:Nat} {b wr:World} {m:List Sl} {g c:Nat} (h:BInv k B R b wr m g c) {i j:Nat} (hi:i < m.length) (d:j < 5):(∃u,wr.cell? ⟨g,i * 5+j,none⟩=some u)∧wr.frozen? ⟨g,i * 5+j,none⟩=false:=by
 have f:(m.flatMap Q0g.cs).length=m.length * 5:=by rw [Q0n];rfl
 have a:i * 5+j < m.length * 5:=by omega
 exact ⟨⟨_,(h.own.cellAt (i * 5+j) a).trans (List.getElem?_eq_getElem (by omega))⟩,h.own.frozenAt (i * 5+j)⟩
theorem BInv.done {k B:Nat} {w wr:World} {m:List Sl} {g c:Nat} (h:BInv k B w.heap.size w wr m g c) (r:k < w.heap.size):InTb w.heap.size (wr.setCell ⟨w.heap.size,0,none⟩ (.slice (some ⟨g,0,none⟩) m.length c)).heap.size (wr.setCell ⟨w.heap.size,0,none⟩ (.slice (some ⟨g,0,none⟩) m.length c)) (tab (.slice (some ⟨g,0,none⟩) m.length c)) m∧isCur k (wr.setCell ⟨w.heap.size,0,none⟩ (.slice (some ⟨g,0,none⟩) m.length c))∧w.grownBy (wr.setCell ⟨w.heap.size,0,none⟩ (.slice (some ⟨g,0,none⟩) m.length c)) (some k):=by
 obtain ⟨_,n⟩:=h.apart;have a:Below w.heap.size wr (wr.setCell ⟨w.heap.size,0,none⟩ (.slice (some ⟨g,0,none⟩) m.length c)):=((Below.refl _ _).mono h.gr.size).setCell (p:=⟨w.heap.size,0,none⟩) (Kaq _) _;refine ⟨⟨_,rfl,InRow.of ?_⟩,h.cur.below (a.mono r),a.os.trans h.gr.os,a.tape.trans h.gr.tape,a.output.trans h.gr.output,Kdq h.gr.size a.size,fun q f l=> (a.block q f).trans (h.gr.block q f l)⟩
 rcases h.own.2 with ⟨b,_⟩|⟨i,cap,d,b,h2,s,j⟩
 ·cases b
 ·refine ⟨h.own.1,.inr ⟨i,cap,d,b,h2, ?_,j⟩⟩
  injection b with b _ _;injection b with b;injection b with b _ _;subst b;exact (Below.heap_setCell wr ⟨w.heap.size,0,none⟩ _ g n).trans s
theorem BInv.doned {k B:Nat} {w wr:World} {m:List Sl} {g c:Nat} (h:BInv k B w.heap.size w wr m g c) (b:k < w.heap.size):InTb w.heap.size (wr.setCell ⟨w.heap.size,0,none⟩ (.slice (some ⟨g,0,none⟩) m.length c)).drew.heap.size (wr.setCell ⟨w.heap.size,0,none⟩ (.slice (some ⟨g,0,none⟩) m.length c)).drew (tab (.slice (some ⟨g,0,none⟩) m.length c)) m∧isCur k (wr.setCell ⟨w.heap.size,0,none⟩ (.slice (some ⟨g,0,none⟩) m.length c)).drew∧w.grownBy (wr.setCell ⟨w.heap.size,0,none⟩ (.slice (some ⟨g,0,none⟩) m.length c)).drew (some k):=by
 obtain ⟨d,h2,a⟩:=h.done b;exact ⟨d.step (Stp.of (lo:=0) (hi:=0) (Below.drew (Below.refl _ _))) (.inl (Kcq _)),h2.below (Below.drew (Below.refl _ _)),a.os,a.tape,a.output,a.size,a.block⟩
theorem QiE (k g:Nat) (a b c:Int) (w:World) (p:isCur k w) (r:g < w.heap.size) (d:g≠k) (i:w.cell? ⟨g,0,none⟩=some (.int .i64 a)) (l:w.cell? ⟨g,1,none⟩=some (.int .i64 b)) (m:w.cell? ⟨g,2,none⟩=some (.int .i64 c)):
  Calls Tryz.prog 55 #[.pointer (some ⟨k,0,none⟩),.slice (some ⟨g,0,none⟩) 3 3] w fun e h=> ∃x:Int,e=.returned (.int .i64 x)∧isCur k h∧w.grownBy h (some k):=by
 refine (Q0P k g [a,b,c] w p r d (by simp) (by simp) ?_).mono ?_
 ·intro q n
  have f:q < 3:=n
  match q,f with
  |0,_=> exact i
  |1,_=> exact l
  |2,_=> exact m
 ·rintro e h ⟨q,_,rfl,j,h2⟩
  exact ⟨_,rfl,j,h2⟩
theorem Qf4 {k B R:Nat} {l wr:World} {m:List Sl} {g c i:Nat} {a:Bool} {q n f st:Int} (v:m.getD i sl0=⟨a,q,n,f,st⟩) (h:BInv k B R l wr m g c) (t:k < l.heap.size) (r:l.heap.size≤B) (b:i < m.length) (j p:Int) (s:l.heap.size≤R:=by exact Kaq _):BInv k B R l ((wr.setCell ⟨g,i * 5+1,none⟩ (.int .i64 j)).setCell ⟨g,i * 5+2,none⟩ (.int .i64 p)) (m.set i ⟨a,j,p,f,st⟩) g c:=by
 have w:=h.store t r s (show 1 < 5 by decide) b ⟨a,j,n,f,st⟩ (u:=.int .i64 j) (by rw [show m.getD i Q0g.d=⟨a,q,n,f,st⟩ from v];rfl);have h2:=w.store t r s (show 2 < 5 by decide) (i:=i) (by rw [List.length_set];exact b) ⟨a,j,p,f,st⟩ (u:=.int .i64 p) (by rw [show (m.set i ⟨a,j,n,f,st⟩).getD i Q0g.d=⟨a,j,n,f,st⟩ from Q0Y m i _ b];rfl)
 rwa [List.set_set] at h2
theorem QiF {k B R:Nat} {a wr:World} {m:List Sl} {g c i:Nat} {b:Bool} {j f p st:Int} (r:m.getD i sl0=⟨b,j,f,p,st⟩) (h:BInv k B R a wr m g c) (t:k < a.heap.size) (q:a.heap.size≤B) (n:i < m.length) (l:Int) (s:a.heap.size≤R:=by exact Kaq _):BInv k B R a (wr.setCell ⟨g,i * 5+3,none⟩ (.int .i64 l)) (m.set i ⟨b,j,f,l,st⟩) g c:=
 h.store t q s (show 3 < 5 by decide) n ⟨b,j,f,l,st⟩ (u:=.int .i64 l) (by rw [show m.getD i Q0g.d=⟨b,j,f,p,st⟩ from r];rfl)
theorem QiA {k B R:Nat} {a wr:World} {m:List Sl} {g c i:Nat} {b:Bool} {j f l st:Int} (r:m.getD i sl0=⟨b,j,f,l,st⟩) (h:BInv k B R a wr m g c) (t:k < a.heap.size) (q:a.heap.size≤B) (p:i < m.length) (n:Int) (s:a.heap.size≤R:=by exact Kaq _):BInv k B R a (wr.setCell ⟨g,i * 5+4,none⟩ (.int .i64 n)) (m.set i ⟨b,j,f,l,n⟩) g c:=
 h.store t q s (show 4 < 5 by decide) p ⟨b,j,f,l,n⟩ (u:=.int .i64 n) (by rw [show m.getD i Q0g.d=⟨b,j,f,l,st⟩ from r];rfl)
theorem Qdx (k:Nat) (w:World) (hc:isCur k w) (l:k < w.heap.size):
  Calls Tryz.prog 83 #[.pointer (some ⟨k,0,none⟩)] w fun e w'=> ∃v' m,e=.returned v'∧(1≤m.length∧m.length≤16)∧InTb w.heap.size w'.heap.size w' v' m∧isCur k w'∧w.grownBy w' (some k):=by
 obtain ⟨W0,J⟩:∃W,w.alloc (.cells #[.slice none 0 0] 32)=W:=⟨_,rfl⟩;have ap:=alb0v0v1 J
 have ai:w.grownBy W0 (some k):=by rw [←J];exact World.grownBy_alloc w _ _
 have ak:Hid _:=alx0v0v1 J;have Z:=alz0v0v1 J;have ad:=Q01 (hc.below (ap.mono l));have am:=Q01 ai;clear ap ai hc;go_enter Tryz.func83,Tryz.ntmps83;go_wp2_with fail;refine (Qdi k W0 ad.out (by omega)).mono ?_;rintro e v1 ⟨vt,m,rfl,ah,⟨vl,rfl,L,_⟩,ag,M⟩;have P:=(Q07.1 ah);have O:=P.1;have N:=P.2.1
 obtain ⟨g,cap,rfl⟩:∃g cap,vl=.slice (some ⟨g,0,none⟩) m.length cap:=by
  rcases L.2 with ⟨h1,h2⟩|⟨g,cap,aw,h1,_⟩
  ·omega
  ·exact ⟨g,cap,h1⟩
 obtain ⟨W2,aa⟩:∃W,v1.alloc (.cells #[.slice (some ⟨g,0,none⟩) m.length cap] 32)=W:=⟨_,rfl⟩;have t:=alb0v0v1 aa;have aq:=M.size
 have R:Hid (BInv k v1.heap.size w.heap.size w W2 m g cap):=by
  refine ⟨⟨O,N⟩,ag.below (t.mono (by omega)),by rw [←aa];exact World.alloc_heap_new v1 _,(t.block _ (by omega)).trans ((M.block _ Z (by simp;omega)).trans ak.out),Q03 (Q04 L (Nat.le_of_lt Z)) t,Q05 (Q05 am.out M) ⟨t.os,t.tape,t.output,t.size,fun i hi _=> t.block i hi⟩⟩
 have b:w.heap.size≤v1.heap.size:=by omega
 clear P ah L ag M t ak ad am J Z aq;go_wp2_with fail;refine (Q1v k 7 W2 R.out.cur (by decide) (by decide)).mono ?_;rintro e v3 ⟨y,rfl,al,ao⟩;have F:=Q01 (R.out.draw l b (Kaq _) ao al);clear al ao R aa;generalize v1.heap.size=B at *;have ct:=F.out.boxc
 cases y with
 |false=>
  have cr:=F.out.resc.1;have fr:=F.out.resc.2;have h:=Q01 (F.out.done l);go_wp2;refine bodyPost_ret (v:=tab (.slice (some ⟨g,0,none⟩) m.length cap)) (by simp [results,Tryz.results83,go_sem,cr]) rfl ⟨_,m,rfl,⟨O,N⟩,h.out.1,h.out.2.1,h.out.2.2⟩
 |true=>
  go_wp2_with fail;refine (Q0p k (m.length:Int) v3 F.out.cur (by omega) (by omega)).mono ?_;rintro e v4 ⟨iz,rfl,ax,ay,aj,af⟩;obtain ⟨i,rfl⟩:∃i:Nat,iz=i:=⟨iz.toNat,by omega⟩
  have c:i < m.length:=by omega
  have ab:=Q01 (F.out.draw l b (Kaq _) af aj);clear aj af F ct;go_wp2_with fail;refine (Q0p k 4 v4 ab.out.cur (by decide) (by decide)).mono ?_;rintro e n ⟨q,rfl,q0,q4,ae,an⟩;have p:=Q01 (ab.out.draw l b (Kaq _) an ae);clear ae an ab;have ct:=p.out.boxc;have ar:k < n.heap.size:=Kbq l p.out.gr.size;obtain ⟨s,ac⟩:∃s,m.getD i sl0=s:=⟨_,rfl⟩;have V:=Qcm p.out.own rfl i c;rw [ac] at V;have e0:=V.1;have f0:n.frozen? ⟨g,i * 5,none⟩=false:=(p.out.row c (show 0 < 5 by decide)).2;have HX:=Q01 ac;clear V ac;obtain ⟨su,sa,sp,sv,st⟩:=s;simp only at e0
  have hq:q=0∨q=1∨q=2∨q=3:=by omega
  rcases hq with rfl|rfl|rfl|rfl
  ·obtain ⟨W6,D⟩:∃W,n.setCell ⟨g,i * 5,none⟩ (.bool (!su))=W:=⟨_,rfl⟩
   have a:Hid (BInv k B w.heap.size w W6 (m.set i ⟨!su,sa,sp,sv,st⟩) g cap):=by
    rw [←D];exact (p.out.store l b (Kaq _) (show 0 < 5 by decide) c ⟨!su,sa,sp,sv,st⟩ (u:=.bool (!su)) (by rw [show m.getD i Q0g.d=⟨su,sa,sp,sv,st⟩ from HX.out];rfl))
   have j:=Q01 (show (m.set i ⟨!su,sa,sp,sv,st⟩).length=m.length from List.length_set);have C:=a.out.boxc;rw [j.out] at C;have E:=a.out.resc.1;have U:=a.out.resc.2;have h:=Q01 (a.out.doned l);rw [j.out] at h;have X:=Q01 a.out.ln;clear a;go_wp2
   go_region
   all_goals (
    go_wp2
    refine bodyPost_ret (v:=tab (.slice (some ⟨g,0,none⟩) m.length cap)) (by simp [results,Tryz.results83,go_sem,E]) rfl ⟨_,_,rfl,X.out,h.out.1,h.out.2.1,h.out.2.2⟩)
  ·go_wp2
   go_region_with (first|(go_at_call 130;have z:=Q1U k n.drew (p.out.grown l b (Kaq _) (Below.drew (Below.refl _ _))).cur ar;with_reducible refine z.mono ?_;clear z;rintro e x0 ⟨fa,fp,rfl,ha,hp,A,x⟩;have r:=Q01 (p.out.drawd l b (Kaq _) x A);have k0:=r.out.boxc;obtain ⟨u1,c1⟩:=(r.out.row c (show 1 < 5 by decide)).1;have f1:=(r.out.row c (show 1 < 5 by decide)).2;obtain ⟨u2,c2⟩:=(r.out.row c (show 2 < 5 by decide)).1;have f2:=(r.out.row c (show 2 < 5 by decide)).2;have I:=Q01 (Qf4 HX.out r.out l b c fa fp);obtain ⟨W6,D⟩:∃W,(x0.setCell ⟨g,i * 5+1,none⟩ (.int .i64 fa)).setCell ⟨g,i * 5+2,none⟩ (.int .i64 fp)=W:=⟨_,rfl⟩;rw [D] at I;have a:=I;have j:=Q01 (show (m.set i ⟨su,fa,fp,sv,st⟩).length=m.length from List.length_set);have C:=a.out.boxc;rw [j.out] at C;have E:=a.out.resc.1;have U:=a.out.resc.2;have h:=Q01 (a.out.done l);rw [j.out] at h;have X:=Q01 a.out.ln;clear A x I a r))
   all_goals (
    go_wp2
    refine bodyPost_ret (v:=tab (.slice (some ⟨g,0,none⟩) m.length cap)) (by simp [results,Tryz.results83,go_sem,E]) rfl ⟨_,_,rfl,X.out,h.out.1,h.out.2.1,h.out.2.2⟩)
  ·obtain ⟨H,f⟩:∃W,n.alloc (.cells #[.int .i64 (-1),.int .i64 100001,.int .i64 1] 3)=W:=⟨_,rfl⟩
   have G:Hid (BInv k B w.heap.size w H m g cap):=by rw [←f];exact p.out.grown l b (Kaq _) ((Below.refl _ _).alloc (Kaq _) _)
   have p0:H.drew.cell? ⟨n.heap.size,0,none⟩=some (.int .i64 (-1)):=by rw [←f];simp [go_sem]
   have p1:H.drew.cell? ⟨n.heap.size,1,none⟩=some (.int .i64 100001):=by rw [←f];simp [go_sem]
   have p2:H.drew.cell? ⟨n.heap.size,2,none⟩=some (.int .i64 1):=by rw [←f];simp [go_sem]
   have T:=Q01 (QiE k n.heap.size (-1) 100001 1 H.drew (G.out.grown l b (Kaq _) (Below.drew (Below.refl _ _))).cur (by rw [←f];show n.heap.size < (n.alloc _).heap.size;simp) (by omega) p0 p1 p2);clear p0 p1 p2
   have av:n.heap.size < H.heap.size:=by rw [←f];simp
   have au:=G.out.boxc;go_wp2
   go_region_with (first|(go_at_call 55;have z:=T.out;with_reducible refine z.mono ?_;clear z;rintro e x0 ⟨Y,rfl,A,x⟩;have r:=Q01 (G.out.drawd l b (Kaq _) x A);have k0:=r.out.boxc;obtain ⟨u1,c1⟩:=(r.out.row c (show 3 < 5 by decide)).1;have f1:=(r.out.row c (show 3 < 5 by decide)).2;have I:=Q01 (QiF HX.out r.out l b c Y);obtain ⟨W6,D⟩:∃W,x0.setCell ⟨g,i * 5+3,none⟩ (.int .i64 Y)=W:=⟨_,rfl⟩;rw [D] at I;have a:=I;have j:=Q01 (show (m.set i ⟨su,sa,sp,Y,st⟩).length=m.length from List.length_set);have C:=a.out.boxc;rw [j.out] at C;have E:=a.out.resc.1;have U:=a.out.resc.2;have h:=Q01 (a.out.done l);rw [j.out] at h;have X:=Q01 a.out.ln;clear A x I a r))
   all_goals (
    go_wp2
    refine bodyPost_ret (v:=tab (.slice (some ⟨g,0,none⟩) m.length cap)) (by simp [results,Tryz.results83,go_sem,E]) rfl ⟨_,_,rfl,X.out,h.out.1,h.out.2.1,h.out.2.2⟩)
  ·obtain ⟨H,f⟩:∃W,n.alloc (.cells #[.int .i64 (-1),.int .i64 200001,.int .i64 1] 3)=W:=⟨_,rfl⟩
   have G:Hid (BInv k B w.heap.size w H m g cap):=by rw [←f];exact p.out.grown l b (Kaq _) ((Below.refl _ _).alloc (Kaq _) _)
   have p0:H.drew.cell? ⟨n.heap.size,0,none⟩=some (.int .i64 (-1)):=by rw [←f];simp [go_sem]
   have p1:H.drew.cell? ⟨n.heap.size,1,none⟩=some (.int .i64 200001):=by rw [←f];simp [go_sem]
   have p2:H.drew.cell? ⟨n.heap.size,2,none⟩=some (.int .i64 1):=by rw [←f];simp [go_sem]
   have T:=Q01 (QiE k n.heap.size (-1) 200001 1 H.drew (G.out.grown l b (Kaq _) (Below.drew (Below.refl _ _))).cur (by rw [←f];show n.heap.size < (n.alloc _).heap.size;simp) (by omega) p0 p1 p2);clear p0 p1 p2
   have av:n.heap.size < H.heap.size:=by rw [←f];simp
   have au:=G.out.boxc;go_wp2
   go_region_with (first|(go_at_call 55;have z:=T.out;with_reducible refine z.mono ?_;clear z;rintro e x0 ⟨Y,rfl,A,x⟩;have r:=Q01 (G.out.drawd l b (Kaq _) x A);have k0:=r.out.boxc;obtain ⟨u1,c1⟩:=(r.out.row c (show 4 < 5 by decide)).1;have f1:=(r.out.row c (show 4 < 5 by decide)).2;have I:=Q01 (QiA HX.out r.out l b c Y);obtain ⟨W6,D⟩:∃W,x0.setCell ⟨g,i * 5+4,none⟩ (.int .i64 Y)=W:=⟨_,rfl⟩;rw [D] at I;have a:=I;have j:=Q01 (show (m.set i ⟨su,sa,sp,sv,Y⟩).length=m.length from List.length_set);have C:=a.out.boxc;rw [j.out] at C;have E:=a.out.resc.1;have U:=a.out.resc.2;have h:=Q01 (a.out.done l);rw [j.out] at h;have X:=Q01 a.out.ln;clear A x I a r))
   all_goals (
    go_wp2
    refine bodyPost_ret (v:=tab (.slice (some ⟨g,0,none⟩) m.length cap)) (by simp [results,Tryz.results83,go_sem,E]) rfl ⟨_,_,rfl,X.out,h.out.1,h.out.2.1,h.out.2.2⟩)
end Go.Proofs.YtpneolgdghbinaaGreat
