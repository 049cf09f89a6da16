/- Several texts in one: SPlain, SGet, Cut5, SPut, SPut2, DropMath, WayMath, WayMath2, DueMath, PutMath, DropElse. -/
import Derived.Test.YtpneolgdghbinaaGreatQLearnsL29
namespace Go.Proofs.YtpneolgdghbinaaGreat
open Go.ChangeShapes Go.WideShapes Go.ChangeAt Go.RowKit Go.Joins
set_option linter.unusedVariables false
set_option linter.unusedSimpArgs false
set_option maxRecDepth 100000
set_option maxHeartbeats 40000000
theorem Q50 (b off c:Nat) (l:List Sl) (w:World) (I:b < w.heap.size) (hc:∀i,i < l.length→∀j,j < Q0g.k→w.cell? ⟨b,off+i * Q0g.k+j,none⟩=(Q0g.cs (l.getD i Q0g.d))[j]?) (hl:l.length≤1048576):
  Calls Tryz.prog 112 #[tab (.slice (some ⟨b,off,none⟩) l.length c)] w fun e w'=> ∃g,e=.returned (tab (.slice (some ⟨g,0,none⟩) l.length l.length))∧Qgq w' w.heap.size (.slice (some ⟨g,0,none⟩) l.length l.length) l∧Below w.heap.size w w':=by
 obtain ⟨i0,hi,ao,ah,ap⟩:=info_parts Q72;have HC:=Q01 hc;clear hc;obtain ⟨m,y⟩:∃W,((w.alloc (.cells #[.slice (some ⟨b,off,none⟩) l.length c] 89)).alloc (.cells #[.slice none 0 0] 32))=W:=⟨_,rfl⟩;have H:=alb0v0v2 y;have X:=Q01 H;clear H;have A:=alz0v0v2 y
 have G:m.cell? ⟨w.heap.size,0,none⟩=some (.slice (some ⟨b,off,none⟩) l.length c):=by rw [←y];simp [go_sem]
 have q:=alz0v1v2 y
 have M:m.cell? ⟨w.heap.size+1,0,none⟩=some (.slice none 0 0):=by rw [←y];simp [go_sem]
 have z:m.frozen? ⟨w.heap.size+1,0,none⟩=false:=by rw [←y];simp [go_sem]
 have P:=q;have aa:w.heap.size≤m.heap.size:=X.out.size;go_enter Tryz.func112,Tryz.ntmps112;go_wp2_with (at_make;refine wpList_make_full _ rfl _ _ 30 rfl m.heap.size 101 i0 (slot sl0) 5 Tryz.underlying30 hi ao ah _ _ _ _ l.length rfl rfl rfl rfl ?b2 ?b3 ?b4 ?_)
 case b2=> rw [ap];omega
 case b3=> unfold maxLen;omega
 case b4=> simp
 intro D N U;have r:Below m.heap.size m D:=(Below.refl _ _).grown U (Kaq _) (fun k h=> by cases h);have ag:=Q01 r
 have HO:Hid (D.ownsRow m.heap.size 101 5 (.slice (some ⟨m.heap.size,0,none⟩) l.length l.length) l.length ((Q3u Q0g l 0).flatMap Q0g.cs)):=by unfold Hid;rw [Q8B,←Q3B Q0g (slot sl0) rfl];exact N
 have zg:m.heap.size < D.heap.size:=(N.lt _ rfl).2;clear N U;replace G:=bKq0v0v0 r G A;replace A:w.heap.size < D.heap.size:=Kbq A r.size;replace M:=bKq0v0v0 r M q;replace z:D.frozen? ⟨w.heap.size+1,0,none⟩=false:=(r.frozen (p:=⟨w.heap.size+1,0,none⟩) q).trans z;replace q:w.heap.size+1 < D.heap.size:=Kbq q r.size;replace X:=Q01 (X.out.trans (r.mono X.out.size));clear r;obtain ⟨W2,F⟩:∃W,(D.alloc (.cells #[.slice (some ⟨m.heap.size,0,none⟩) l.length l.length] 32))=W:=⟨_,rfl⟩;have f:=alb0v0v1 F;replace G:=bKq0v0v0 f G A
 replace A:w.heap.size < W2.heap.size:=Kbq A f.size;replace M:=bKq0v0v0 f M q;replace z:W2.frozen? ⟨w.heap.size+1,0,none⟩=false:=(f.frozen (p:=⟨w.heap.size+1,0,none⟩) q).trans z;replace q:w.heap.size+1 < W2.heap.size:=Kbq q f.size;replace HO:=Q01 (Q03 HO.out f);replace X:=Q01 (X.out.trans (f.mono X.out.size));clear f;have ac:=alz0v0v1 F
 have al:W2.cell? ⟨D.heap.size,0,none⟩=some (.slice (some ⟨m.heap.size,0,none⟩) l.length l.length):=by rw [←F];simp [go_sem]
 have b3:Hid _:=alx0v0v1 F
 have bR:Hid (W2.heap[w.heap.size+1]? =some (.cells #[.slice none 0 0] 32 (0,0))):=by
  have h:=World.alloc_heap_new (w.alloc (.cells #[.slice (some ⟨b,off,none⟩) l.length c] 89)) (.cells #[.slice none 0 0] 32);rw [y,World.size_alloc] at h;exact ((by rw [←F];exact (Below.heap_alloc _ _ _ (by omega)):W2.heap[w.heap.size+1]? =D.heap[w.heap.size+1]?)).trans ((ag.out.block _ P).trans h)
 have aC:=ac;go_wp2
 go_loopw [14] (fun i wr=> ∃k:Nat,k≤l.length∧i=.int .i64 k∧Hid (wr.ownsRow m.heap.size 101 5 (.slice (some ⟨m.heap.size,0,none⟩) l.length l.length) l.length ((Q3u Q0g l k).flatMap Q0g.cs))∧Hid (wr.heap[w.heap.size+1]? =some (.cells #[.slice none 0 0] 32 (0,0)))∧Hid (wr.heap[D.heap.size]? =some (.cells #[.slice (some ⟨m.heap.size,0,none⟩) l.length l.length] 32 (0,0)))∧Hid (Below w.heap.size w wr)∧D.heap.size < wr.heap.size)
  (fun i _=> l.length - (intOf i).toNat)
 case atStart=> exact ⟨0,Kcq _,rfl,HO,bR,b3,X,ac⟩
 case round=>
  clear HO bR b3 X ag G M z al F y A q ac;obtain ⟨k,hk,rfl,HO,HR,HT,x,Z⟩:=hrel
  by_cases hlt:k < l.length
  ·obtain ⟨s,ad⟩:∃s,l.getD k sl0=s:=⟨_,rfl⟩
   have E:=RdL.slot (C:=w.heap.size) HC.out k hlt;rw [ad] at E;have e0:=(x.out.cell (p:=⟨b,off+k * 5,none⟩) I).trans E.1;have e1:=(x.out.cell (p:=⟨b,off+k * 5+1,none⟩) I).trans E.2.1;have e2:=(x.out.cell (p:=⟨b,off+k * 5+2,none⟩) I).trans E.2.2.1;have e3:=(x.out.cell (p:=⟨b,off+k * 5+3,none⟩) I).trans E.2.2.2.1;have e4:=(x.out.cell (p:=⟨b,off+k * 5+4,none⟩) I).trans E.2.2.2.2
   have aF:(k:Int) < (l.length:Int):=by omega
   have HX:=Q01 ad;clear E ad;obtain ⟨J,B⟩:∃W,wr.alloc (.cells (Q4u s) 165)=W:=⟨_,rfl⟩;have R:=alb0v0v1 B;have O:=alz0v0v1 B
   have s0:J.cell? ⟨wr.heap.size,0,none⟩=some (.bool s.u):=by rw [←B];simp [go_sem]
   have s1:J.cell? ⟨wr.heap.size,1,none⟩=some (.int .i64 s.a):=by rw [←B];simp [go_sem]
   have s2:J.cell? ⟨wr.heap.size,2,none⟩=some (.int .i64 s.p):=by rw [←B];simp [go_sem]
   have s3:J.cell? ⟨wr.heap.size,3,none⟩=some (.int .i64 s.v):=by rw [←B];simp [go_sem]
   have s4:J.cell? ⟨wr.heap.size,4,none⟩=some (.int .i64 s.t):=by rw [←B];simp [go_sem]
   have t3:J.cell? ⟨D.heap.size,0,none⟩=some (.slice (some ⟨m.heap.size,0,none⟩) l.length l.length):=(R.cell (p:=⟨D.heap.size,0,none⟩) Z).trans (Q0m HT.out 0 _ rfl);have am:D.heap.size < J.heap.size:=Kbq Z R.size;have ae:=Q01 R;have L:=Q03 HO.out R;have an:=Qdd s J.drew
   have ar:((Q3u Q0g l k).flatMap Q0g.cs).length=l.length * 5:=by rw [Q0n,Q6x Q0g l k hk];rfl
   have ab:Hid (J.ownsRow m.heap.size 101 5 (.slice (some ⟨m.heap.size,0,none⟩) l.length l.length) l.length ((Q3u Q0g l k).flatMap Q0g.cs)):=L;clear L R;go_wp2
   first|(go_region_with (first|(go_at_call 158;refine an.mono ?_;rintro e w6 ⟨rfl,r⟩;replace r:Below J.heap.size J w6:=(Below.drew (Below.refl _ _)).trans r;have aA:=(r.cell (p:=⟨D.heap.size,0,none⟩) am).trans t3;have s60:=(r.cell (p:=⟨wr.heap.size,0,none⟩) O).trans s0;have s61:=(r.cell (p:=⟨wr.heap.size,1,none⟩) O).trans s1;have s62:=(r.cell (p:=⟨wr.heap.size,2,none⟩) O).trans s2;have s63:=(r.cell (p:=⟨wr.heap.size,3,none⟩) O).trans s3;have s64:=(r.cell (p:=⟨wr.heap.size,4,none⟩) O).trans s4;have n:=Q03 ab.out r;obtain ⟨u0,az⟩:∃u,w6.cell? ⟨m.heap.size,k * 5,none⟩=some u:=⟨_,(n.cellAt (k * 5) (by omega)).trans (List.getElem?_eq_getElem (by omega))⟩;have aD:=n.frozenAt (k * 5);obtain ⟨u1,aq⟩:∃u,w6.cell? ⟨m.heap.size,k * 5+1,none⟩=some u:=⟨_,(n.cellAt (k * 5+1) (by omega)).trans (List.getElem?_eq_getElem (by omega))⟩;have av:=n.frozenAt (k * 5+1);obtain ⟨u2,ax⟩:∃u,w6.cell? ⟨m.heap.size,k * 5+2,none⟩=some u:=⟨_,(n.cellAt (k * 5+2) (by omega)).trans (List.getElem?_eq_getElem (by omega))⟩;have aE:=n.frozenAt (k * 5+2);obtain ⟨u3,aB⟩:∃u,w6.cell? ⟨m.heap.size,k * 5+3,none⟩=some u:=⟨_,(n.cellAt (k * 5+3) (by omega)).trans (List.getElem?_eq_getElem (by omega))⟩;have au:=n.frozenAt (k * 5+3);obtain ⟨u4,aw⟩:∃u,w6.cell? ⟨m.heap.size,k * 5+4,none⟩=some u:=⟨_,(n.cellAt (k * 5+4) (by omega)).trans (List.getElem?_eq_getElem (by omega))⟩;have ay:=n.frozenAt (k * 5+4);have ak:=Q01 r;have aj:=Q01 n;clear r n)))|fail
   all_goals have V:=Q01 (Q3o (k:=k) s (Kaq _) aj.out (Below.refl m.heap.size w6))
   all_goals have ai:=Q01 (show (Q3u Q0g l k).set k s=Q3u Q0g l (k+1) by rw [←HX.out];exact Qac Q0g l k hlt)
   all_goals have Y:=Q01 (ae.out.trans (ak.out.mono ae.out.size))
   all_goals go_wp2
   all_goals go_roundw
   all_goals first|(simp [intOf];omega;done)|exact ⟨k+1,hlt,by go_num,(by have h:=V.out.1;rw [ai.out] at h;exact h),(V.out.2.block _ P).trans ((Y.out.block _ (by omega)).trans HR.out),((((((Below.heap_setCell _ _ _ _ (by simp;omega)).trans (Below.heap_setCell _ _ _ _ (by simp;omega))).trans (Below.heap_setCell _ _ _ _ (by simp;omega))).trans (Below.heap_setCell _ _ _ _ (by simp;omega))).trans (Below.heap_setCell _ _ _ _ (by simp;omega))).trans ((Y.out.block _ Z).trans HT.out)),x.out.trans ((Y.out.mono x.out.size).trans (V.out.2.mono aa)),Kbq Z (Kdq Y.out.size V.out.2.size)⟩
  ·have e:k=l.length:=by omega
   subst e;have T:=HO.out;rw [Qai] at T;have af:=Q01 T;clear T HO;have r1:=Q0m HR.out 0 _ rfl;have f1:=Q24 HR.out 0;have t3:=Q0m HT.out 0 _ rfl;go_wp2;refine bodyPost_ret (v:=tab (.slice (some ⟨m.heap.size,0,none⟩) l.length l.length)) (by simp [results,Tryz.results112,go_sem,r1]) rfl ⟨_,rfl, ?_, ?_⟩
   ·exact Q04 (ownsRow_setCell_below af.out (show w.heap.size+1 < m.heap.size from P) _) aa
   ·exact x.out.setCell (p:=⟨w.heap.size+1,0,none⟩) (by simp) _
def Q8m (n:Int):List Sl:=if 1≤n∧n≤16 then List.replicate n.toNat sl0 else []
def Qc8 (n:Int):Bool:=decide (1≤n) && decide (n≤16)
theorem Qgb (n:Int):(Q8m n).length≤16:=by
 unfold Q8m
 split
 ·rw [List.length_replicate];omega
 ·exact Kcq _
theorem Q6I (n:Int) (w:World):
  Calls Tryz.prog 172 #[.int .i64 n] w fun e B=> ∃v,e=.returned (.tuple #[v,.bool (Qc8 n)])∧InTb w.heap.size B.heap.size B v (Q8m n)∧Below w.heap.size w B:=by
 obtain ⟨C,hi,z,A,D⟩:=info_parts Q72;obtain ⟨i,g⟩:∃W,(w.alloc (.cells #[.slice none 0 0] 32))=W:=⟨_,rfl⟩;have c:=alb0v0v1 g;have q:=Q01 c;clear c;have b:=alz0v0v1 g
 have a:i.cell? ⟨w.heap.size,0,none⟩=some (.slice none 0 0):=by rw [←g];simp [go_sem]
 have l:i.frozen? ⟨w.heap.size,0,none⟩=false:=by rw [←g];simp [go_sem]
 by_cases hn:1≤n∧n≤16
 ·obtain ⟨m,rfl⟩:∃m:Nat,n=m:=⟨n.toNat,by omega⟩
  have x:=Q01 (show Q8m (m:Int)=List.replicate m sl0 by unfold Q8m;rw [if_pos hn];simp);have y:=Q01 (show Qc8 (m:Int)=true by simp [Qc8];omega)
  have G:¬((m:Int) < 1):=by omega
  have H:¬(16 < (m:Int)):=by omega
  have t:=b;have r:=q.out.size;go_enter Tryz.func172,Tryz.ntmps172;go_wp2_with (at_make;refine wpList_make_full _ rfl _ _ 30 rfl i.heap.size 101 C (slot sl0) 5 Tryz.underlying30 hi z A _ _ _ _ m rfl rfl rfl rfl ?b2 ?b3 ?b4 ?_)
  case b2=> omega
  case b3=> unfold maxLen;omega
  intro s j f;have u:Below i.heap.size i s:=(Below.refl _ _).grown f (Kaq _) (fun k h=> by cases h)
  have E:Hid (Qgq s i.heap.size (.slice (some ⟨i.heap.size,0,none⟩) m m) (List.replicate m sl0)):=by
   unfold Hid Qgq ownL;rw [List.length_replicate]
   show s.ownsRow _ _ _ _ m ((List.replicate m Q0g.d).flatMap Q0g.cs)
   rw [←Q3B Q0g (slot sl0) rfl];exact j
  have F:=a;clear j f F;replace a:=bKq0v0v0 u a b;replace l:s.frozen? ⟨w.heap.size,0,none⟩=false:=(u.frozen (p:=⟨w.heap.size,0,none⟩) b).trans l;replace b:w.heap.size < s.heap.size:=Kbq b u.size;replace q:=Q01 (q.out.trans (u.mono q.out.size));clear u;go_wp2;refine bodyPost_ret (v:=.tuple #[tab (.slice (some ⟨i.heap.size,0,none⟩) m m),.bool true]) (by simp [results,Tryz.results172,go_sem,a]) rfl ⟨_,by rw [y.out],⟨_,rfl, ?_⟩, ?_⟩
  ·rw [x.out];exact InRow.of (Q04 (ownsRow_setCell_below E.out (show w.heap.size < i.heap.size from t) _) r)
  ·exact q.out.setCell (p:=⟨w.heap.size,0,none⟩) (Kaq _) _
 ·skip
  have x:=Q01 (show Q8m n=[] by unfold Q8m;rw [if_neg hn]);have y:=Q01 (show Qc8 n=false by simp [Qc8];omega)
  by_cases h1:n < 1
  ·skip
   clear hn;go_enter Tryz.func172,Tryz.ntmps172;go_wp2;refine bodyPost_ret (v:=.tuple #[tab (.slice none 0 0),.bool false]) (by simp [results,Tryz.results172,go_sem,a]) rfl ⟨_,by rw [y.out],⟨_,rfl, ?_⟩, ?_⟩
   ·rw [x.out];exact InRow.of (World.ownsRow_nil _ _ _ _)
   ·exact q.out.setCell (p:=⟨w.heap.size,0,none⟩) (Kaq _) _
  ·have h2:16 < n:=by omega
   clear hn;go_enter Tryz.func172,Tryz.ntmps172;go_wp2;refine bodyPost_ret (v:=.tuple #[tab (.slice none 0 0),.bool false]) (by simp [results,Tryz.results172,go_sem,a]) rfl ⟨_,by rw [y.out],⟨_,rfl, ?_⟩, ?_⟩
   ·rw [x.out];exact InRow.of (World.ownsRow_nil _ _ _ _)
   ·exact q.out.setCell (p:=⟨w.heap.size,0,none⟩) (Kaq _) _
theorem Q6N (n:Int) (w:World):
  Calls Tryz.prog 98 #[.int .i64 n] w fun e y=> ∃v,e=.returned (.tuple #[v,.bool (Qc8 n)])∧InTb w.heap.size y.heap.size y v (Q8m n)∧Below w.heap.size w y:=by
 obtain ⟨u,k⟩:∃W,(w.alloc (.cells #[.slice none 0 0] 32))=W:=⟨_,rfl⟩;have f:=alb0v0v1 k;have j:=Q01 f;clear f;have a:=alz0v0v1 k
 have b:u.cell? ⟨w.heap.size,0,none⟩=some (.slice none 0 0):=by rw [←k];simp [go_sem]
 have c:u.frozen? ⟨w.heap.size,0,none⟩=false:=by rw [←k];simp [go_sem]
 by_cases hn:1≤n∧n≤16
 ·obtain ⟨m,rfl⟩:∃m:Nat,n=m:=⟨n.toNat,by omega⟩
  have t:=Q01 (show Q8m (m:Int)=List.replicate m sl0 by unfold Q8m;rw [if_pos hn];simp);have x:=Q01 (show Qc8 (m:Int)=true by simp [Qc8];omega)
  have F:¬((m:Int) < 1):=by omega
  have G:¬(16 < (m:Int)):=by omega
  have C:=a;have A:=j.out.size
  have hm:m≤1048576:=by omega
  go_enter Tryz.func98,Tryz.ntmps98;go_wp2_with fail;refine (Q4e m u hm).mono ?_;rintro e s ⟨g,rfl,l,d⟩;have r:=Q01 l;clear l;replace b:=bKq0v0v0 d b a;replace c:s.frozen? ⟨w.heap.size,0,none⟩=false:=(d.frozen (p:=⟨w.heap.size,0,none⟩) a).trans c;replace a:w.heap.size < s.heap.size:=Kbq a d.size;replace j:=Q01 (j.out.trans (d.mono j.out.size));clear d;have q:=Q50 g 0 m (List.replicate m sl0) s (r.out.lt g rfl).2 (Q1t (by have h:=r.out;unfold ownL at h;rw [List.length_replicate] at h;exact h) (by simp)) (by simp;omega)
  rw [List.length_replicate] at q
  have D:u.heap.size≤s.heap.size:=by have:=r.out.lt g rfl;omega
  go_wp2_with fail;refine (q).mono ?_;rintro e B ⟨E,rfl,i,d⟩;have z:=Q01 i;clear i;replace b:=bKq0v0v0 d b a;replace c:B.frozen? ⟨w.heap.size,0,none⟩=false:=(d.frozen (p:=⟨w.heap.size,0,none⟩) a).trans c;replace a:w.heap.size < B.heap.size:=Kbq a d.size;replace r:=Q01 (Q03 r.out d);replace j:=Q01 (j.out.trans (d.mono j.out.size));clear d;clear q;go_wp2;refine bodyPost_ret (v:=.tuple #[tab (.slice (some ⟨E,0,none⟩) m m),.bool true]) (by simp [results,Tryz.results98,go_sem,b]) rfl ⟨_,by rw [x.out],⟨_,rfl, ?_⟩, ?_⟩
  ·rw [t.out];exact InRow.of (Q04 (ownsRow_setCell_below z.out (show w.heap.size < s.heap.size by omega) _) (by omega))
  ·exact j.out.setCell (p:=⟨w.heap.size,0,none⟩) (Kaq _) _
 ·skip
  have t:=Q01 (show Q8m n=[] by unfold Q8m;rw [if_neg hn]);have x:=Q01 (show Qc8 n=false by simp [Qc8];omega)
  by_cases h1:n < 1
  ·skip
   clear hn;go_enter Tryz.func98,Tryz.ntmps98;go_wp2;refine bodyPost_ret (v:=.tuple #[tab (.slice none 0 0),.bool false]) (by simp [results,Tryz.results98,go_sem,b]) rfl ⟨_,by rw [x.out],⟨_,rfl, ?_⟩, ?_⟩
   ·rw [t.out];exact InRow.of (World.ownsRow_nil _ _ _ _)
   ·exact j.out.setCell (p:=⟨w.heap.size,0,none⟩) (Kaq _) _
  ·have h2:16 < n:=by omega
   clear hn;go_enter Tryz.func98,Tryz.ntmps98;go_wp2;refine bodyPost_ret (v:=.tuple #[tab (.slice none 0 0),.bool false]) (by simp [results,Tryz.results98,go_sem,b]) rfl ⟨_,by rw [x.out],⟨_,rfl, ?_⟩, ?_⟩
   ·rw [t.out];exact InRow.of (World.ownsRow_nil _ _ _ _)
   ·exact j.out.setCell (p:=⟨w.heap.size,0,none⟩) (Kaq _) _
theorem QeB {l:List Sl} {a p:Int} (h:(Q0Z l a p).2=false):Q6j l a p=sl0:=by unfold Q6j;rw [h];rfl
theorem QcN {l:List Sl} {a p:Int} {k:Nat} (h:Q0Z l a p=((k:Int),true)):Q6j l a p=l.getD k sl0:=by unfold Q6j;rw [h];simp
theorem QhI (b off c:Nat) (l:List Sl) (a p:Int) (w:World) (U:0 < l.length) (hl:l.length≤1048576) (hf:Q0h a p=true) (H:b < w.heap.size) (Y:∀i,i < l.length→∀j,j < Q0g.k→w.cell? ⟨b,off+i * Q0g.k+j,none⟩=(Q0g.cs (l.getD i Q0g.d))[j]?):
  Calls Tryz.prog 105 #[tab (.slice (some ⟨b,off,none⟩) l.length c),Q6c a p] w fun e w'=> e=.returned (.tuple #[slot (Q6j l a p),.bool (Q0Z l a p).2])∧Below w.heap.size w w':=by
 have V:=Q01 Y;clear Y;obtain ⟨X,G⟩:∃W,(((w.alloc (.cells #[.slice (some ⟨b,off,none⟩) l.length c] 89)).alloc (.cells #[.int .i64 a,.int .i64 p] 36)).alloc (.cells #[.bool false,.int .i64 0,.int .i64 0,.int .i64 0,.int .i64 0] 165))=W:=⟨_,rfl⟩;have O:=alb0v0v3 G;have F:=Q01 O;clear O;have B:=alz0v0v3 G
 have L:X.cell? ⟨w.heap.size,0,none⟩=some (.slice (some ⟨b,off,none⟩) l.length c):=by rw [←G];simp [go_sem]
 have m:=alz0v1v3 G;obtain ⟨M,N⟩:=alc2v1v3 G;have f:=alz0v2v3 G;obtain ⟨y,E,A,x,D⟩:=alc5v2v3 G;obtain ⟨u,n,r,t,q⟩:=alf5v2v3 G;have z:=Q4D b off c l a p X U hl hf (Kbq H F.out.size) (fun i hi j Z=> (F.out.cell (p:=⟨b,off+i * Q0g.k+j,none⟩) H).trans (V.out i hi j Z))
 rcases Q1f l U a p with J|⟨k,hk,⟨J,_⟩|⟨J,_⟩⟩
 ·skip
  have P:=Q01 (QeB (l:=l) (a:=a) (p:=p) (by rw [J]));have T:=Q01 J;rw [J] at z;clear J;go_enter Tryz.func105,Tryz.ntmps105;go_wp2_with fail;refine (z).mono ?_;rintro e h ⟨rfl,g⟩;replace L:=bKq0v0v0 g L B;replace B:w.heap.size < h.heap.size:=Kbq B g.size;replace M:=bKq0v0v0 g M m;replace N:=bKq0v0v0 g N m;replace m:w.heap.size+1 < h.heap.size:=Kbq m g.size;replace y:=bKq0v0v0 g y f;replace E:=bKq0v0v0 g E f;replace A:=bKq0v0v0 g A f;replace x:=bKq0v0v0 g x f;replace D:=bKq0v0v0 g D f
  replace u:h.frozen? ⟨w.heap.size+1+1,0,none⟩=false:=(g.frozen (p:=⟨w.heap.size+1+1,0,none⟩) f).trans u;replace n:h.frozen? ⟨w.heap.size+1+1,1,none⟩=false:=(g.frozen (p:=⟨w.heap.size+1+1,1,none⟩) f).trans n;replace r:h.frozen? ⟨w.heap.size+1+1,2,none⟩=false:=(g.frozen (p:=⟨w.heap.size+1+1,2,none⟩) f).trans r;replace t:h.frozen? ⟨w.heap.size+1+1,3,none⟩=false:=(g.frozen (p:=⟨w.heap.size+1+1,3,none⟩) f).trans t;replace q:h.frozen? ⟨w.heap.size+1+1,4,none⟩=false:=(g.frozen (p:=⟨w.heap.size+1+1,4,none⟩) f).trans q
  replace f:w.heap.size+1+1 < h.heap.size:=Kbq f g.size;replace F:=Q01 (F.out.trans (g.mono F.out.size));clear g;clear z;go_wp2;refine bodyPost_ret (v:=.tuple #[slot sl0,.bool false]) (by simp [results,Tryz.results105,go_sem,y,E,A,x,D]) rfl ⟨by rw [P.out,T.out],Q2E (s:=sl0) F.out (by omega)⟩
 ·skip
  have P:=Q01 (QeB (l:=l) (a:=a) (p:=p) (by rw [J]));have T:=Q01 J;rw [J] at z;clear J;go_enter Tryz.func105,Tryz.ntmps105;go_wp2_with fail;refine (z).mono ?_;rintro e h ⟨rfl,g⟩;replace L:=bKq0v0v0 g L B;replace B:w.heap.size < h.heap.size:=Kbq B g.size;replace M:=bKq0v0v0 g M m;replace N:=bKq0v0v0 g N m;replace m:w.heap.size+1 < h.heap.size:=Kbq m g.size;replace y:=bKq0v0v0 g y f;replace E:=bKq0v0v0 g E f;replace A:=bKq0v0v0 g A f;replace x:=bKq0v0v0 g x f;replace D:=bKq0v0v0 g D f
  replace u:h.frozen? ⟨w.heap.size+1+1,0,none⟩=false:=(g.frozen (p:=⟨w.heap.size+1+1,0,none⟩) f).trans u;replace n:h.frozen? ⟨w.heap.size+1+1,1,none⟩=false:=(g.frozen (p:=⟨w.heap.size+1+1,1,none⟩) f).trans n;replace r:h.frozen? ⟨w.heap.size+1+1,2,none⟩=false:=(g.frozen (p:=⟨w.heap.size+1+1,2,none⟩) f).trans r;replace t:h.frozen? ⟨w.heap.size+1+1,3,none⟩=false:=(g.frozen (p:=⟨w.heap.size+1+1,3,none⟩) f).trans t;replace q:h.frozen? ⟨w.heap.size+1+1,4,none⟩=false:=(g.frozen (p:=⟨w.heap.size+1+1,4,none⟩) f).trans q
  replace f:w.heap.size+1+1 < h.heap.size:=Kbq f g.size;replace F:=Q01 (F.out.trans (g.mono F.out.size));clear g;clear z;go_wp2;refine bodyPost_ret (v:=.tuple #[slot sl0,.bool false]) (by simp [results,Tryz.results105,go_sem,y,E,A,x,D]) rfl ⟨by rw [P.out,T.out],Q2E (s:=sl0) F.out (by omega)⟩
 ·skip
  have P:=Q01 (QcN J);have T:=Q01 J;rw [J] at z;clear J;have I:=RdL.slot (C:=w.heap.size) V.out k hk;obtain ⟨s,R⟩:∃s,l.getD k sl0=s:=⟨_,rfl⟩;rw [R] at I P;clear R
  have aa:(k:Int) < (l.length:Int):=by omega
  go_enter Tryz.func105,Tryz.ntmps105;go_wp2_with fail;refine (z).mono ?_;rintro e h ⟨rfl,g⟩;replace L:=bKq0v0v0 g L B;replace B:w.heap.size < h.heap.size:=Kbq B g.size;replace M:=bKq0v0v0 g M m;replace N:=bKq0v0v0 g N m;replace m:w.heap.size+1 < h.heap.size:=Kbq m g.size;replace y:=bKq0v0v0 g y f;replace E:=bKq0v0v0 g E f;replace A:=bKq0v0v0 g A f;replace x:=bKq0v0v0 g x f;replace D:=bKq0v0v0 g D f;replace u:h.frozen? ⟨w.heap.size+1+1,0,none⟩=false:=(g.frozen (p:=⟨w.heap.size+1+1,0,none⟩) f).trans u
  replace n:h.frozen? ⟨w.heap.size+1+1,1,none⟩=false:=(g.frozen (p:=⟨w.heap.size+1+1,1,none⟩) f).trans n;replace r:h.frozen? ⟨w.heap.size+1+1,2,none⟩=false:=(g.frozen (p:=⟨w.heap.size+1+1,2,none⟩) f).trans r;replace t:h.frozen? ⟨w.heap.size+1+1,3,none⟩=false:=(g.frozen (p:=⟨w.heap.size+1+1,3,none⟩) f).trans t;replace q:h.frozen? ⟨w.heap.size+1+1,4,none⟩=false:=(g.frozen (p:=⟨w.heap.size+1+1,4,none⟩) f).trans q;replace f:w.heap.size+1+1 < h.heap.size:=Kbq f g.size;replace F:=Q01 (F.out.trans (g.mono F.out.size));clear g
  have e0:=(F.out.cell (p:=⟨b,off+k * 5,none⟩) H).trans I.1;have e1:=(F.out.cell (p:=⟨b,off+k * 5+1,none⟩) H).trans I.2.1;have e2:=(F.out.cell (p:=⟨b,off+k * 5+2,none⟩) H).trans I.2.2.1;have e3:=(F.out.cell (p:=⟨b,off+k * 5+3,none⟩) H).trans I.2.2.2.1;have e4:=(F.out.cell (p:=⟨b,off+k * 5+4,none⟩) H).trans I.2.2.2.2;clear z I;go_wp2;refine bodyPost_ret (v:=.tuple #[slot s,.bool true]) (by simp [results,Tryz.results105,go_sem,y,E,A,x,D]) rfl ⟨by rw [P.out,T.out],Q2E (s:=s) F.out (by omega)⟩
theorem Q4T (W:World) (B j:Nat) (v:Value):Stp B (B+1) W (W.setCell ⟨B,j,none⟩ v):=by
 have h:=(Below.refl B W).setCell (p:=⟨B,j,none⟩) (Kaq _) v;exact ⟨h.os,h.tape,h.output,h.size,fun k b a=> Below.heap_setCell W ⟨B,j,none⟩ v k (by simp;omega)⟩
theorem Qju:AppOk Q0g 30 101:=⟨Tryz.underlying30,⟨_,_,Q72,rfl,by decide⟩,by decide,fun a u hu=> by
 simp [Q0g] at hu;rcases hu with rfl|rfl|rfl|rfl|rfl <;> rfl⟩
theorem Stp.cell {lo hi b j:Nat} {w a:World} {u:Value} (s:Stp lo hi w a) (h:w.cell? ⟨b,j,none⟩=some u) (d:b < w.heap.size) (c:b < lo∨hi≤b):a.cell? ⟨b,j,none⟩=some u:=by
 have:=s.block b d c;simp only [World.cell?,this] at h ⊢;exact h
theorem Stp.frozen {lo hi b j:Nat} {w a:World} (s:Stp lo hi w a) (h:w.frozen? ⟨b,j,none⟩=false) (d:b < w.heap.size) (c:b < lo∨hi≤b):a.frozen? ⟨b,j,none⟩=false:=by
 have:=s.block b d c;simp only [World.frozen?,this] at h ⊢;exact h
theorem Q3i (W:World) (B k:Nat) (s:Sl):Stp B (B+1) W (((((W.setCell ⟨B,k * 5,none⟩ (.bool s.u)).setCell ⟨B,k * 5+1,none⟩ (.int .i64 s.a)).setCell ⟨B,k * 5+2,none⟩ (.int .i64 s.p)).setCell ⟨B,k * 5+3,none⟩ (.int .i64 s.v)).setCell ⟨B,k * 5+4,none⟩ (.int .i64 s.t)):=
 ((((Q4T W B _ _).trans (Q4T _ B _ _)).trans (Q4T _ B _ _)).trans (Q4T _ B _ _)).trans (Q4T _ B _ _)
theorem Q5Q (b off c:Nat) (l:List Sl) (w:World) (D:b < w.heap.size) (V:∀i,i < l.length→∀j,j < Q0g.k→w.cell? ⟨b,off+i * Q0g.k+j,none⟩=(Q0g.cs (l.getD i Q0g.d))[j]?) (hl:l.length≤1048576):
  Calls Tryz.prog 170 #[tab (.slice (some ⟨b,off,none⟩) l.length c)] w fun e R=> ∃P U,e=.returned (tab (.slice P l.length U))∧Qgq R w.heap.size (.slice P l.length U) l∧Below w.heap.size w R:=by
 have HC:=Q01 V;clear V;obtain ⟨r,g⟩:∃W,((w.alloc (.cells #[.slice (some ⟨b,off,none⟩) l.length c] 32)).alloc (.cells #[.slice none 0 0] 32))=W:=⟨_,rfl⟩;have m:=alb0v0v2 g;have B:=Q01 m;clear m;have A:=alz0v0v2 g
 have C:r.cell? ⟨w.heap.size,0,none⟩=some (.slice (some ⟨b,off,none⟩) l.length c):=by rw [←g];simp [go_sem]
 have n:=alz0v1v2 g
 have s:r.cell? ⟨w.heap.size+1,0,none⟩=some (.slice none 0 0):=by rw [←g];simp [go_sem]
 have f:r.frozen? ⟨w.heap.size+1,0,none⟩=false:=by rw [←g];simp [go_sem]
 have N:=Q01 n;have u:=B.out.size;obtain ⟨y,z⟩:∃W,r.alloc (.cells #[] 101)=W:=⟨_,rfl⟩
 have O:Hid (ownL Q0g 101 y r.heap.size (.slice (some ⟨r.heap.size,0,none⟩) 0 0) []):=by rw [←z];exact Q3v (L:=Q0g) r _
 have a:=alb0v0v1 z;replace C:=bKq0v0v0 a C A;replace A:w.heap.size < y.heap.size:=Kbq A a.size;replace s:=bKq0v0v0 a s n;replace f:y.frozen? ⟨w.heap.size+1,0,none⟩=false:=(a.frozen (p:=⟨w.heap.size+1,0,none⟩) n).trans f;replace n:w.heap.size+1 < y.heap.size:=Kbq n a.size;replace B:=Q01 (B.out.trans (a.mono B.out.size));clear a
 have x:r.heap.size≤y.heap.size:=by rw [←z];simp
 have I:Hid (RdL Q0g w.heap.size y (some ⟨b,off,none⟩) l):=.inr ⟨b,off,rfl,D,fun i hi j Z=> (B.out.cell (p:=⟨b,off+i * Q0g.k+j,none⟩) D).trans (HC.out i hi j Z)⟩;go_enter Tryz.func170,Tryz.ntmps170;go_wp2_with (at_builtin;refine Q08 Qju rfl _ _ rfl r.heap.size _ [] rfl O.out (some ⟨b,off,none⟩) c w.heap.size l l.length rfl rfl (fun h=> by cases h) I.out ?c1 ?c2 ?_)
 case c1=> simp;omega
 case c2=> exact x
 intro v2 T t E _
 (try rw [List.nil_append] at t)
 have G:Below r.heap.size y T:=(Below.refl _ _).grown E x (fun q h=> (O.out.lt q h).1);have X:=Q01 t;obtain ⟨Y,c2,H,_⟩:=ownL.open (L:=Q0g) t;subst H;have F:=bKq0v0v0 G s N.out;have J:T.frozen? ⟨w.heap.size+1,0,none⟩=false:=(G.frozen (p:=⟨w.heap.size+1,0,none⟩) N.out).trans f;have M:=Q01 (B.out.trans (G.mono u));clear t E G O s f;go_wp2;refine bodyPost_ret (v:=tab (.slice Y l.length c2)) (by simp [results,Tryz.results170,go_sem,F]) rfl ⟨_,_,rfl, ?_, ?_⟩
 ·exact Q04 (ownsRow_setCell_below X.out (show w.heap.size+1 < r.heap.size from N.out) _) u
 ·exact M.out.setCell (p:=⟨w.heap.size+1,0,none⟩) (by simp) _
theorem QbY {l:List Sl} {a p v t:Int} (h:(Q0Z l a p).1 < 0):Q4c l a p v t=l:=by unfold Q4c;rw [if_neg (by omega)]
theorem Q5o {l:List Sl} {a p v t:Int} {k:Nat} (h:(Q0Z l a p).1=(k:Int)):Q4c l a p v t=l.set k ⟨true,a,p,v,t⟩:=by unfold Q4c;rw [if_pos (by omega),h];simp
theorem Q69 (l:List Sl) (c:0 < l.length) (a p:Int):(Q0Z l a p).1= -1∨∃k,k < l.length∧(Q0Z l a p).1=(k:Int):=by
 rcases Q1f l c a p with e|⟨k,b,⟨e,_⟩|⟨e,_⟩⟩
 ·exact .inl (by rw [e])
 ·exact .inr ⟨k,b,by rw [e]⟩
 ·exact .inr ⟨k,b,by rw [e]⟩
theorem Q6q (b off c:Nat) (l:List Sl) (a p v t:Int) (w:World) (hn:0 < l.length) (hl:l.length≤1048576) (hf:Q0h a p=true) (M:b < w.heap.size) (hc:∀i,i < l.length→∀j,j < Q0g.k→w.cell? ⟨b,off+i * Q0g.k+j,none⟩=(Q0g.cs (l.getD i Q0g.d))[j]?):
  Calls Tryz.prog 166 #[tab (.slice (some ⟨b,off,none⟩) l.length c),Q6c a p,.int .i64 v,.int .i64 t] w fun e w'=> ∃b' P c',e=.returned (.tuple #[tab (.slice (some ⟨b',P,none⟩) l.length c'),.bool (decide (0≤(Q0Z l a p).1))])∧b' < w'.heap.size∧(∀i,i < (Q4c l a p v t).length→∀j,j < Q0g.k→w'.cell? ⟨b',P+i * Q0g.k+j,none⟩=(Q0g.cs ((Q4c l a p v t).getD i Q0g.d))[j]?)∧Below w.heap.size w w'∧(b'=b∨w.heap.size≤b'):=by
 have HC:=Q01 hc;clear hc;obtain ⟨W0,C⟩:∃W,(((w.alloc (.cells #[.slice (some ⟨b,off,none⟩) l.length c] 32)).alloc (.cells #[.int .i64 a,.int .i64 p] 36)).alloc (.cells #[.slice none 0 0] 32))=W:=⟨_,rfl⟩;have L:=alb0v0v3 C;have y:=Q01 L;clear L;have s:=alz0v0v3 C
 have z:W0.cell? ⟨w.heap.size,0,none⟩=some (.slice (some ⟨b,off,none⟩) l.length c):=by rw [←C];simp [go_sem]
 have n:=alz0v1v3 C;obtain ⟨B,D⟩:=alc2v1v3 C;have m:=alz0v2v3 C
 have x:W0.cell? ⟨w.heap.size+1+1,0,none⟩=some (.slice none 0 0):=by rw [←C];simp [go_sem]
 have r:W0.frozen? ⟨w.heap.size+1+1,0,none⟩=false:=by rw [←C];simp [go_sem]
 have A:=Q9O (some ⟨b,off,none⟩) c l a p W0 (.inr ⟨b,off,rfl,Kbq M y.out.size,(fun i hi j Y=> (y.out.cell (p:=⟨b,off+i * Q0g.k+j,none⟩) M).trans (HC.out i hi j Y))⟩) hn hl hf;obtain ⟨E,hE⟩:∃E,Q0Z l a p=E:=⟨_,rfl⟩;have HZ:=Q01 m;have al:=y.out.size
 rcases Q69 l hn a p with O|⟨k,hk,O⟩
 ·skip
  have HP:=Q01 (QbY (l:=l) (a:=a) (p:=p) (v:=v) (t:=t) (by rw [O];decide));have HD:=Q01 (show decide (0≤(Q0Z l a p).1)=false by rw [O];rfl);rw [O] at A;generalize (Q0Z l a p).2=E2 at A;clear hE;go_enter Tryz.func166,Tryz.ntmps166;go_wp2_with fail;refine (A).mono ?_;rintro e H ⟨rfl,q⟩;replace z:=bKq0v0v0 q z s;replace s:w.heap.size < H.heap.size:=Kbq s q.size;replace B:=bKq0v0v0 q B n;replace D:=bKq0v0v0 q D n;replace n:w.heap.size+1 < H.heap.size:=Kbq n q.size;replace x:=bKq0v0v0 q x m
  replace r:H.frozen? ⟨w.heap.size+1+1,0,none⟩=false:=(q.frozen (p:=⟨w.heap.size+1+1,0,none⟩) m).trans r;replace m:w.heap.size+1+1 < H.heap.size:=Kbq m q.size;replace y:=Q01 (y.out.trans (q.mono y.out.size));clear q;clear A;go_wp2;refine bodyPost_ret (v:=.tuple #[tab (.slice (some ⟨b,off,none⟩) l.length c),.bool false]) (by simp [results,Tryz.results166,go_sem,x]) rfl ⟨b,off,c,by rw [HD.out], ?_, ?_, ?_,.inl rfl⟩
  ·have:=y.out.size;simp;omega
  ·rw [HP.out]
   intro i hi j Y;have ah:=y.out.setCell (p:=⟨w.heap.size+1+1,0,none⟩) (by simp <;> omega) (.slice (some ⟨b,off,none⟩) l.length c);exact (ah.cell (p:=⟨b,off+i * Q0g.k+j,none⟩) M).trans (HC.out i hi j Y)
  ·exact y.out.setCell (p:=⟨w.heap.size+1+1,0,none⟩) (by simp <;> omega) _
 ·skip
  have HP:=Q01 (Q5o (l:=l) (a:=a) (p:=p) (v:=v) (t:=t) O);have HD:=Q01 (show decide (0≤(Q0Z l a p).1)=true by rw [O];simp);rw [O] at A;generalize (Q0Z l a p).2=E2 at A;clear hE O
  have ax:(k:Int) < (l.length:Int):=by omega
  go_enter Tryz.func166,Tryz.ntmps166;go_wp2_with fail;refine (A).mono ?_;rintro e H ⟨rfl,q⟩;replace z:=bKq0v0v0 q z s;replace s:w.heap.size < H.heap.size:=Kbq s q.size;replace B:=bKq0v0v0 q B n;replace D:=bKq0v0v0 q D n;replace n:w.heap.size+1 < H.heap.size:=Kbq n q.size;replace x:=bKq0v0v0 q x m;replace r:H.frozen? ⟨w.heap.size+1+1,0,none⟩=false:=(q.frozen (p:=⟨w.heap.size+1+1,0,none⟩) m).trans r;replace m:w.heap.size+1+1 < H.heap.size:=Kbq m q.size;replace y:=Q01 (y.out.trans (q.mono y.out.size));clear q;go_wp2_with fail
  refine (Q5Q b off c l H (Kbq M y.out.size) (fun i hi j Y=> (y.out.cell (p:=⟨b,off+i * Q0g.k+j,none⟩) M).trans (HC.out i hi j Y)) hl).mono ?_;rintro e U ⟨o2,c2,rfl,N,q⟩;have G:=Q01 m
  obtain ⟨g,c3,ac⟩:∃g c3,Value.slice o2 l.length c2=.slice (some ⟨g,0,none⟩) l.length c3:=by
   rcases N.2 with ⟨_,h0⟩|⟨g,c3,_,h0,_⟩
   ·exact absurd h0 (by omega)
   ·exact ⟨g,c3,h0⟩
  injection ac with hv1 hv2 hv3;subst hv1 hv3;have V:=Q01 N;clear N;replace z:=bKq0v0v0 q z s;replace s:w.heap.size < U.heap.size:=Kbq s q.size;replace B:=bKq0v0v0 q B n;replace D:=bKq0v0v0 q D n;replace n:w.heap.size+1 < U.heap.size:=Kbq n q.size;replace x:=bKq0v0v0 q x m;replace r:U.frozen? ⟨w.heap.size+1+1,0,none⟩=false:=(q.frozen (p:=⟨w.heap.size+1+1,0,none⟩) m).trans r;replace m:w.heap.size+1+1 < U.heap.size:=Kbq m q.size;replace y:=Q01 (y.out.trans (q.mono y.out.size));clear q;have ak:=V
  obtain ⟨F,T⟩:∃W,(U.alloc (.cells #[.slice (some ⟨g,0,none⟩) l.length c2] 32))=W:=⟨_,rfl⟩;have f:=alb0v0v1 T;replace z:=bKq0v0v0 f z s;replace s:w.heap.size < F.heap.size:=Kbq s f.size;replace B:=bKq0v0v0 f B n;replace D:=bKq0v0v0 f D n;replace n:w.heap.size+1 < F.heap.size:=Kbq n f.size;replace x:=bKq0v0v0 f x m;replace r:F.frozen? ⟨w.heap.size+1+1,0,none⟩=false:=(f.frozen (p:=⟨w.heap.size+1+1,0,none⟩) m).trans r;replace m:w.heap.size+1+1 < F.heap.size:=Kbq m f.size;replace V:=Q01 (Q03 V.out f)
  replace y:=Q01 (y.out.trans (f.mono y.out.size));clear f;have af:=alz0v0v1 T
  have ae:F.cell? ⟨U.heap.size,0,none⟩=some (.slice (some ⟨g,0,none⟩) l.length c2):=by rw [←T];simp [go_sem]
  have ai:=(V.out.lt g rfl);have J:F.ownsRow H.heap.size 101 5 (.slice (some ⟨g,0,none⟩) l.length c2) l.length (l.flatMap Q0g.cs):=V.out
  have ad:(l.flatMap Q0g.cs).length=l.length * 5:=by rw [Q0n];rfl
  obtain ⟨u0,aB⟩:∃u,F.cell? ⟨g,k * 5,none⟩=some u:=⟨_,(J.cellAt (k * 5) (by omega)).trans (List.getElem?_eq_getElem (by omega))⟩;have az:=J.frozenAt (k * 5);obtain ⟨u1,an⟩:∃u,F.cell? ⟨g,k * 5+1,none⟩=some u:=⟨_,(J.cellAt (k * 5+1) (by omega)).trans (List.getElem?_eq_getElem (by omega))⟩;have ap:=J.frozenAt (k * 5+1);obtain ⟨u2,av⟩:∃u,F.cell? ⟨g,k * 5+2,none⟩=some u:=⟨_,(J.cellAt (k * 5+2) (by omega)).trans (List.getElem?_eq_getElem (by omega))⟩;have aA:=J.frozenAt (k * 5+2)
  obtain ⟨u3,ay⟩:∃u,F.cell? ⟨g,k * 5+3,none⟩=some u:=⟨_,(J.cellAt (k * 5+3) (by omega)).trans (List.getElem?_eq_getElem (by omega))⟩;have ao:=J.frozenAt (k * 5+3);obtain ⟨u4,aq⟩:∃u,F.cell? ⟨g,k * 5+4,none⟩=some u:=⟨_,(J.cellAt (k * 5+4) (by omega)).trans (List.getElem?_eq_getElem (by omega))⟩;have aw:=J.frozenAt (k * 5+4);have HS:=Q01 (Q3o (k:=k) ⟨true,a,p,v,t⟩ (Kaq g) J (Below.refl g F));have aa:=Q01 (Q3i F g k ⟨true,a,p,v,t⟩);clear J ad A
  obtain ⟨W3,X⟩:∃W,((((F.setCell ⟨g,k * 5,none⟩ (.bool true)).setCell ⟨g,k * 5+1,none⟩ (.int .i64 a)).setCell ⟨g,k * 5+2,none⟩ (.int .i64 p)).setCell ⟨g,k * 5+3,none⟩ (.int .i64 v)).setCell ⟨g,k * 5+4,none⟩ (.int .i64 t)=W:=⟨_,rfl⟩
  have R:Hid (W3.ownsRow H.heap.size 101 5 (.slice (some ⟨g,0,none⟩) l.length c2) l.length ((l.set k ⟨true,a,p,v,t⟩).flatMap Q0g.cs)):=by rw [←X];exact HS.out.1
  have I:Hid (Stp g (g+1) F W3):=by rw [←X];exact aa.out
  have Z:H.heap.size≤g:=ai.1
  have ag:g+1≤U.heap.size:=by have h:=(ak.out.lt g rfl).2;omega
  have ar:=I.out.cell ae af (.inr ag);have ab:=I.out.cell x m (.inl (show w.heap.size+1+1 < g from Kbq G.out Z));have am:=I.out.frozen r m (.inl (show w.heap.size+1+1 < g from Kbq G.out Z));have aj:Hid (Below w.heap.size F W3):=I.out.below (by have:=G.out;omega) (by have:=G.out;omega)
  have au:w.heap.size≤H.heap.size:=by have:=G.out;omega
  clear x r HS aa;go_wp2;refine bodyPost_ret (v:=.tuple #[tab (.slice (some ⟨g,0,none⟩) l.length c2),.bool true]) (by simp [results,Tryz.results166,go_sem,ab]) rfl ⟨g,0,c2,by rw [HD.out], ?_, ?_, ?_,.inr (by have O:=(R.out.lt g rfl).1;have h2:=G.out;omega)⟩
  ·have h:=(R.out.lt g rfl).2;simpa using h
  ·rw [HP.out]
   have h:=ownsRow_setCell_below R.out (a:=⟨w.heap.size+1+1,0,none⟩) (show w.heap.size+1+1 < H.heap.size from G.out) (.slice (some ⟨g,0,none⟩) l.length c2);exact Q1t h (by simp)
  ·exact (y.out.trans aj.out).setCell (p:=⟨w.heap.size+1+1,0,none⟩) (by simp <;> omega) _
def Qje (l:List Sl) (a p v t:Int):Bool:=Q0c l && Q0h a p && Q7R v t
def putB (l:List Sl) (a p v t:Int):Bool:=if Qje l a p v t=true then decide (0≤(Q0Z l a p).1) else false
theorem Qe5 (g c base:Nat) (l:List Sl) (a p v t:Int) (w:World) (H:0 < l.length) (Z:l.length≤1048576) (T:Q0h a p=true) (i:w.ownsRow base Q1H 5 (.slice (some ⟨g,0,none⟩) l.length c) l.length (l.flatMap Q0g.cs)):
  Calls Tryz.prog 109 #[tab (.slice (some ⟨g,0,none⟩) l.length c),Q6c a p,Qhl v t] w fun e I=> e=.returned (.bool (decide (0≤(Q0Z l a p).1)))∧I.ownsRow base Q1H 5 (.slice (some ⟨g,0,none⟩) l.length c) l.length ((Q4c l a p v t).flatMap Q0g.cs)∧Stp g (g+1) w I:=by
 have r:=Q01 i;have Y:=(i.lt g rfl).2;clear i;obtain ⟨J,j⟩:∃W,(((w.alloc (.cells #[.slice (some ⟨g,0,none⟩) l.length c] 89)).alloc (.cells #[.int .i64 a,.int .i64 p] 36)).alloc (.cells #[.int .i64 v,.int .i64 t] 138))=W:=⟨_,rfl⟩;have m:=alb0v0v3 j;replace r:=Q01 (Q03 r.out m);have C:=Q01 m;clear m;have q:=alz0v0v3 j
 have s:J.cell? ⟨w.heap.size,0,none⟩=some (.slice (some ⟨g,0,none⟩) l.length c):=by rw [←j];simp [go_sem]
 have d:=alz0v1v3 j;obtain ⟨x,B⟩:=alc2v1v3 j;have h:=alz0v2v3 j;obtain ⟨A,z⟩:=alc2v2v3 j;have f:=Q4D g 0 c l a p J H Z T (r.out.lt g rfl).2 (Q1t r.out rfl)
 rcases Q69 l H a p with y|⟨k,hk,y⟩
 ·skip
  have F:=Q01 (QbY (l:=l) (a:=a) (p:=p) (v:=v) (t:=t) (by rw [y];decide));have D:=Q01 (show decide (0≤(Q0Z l a p).1)=false by rw [y];rfl);rw [y] at f;generalize (Q0Z l a p).2=E2 at f;clear y;go_enter Tryz.func109,Tryz.ntmps109;go_wp2_with fail;refine (f).mono ?_;rintro e n ⟨rfl,b⟩;replace s:=bKq0v0v0 b s q;replace q:w.heap.size < n.heap.size:=Kbq q b.size;replace x:=bKq0v0v0 b x d;replace B:=bKq0v0v0 b B d;replace d:w.heap.size+1 < n.heap.size:=Kbq d b.size;replace A:=bKq0v0v0 b A h;replace z:=bKq0v0v0 b z h
  replace h:w.heap.size+1+1 < n.heap.size:=Kbq h b.size;replace r:=Q01 (Q03 r.out b);replace C:=Q01 (C.out.trans (b.mono C.out.size));clear b;clear f;go_wp2;go_ret;exact ⟨by rw [D.out];rfl,by rw [F.out];exact r.out,Stp.of C.out⟩
 ·skip
  have F:=Q01 (Q5o (l:=l) (a:=a) (p:=p) (v:=v) (t:=t) y);have D:=Q01 (show decide (0≤(Q0Z l a p).1)=true by rw [y];simp);rw [y] at f;generalize (Q0Z l a p).2=E2 at f;clear y
  have ac:(k:Int) < (l.length:Int):=by omega
  go_enter Tryz.func109,Tryz.ntmps109;go_wp2_with fail;refine (f).mono ?_;rintro e n ⟨rfl,b⟩;replace s:=bKq0v0v0 b s q;replace q:w.heap.size < n.heap.size:=Kbq q b.size;replace x:=bKq0v0v0 b x d;replace B:=bKq0v0v0 b B d;replace d:w.heap.size+1 < n.heap.size:=Kbq d b.size;replace A:=bKq0v0v0 b A h;replace z:=bKq0v0v0 b z h;replace h:w.heap.size+1+1 < n.heap.size:=Kbq h b.size;replace r:=Q01 (Q03 r.out b);replace C:=Q01 (C.out.trans (b.mono C.out.size));clear b
  have i:n.ownsRow base Q1H 5 (.slice (some ⟨g,0,none⟩) l.length c) l.length (l.flatMap Q0g.cs):=r.out
  have E:(l.flatMap Q0g.cs).length=l.length * 5:=by rw [Q0n];rfl
  obtain ⟨u0,O⟩:∃u,n.cell? ⟨g,k * 5,none⟩=some u:=⟨_,(i.cellAt (k * 5) (by omega)).trans (List.getElem?_eq_getElem (by omega))⟩;have aa:=i.frozenAt (k * 5);obtain ⟨u1,M⟩:∃u,n.cell? ⟨g,k * 5+1,none⟩=some u:=⟨_,(i.cellAt (k * 5+1) (by omega)).trans (List.getElem?_eq_getElem (by omega))⟩;have R:=i.frozenAt (k * 5+1);obtain ⟨u2,L⟩:∃u,n.cell? ⟨g,k * 5+2,none⟩=some u:=⟨_,(i.cellAt (k * 5+2) (by omega)).trans (List.getElem?_eq_getElem (by omega))⟩;have ab:=i.frozenAt (k * 5+2)
  obtain ⟨u3,X⟩:∃u,n.cell? ⟨g,k * 5+3,none⟩=some u:=⟨_,(i.cellAt (k * 5+3) (by omega)).trans (List.getElem?_eq_getElem (by omega))⟩;have P:=i.frozenAt (k * 5+3);obtain ⟨u4,U⟩:∃u,n.cell? ⟨g,k * 5+4,none⟩=some u:=⟨_,(i.cellAt (k * 5+4) (by omega)).trans (List.getElem?_eq_getElem (by omega))⟩;have N:=i.frozenAt (k * 5+4);have V:=Q01 (Q3o (k:=k) ⟨true,a,p,v,t⟩ (Kaq g) i (Below.refl g n));have G:=Q01 ((Stp.of (lo:=g) (hi:=g+1) C.out).trans (Q3i n g k ⟨true,a,p,v,t⟩));clear i E f;go_wp2;go_ret;exact ⟨by rw [D.out];rfl,by rw [F.out];exact V.out.1,G.out⟩
theorem Stp.drew {lo hi:Nat} {w w':World} (h:Stp lo hi w w'):Stp lo hi w w'.drew:=⟨h.os,h.tape,h.output,h.size,h.block⟩
def Q4m (m:List Sl):Prop:=∀j,j < m.length→(m.getD j sl0).u=true→Q0h (m.getD j sl0).a (m.getD j sl0).p=true
theorem Q2j {l:List Sl} (h:Q0c l=true):Q4m l:=fun j hj hu=> by
 have ht:=(Q07.1 h).2.2 j hj;unfold Q3s at ht;exact ((Q3M hu).1 ((Bool.and_eq_true _ _).mp ht).1).1
theorem Q5g {m:List Sl} (h:Q4m m) (i:Nat) (s:Sl) (hs:s.u=true→Q0h s.a s.p=true):Q4m (m.set i s):=fun j c b=> by
 rw [List.length_set] at c
 by_cases e:i=j
 ·subst e
  rw [Q0Y _ _ _ c] at b ⊢;exact hs b
 ·rw [Q1G _ _ _ _ e] at b ⊢
  exact h j c b
structure DropInv (n:Nat) (R:List Sl) (g:Nat) (m:List Sl) (i k:Nat):Prop where
 len:m.length=n
 le:n≤16
 hi:i < n
 hk:k < n
 free:(m.getD i sl0).u=false
 ok:Q4m m
 go:Q2B n (g+1) m i k=R
 ms:QfU m i k≤g
theorem DropInv.done {n g i k:Nat} {R m:List Sl} (h:DropInv n R g m i k) (hu:(m.getD k sl0).u=false):m=R:=by
 rw [←h.go,QcT hu]
theorem DropInv.move {n g i k:Nat} {R m:List Sl} (h:DropInv n R g m i k) (p:(m.getD k sl0).u=true) (hm:Q4X n m i k=true):1≤g∧DropInv n R (g - 1) ((m.set i (m.getD k sl0)).set k sl0) k ((k+1) % n):=by
 obtain ⟨b,d,hi,f,a,c,l,q⟩:=h;subst b;have s:=Qeu d hi f a p hm
 have r:1≤g:=by omega
 refine ⟨r,by simp,d,f,Q3j (by omega) k, ?_, ?_, ?_, ?_⟩
 ·rw [Q0Y _ _ _ (by simpa using f)]
 ·exact Q5g (Q5g c i _ (fun j=> c k f j)) k _ (fun j=> by cases j)
 ·rw [←l,QbU p hm,show g - 1+1=g by omega]
 ·omega
theorem DropInv.stay {n g i k:Nat} {R m:List Sl} (h:DropInv n R g m i k) (d:(m.getD k sl0).u=true) (hm:Q4X n m i k=false):1≤g∧DropInv n R (g - 1) m i ((k+1) % n):=by
 obtain ⟨b,j,hi,q,a,f,l,p⟩:=h;subst b
 have c:k≠i:=fun e=> by rw [e,a] at d;cases d
 have s:=QeC hi q c
 have r:1≤g:=by omega
 refine ⟨r,rfl,j,hi,Q3j (by omega) k,a,f, ?_,by omega⟩;rw [←l,Qbz d hm,show g - 1+1=g by omega]
theorem DropInv.start {l:List Sl} {i:Nat} (b:l.length≤16) (hi:i < l.length) (a:Q4m l):DropInv l.length (Q1F l i) (QfU (l.set i sl0) i ((i+1) % l.length)) (l.set i sl0) i ((i+1) % l.length):=
 ⟨by simp,b,hi,Q3j (by omega) i,by rw [Q0Y _ _ _ hi],Q5g a i _ (fun h=> by cases h),rfl,Kaq _⟩
theorem QaD {n i k:Nat} {m:List Sl}:Q4X n m i k=true↔Q1C n i k≤Q1C n (Q0S n (m.getD k sl0).a (m.getD k sl0).p) k:=by simp [Q4X]
theorem Q46 (n:Nat):∀(f:Nat) (l:List Sl) (i k:Nat),(Q2B n f l i k).length=l.length
 |0,l,i,k=> rfl
 |f+1,l,i,k=> by
  unfold Q2B
  split
  ·split
   ·rw [Q46 n f];simp
   ·rw [Q46 n f]
  ·rfl
theorem Q2t (l:List Sl) (i:Nat):(Q1F l i).length=l.length:=by unfold Q1F;rw [Q46];simp
def Q43 (l:List Sl) (a p:Int):List Sl:=if (Q0Z l a p).2=true then Q1F l (Q0Z l a p).1.toNat else l
theorem QaN (l:List Sl) (a p:Int):(Q43 l a p).length=l.length:=by
 unfold Q43
 split
 ·exact Q2t _ _
 ·rfl
theorem Q6S {l:List Sl} {a p:Int} (h:(Q0Z l a p).2=false):Q43 l a p=l:=by unfold Q43;rw [h];rfl
theorem Q5H {l:List Sl} {a p:Int} {k:Nat} (h:Q0Z l a p=((k:Int),true)):Q43 l a p=Q1F l k:=by unfold Q43;rw [h];simp
theorem Q4V {n h d:Nat} (a:h < n) (b:d < n):Q1C n h ((h+d) % n)=d:=by
 by_cases e:h+d < n
 ·rw [Q32 e,Q15 a e,if_pos (by omega)];omega
 ·rw [Q9G (by omega) (by omega),Q15 a (by omega)]
  split <;> omega
theorem Q4J {n h x:Nat} (hh:h < n) (hx:x < n):(h+Q1C n h x) % n=x:=by
 rw [Q15 hh hx]
 split
 ·rw [Q32 (by omega)];omega
 ·rw [Q9G (by omega) (by omega)];omega
theorem QfT {n h x:Nat} (hh:h < n) (hx:x < n):Q1C n h x < n:=Nat.mod_lt _ (by omega)
theorem QfA {n h x y:Nat} (hh:h < n) (hx:x < n) (hy:y < n) (e:Q1C n h x=Q1C n h y):x=y:=by
 rw [←Q4J hh hx,e,Q4J hh hy]
theorem Qhr {n h i k:Nat} (hh:h < n) (hi:i < n) (hk:k < n) (hne:i≠k):Q1C n h i < Q1C n h k↔Q1C n i k≤Q1C n h k:=by
 rw [Q15 hh hi,Q15 hh hk,Q15 hi hk]
 (repeat' split) <;> omega
theorem QhP {n h i k:Nat} (a:h < n) (hi:i < n) (b:k < n) (c:Q1C n h i < Q1C n h k):Q1C n h k=Q1C n h i+Q1C n i k:=by
 rw [Q15 a hi,Q15 a b] at c;rw [Q15 a hi,Q15 a b,Q15 hi b]
 (repeat' split at c) <;> (repeat' split) <;> omega
theorem Qgd {n i:Nat} (hi:i < n):Q1C n i i=0:=by rw [Q15 hi hi,if_pos (Kaq _)];omega
theorem Qfh {n i j:Nat} (hi:i < n) (hj:j < n) (hne:i≠j):1≤Q1C n i j:=by
 rw [Q15 hi hj];split <;> omega
abbrev at' (m:List Sl) (j:Nat):Sl:=m.getD j sl0
abbrev hm (m:List Sl) (j:Nat):Nat:=Q0S m.length (at' m j).a (at' m j).p
structure Gapless (m:List Sl) (i:Nat):Prop where
 slots:Q7l m m.length
 dist:∀x y,x < m.length→y < m.length→(at' m x).u=true→(at' m y).u=true→(at' m x).a=(at' m y).a→(at' m x).p=(at' m y).p→x=y
 gap:∀j x,j < m.length→x < m.length→(at' m j).u=true→Q1C m.length (hm m j) x < Q1C m.length (hm m j) j→(at' m x).u=true∨x=i
theorem QaA {a p:Int}:∀{L:List Met} {E:Int × Bool},Q7s a p L=some E→∃x,x∈L∧Q3H a p x=some E
 |[],E,h=> by simp [Q7s] at h
 |x::L,E,h=> by
  unfold Q7s at h;rw [List.findSome?_cons] at h
  cases hx:Q3H a p x with
  |none=> rw [hx] at h;obtain ⟨y,b,e⟩:=QaA (L:=L) (E:=E) h;exact ⟨y,List.mem_cons_of_mem _ b,e⟩
  |some E'=> rw [hx] at h;exact ⟨x,List.mem_cons_self,by rw [hx];exact h⟩
theorem Qax {a p:Int}:∀{L:List Met},(∀x,x∈L→Q3H a p x=none)→Q7s a p L=none
 |[],_=> rfl
 |x::L,h=> by
  unfold Q7s;rw [List.findSome?_cons,h x List.mem_cons_self];exact Qax (L:=L) (fun y b=> h y (List.mem_cons_of_mem _ b))
theorem Qay {f:Nat→Met} {k:Nat} {x:Met}:x∈Q2M f k↔∃d,d < k∧f d=x:=by simp [Q2M]
theorem QbK {a p:Int} {x:Met} {E:Int × Bool} (h:Q3H a p x=some E):E.1=(x.1:Int):=by
 unfold Q3H at h
 split at h
 ·split at h
  ·cases h;rfl
  ·cases h
 ·cases h;rfl
theorem Q8M {a p:Int} {x:Met}:Q3H a p x=none↔x.2.u=true∧¬(x.2.a=a∧x.2.p=p):=by
 unfold Q3H
 by_cases h1:x.2.u=true
 ·rw [if_pos h1]
  by_cases h2:x.2.a=a∧x.2.p=p
  ·rw [if_pos h2];simp [h1,h2]
  ·rw [if_neg h2];simp [h1,h2]
 ·rw [if_neg h1];simp [h1]
theorem Q5e {l:List Sl} (n:0 < l.length) {a p:Int} {j:Nat} (z:j < l.length) {f:Bool} (h:Q0Z l a p=((j:Int),f)) (x:Nat) (q:x < l.length) (A:Q1C l.length (Q0S l.length a p) x < Q1C l.length (Q0S l.length a p) j):(at' l x).u=true∧¬((at' l x).a=a∧(at' l x).p=p):=by
 have g:=Q1o n a p;generalize hhe:Q0S l.length a p=h0 at *;have t:=QfT g q
 have i:Q3b l h0 (Q1C l.length h0 x)=(x,at' l x):=by unfold Q3b;rw [Q4J g q]
 cases hs:Q3H a p (x,at' l x) with
 |none=> exact Q8M.1 hs
 |some E0=>
  exfalso
  cases hsc:Q7s a p (Q2M (Q3b l h0) (Q1C l.length h0 x+1)) with
  |none=>
   rw [Q3t] at hsc
   have w:Q7s a p (Q2M (Q3b l h0) (Q1C l.length h0 x))=none:=by
    cases hq:Q7s a p (Q2M (Q3b l h0) (Q1C l.length h0 x)) with
    |none=> rfl
    |some E=> rw [QaR _ _ _ _ hq] at hsc;cases hsc
   rw [Q7f _ _ _ _ w,i,hs] at hsc
   cases hsc
  |some E1=>
   have s:=Q80 (l:=l) n (a:=a) (p:=p) (k:=Q1C l.length h0 x+1) (E:=E1) (by omega) (by rw [hhe];exact hsc);obtain ⟨y,r,c⟩:=QaA hsc;obtain ⟨d,v,rfl⟩:=Qay.1 r;have b:=QbK c;rw [←s,h] at b
   have m:j=(h0+d) % l.length:=by have:(j:Int)=((h0+d) % l.length:Nat):=b;omega
   have:=Q4V g (show d < l.length by omega);rw [←m] at this;omega
theorem Q91 {l:List Sl} (c:0 < l.length) {a p:Int} {j:Nat} (f:j < l.length) (h:(at' l j).u=true) (m:(at' l j).a=a) (n:(at' l j).p=p) (s:∀x,x < l.length→Q1C l.length (Q0S l.length a p) x < Q1C l.length (Q0S l.length a p) j→(at' l x).u=true∧¬((at' l x).a=a∧(at' l x).p=p)):Q0Z l a p=((j:Int),true):=by
 have b:=Q1o c a p;have i:=QfT b f;refine Q80 c (k:=Q1C l.length (Q0S l.length a p) j+1) (by omega) ?_;rw [Q3t,Q7f]
 ·unfold Q3b Q3H
  rw [Q4J b f];simp only;rw [if_pos h,if_pos ⟨m,n⟩]
 ·refine Qax ?_
  intro y g;obtain ⟨d,r,rfl⟩:=Qay.1 g;have q:=Nat.mod_lt (Q0S l.length a p+d) c;refine Q8M.2 (s _ q ?_);rw [Q4V b (by omega)];exact r
theorem Qdo {l:List Sl} (h:Q0c l=true) (i:Nat):Gapless l i:=by
 obtain ⟨z,h2,q⟩:=Q07.1 h
 have c:∀j,j < l.length→(at' l j).u=true→Q0Z l (at' l j).a (at' l j).p=((j:Int),true):=fun j b d=> by
  have k:=((Bool.and_eq_true _ _).mp (q j b)).2;unfold Q9S at k;rw [d] at k
  simpa using k
 refine ⟨fun j b=> ((Bool.and_eq_true _ _).mp (q j b)).1, ?_, ?_⟩
 ·intro x y g r m f t v
  have n:=c x g m;have s:=c y r f;rw [t,v,s] at n;have:(y:Int)=x:=congrArg Prod.fst n;omega
 ·intro j x b g d w
  exact .inl (Q5e (by omega) b (c j b d) x g w).1
theorem Q9q {l:List Sl} (k:1≤l.length) (h2:l.length≤16) (hs:Q7l l l.length)
  (h:∀x y,x < l.length→y < l.length→(at' l x).u=true→(at' l y).u=true→(at' l x).a=(at' l y).a→(at' l x).p=(at' l y).p→x=y)
  (f:∀j x,j < l.length→x < l.length→(at' l j).u=true→Q1C l.length (hm l j) x < Q1C l.length (hm l j) j→(at' l x).u=true):Q0c l=true:=by
 refine Q07.2 ⟨k,h2,fun j b=> ?_⟩
 cases hu:(at' l j).u with
 |false=> exact Q4H hu (hs j b)
 |true=>
  refine Q4M (hs j b) (Q91 (by omega) b hu rfl rfl ?_);intro x d c;refine ⟨f j x b d hu c,fun ⟨g,i⟩=> ?_⟩;have:=h x j d b (f j x b d hu c) hu g i;subst this;omega
structure WInv (m:List Sl) (i c:Nat):Prop where
 gl:Gapless m i
 lt:c < m.length
 seen:∀j,j < m.length→(at' m j).u=true→Q1C m.length i j≤c→¬Q1C m.length (hm m j) i < Q1C m.length (hm m j) j
theorem Q1E {m:List Sl} {i:Nat} (s:Sl) (h:i < m.length):at' (m.set i s) i=s:=Q0Y m i s h
theorem Q0U {m:List Sl} {i j:Nat} (s:Sl) (h:i≠j):at' (m.set i s) j=at' m j:=Q1G m i j s h
theorem QeU {m:List Sl} {i j:Nat} (s:Sl) (h:i≠j):hm (m.set i s) j=hm m j:=by unfold hm;rw [Q0U s h,List.length_set]
theorem QgI {m:List Sl} (hn:0 < m.length) (j:Nat):hm m j < m.length:=Q1o hn _ _
theorem WInv.start {l:List Sl} {i:Nat} (h:Q0c l=true) (hi:i < l.length):WInv (l.set i sl0) i 0:=by
 have r:=Qdo h i;obtain ⟨w,_,_⟩:=Q07.1 h
 have a:∀j,(at' (l.set i sl0) j).u=true→i≠j:=fun j b e=> by rw [←e,Q1E _ hi] at b;cases b
 refine ⟨⟨?_, ?_, ?_⟩,(by rw [List.length_set];omega), ?_⟩
 ·intro j c
  rw [List.length_set] at c
  by_cases e:i=j
  ·subst e;rw [Q0Y _ _ _ hi];rfl
  ·rw [Q1G _ _ _ _ e];exact r.slots j c
 ·intro x y g s f d n p
  have v:=a x f;have t:=a y d;rw [List.length_set] at g s;rw [Q0U _ v] at f n p;rw [Q0U _ t] at d n p;exact r.dist x y g s f d n p
 ·intro j x c g b k
  have m:=a j b;rw [List.length_set] at c g k;rw [QeU _ m] at k;rw [Q0U _ m] at b
  by_cases e:i=x
  ·exact .inr e.symm
  ·left
   rw [Q0U _ e]
   rcases r.gap j x c g b k with q|q
   ·exact q
   ·exact absurd q.symm e
 ·intro j c b k
  have m:=a j b;rw [List.length_set] at c k;have:=Qfh hi c m;omega
theorem WInv.stay {m:List Sl} {i c k:Nat} (h:WInv m i c) (hi:i < m.length) (l:k=(i+1+c) % m.length) (s:(at' m k).u=true) (a:(at' m i).u=false) (n:¬Q1C m.length i k≤Q1C m.length (hm m k) k):WInv m i (c+1):=by
 have q:0 < m.length:=by omega
 have d:k < m.length:=by rw [l];exact Nat.mod_lt _ q
 have b:i≠k:=fun e=> by rw [e,s] at a;cases a
 have f:c+1 < m.length:=by
  rcases Nat.lt_or_ge (c+1) m.length with g|g
  ·exact g
  ·exfalso
   have:=h.lt
   have e:i+1+c=i+m.length:=by omega
   rw [e,Nat.add_mod_right,Q32 hi] at l;exact b l.symm
 have t:Q1C m.length i k=c+1:=by rw [l,Nat.add_assoc,Nat.add_comm 1 c];exact Q4V hi f
 refine ⟨h.gl,f,fun j r p w=> ?_⟩
 rcases Nat.lt_or_ge c (Q1C m.length i j) with g|g
 ·have e:j=k:=QfA hi r d (by omega)
  subst e;intro v;exact n ((Qhr (QgI q j) hi d b).1 v)
 ·exact h.seen j r p g
theorem WInv.move {m:List Sl} {i c k:Nat} (h:WInv m i c) (hi:i < m.length) (b:k < m.length) (B:(at' m k).u=true) (f:(at' m i).u=false) (F:Q1C m.length i k≤Q1C m.length (hm m k) k):WInv ((m.set i (at' m k)).set k sl0) k 0:=by
 have M:0 < m.length:=by omega
 have A:i≠k:=fun e=> by rw [e,B] at f;cases f
 have a:((m.set i (at' m k)).set k sl0).length=m.length:=by simp
 have N:=(Qhr (QgI M k) hi b A).2 F
 have z:at' ((m.set i (at' m k)).set k sl0) i=at' m k:=by rw [Q0U _ (fun e=> A e.symm),Q1E _ hi]
 have L:at' ((m.set i (at' m k)).set k sl0) k=sl0:=Q1E _ (by simpa using b)
 have t:∀x,x≠i→x≠k→at' ((m.set i (at' m k)).set k sl0) x=at' m x:=fun x G h2=> by rw [Q0U _ (fun e=> h2 e.symm),Q0U _ (fun e=> G e.symm)]
 have D:hm ((m.set i (at' m k)).set k sl0) i=hm m k:=by unfold hm;rw [z,a]
 have E:∀x,x≠i→x≠k→hm ((m.set i (at' m k)).set k sl0) x=hm m x:=fun x G h2=> by unfold hm;rw [t x G h2,a]
 have q:∀x,(at' ((m.set i (at' m k)).set k sl0) x).u=true→x≠k:=fun x n e=> by rw [e,L] at n;cases n
 refine ⟨⟨?_, ?_, ?_⟩,by rw [a];exact M, ?_⟩
 ·intro j s
  rw [a] at s
  by_cases e1:j=k
  ·subst e1;show Q2g (at' _ j)=true;rw [L];rfl
  ·by_cases e2:j=i
   ·subst e2;show Q2g (at' _ j)=true;rw [z];exact h.gl.slots k b
   ·show Q2g (at' _ j)=true;rw [t j e2 e1];exact h.gl.slots j s
 ·intro x y v C d l p r
  have I:=q x d;have H:=q y l;rw [a] at v C
  by_cases e1:x=i
  ·by_cases e2:y=i
   ·rw [e1,e2]
   ·rw [e1,z] at p r
    rw [t y e2 H] at l p r;exact absurd (h.gl.dist k y b C B l p r).symm H
  ·by_cases e2:y=i
   ·rw [e2,z] at p r
    rw [t x e1 I] at d p r;exact absurd (h.gl.dist x k v b d B p r) I
   ·rw [t x e1 I] at d p r
    rw [t y e2 H] at l p r;exact h.gl.dist x y v C d l p r
 ·intro j x s v g w
  have J:=q j g;rw [a] at s v w
  by_cases e1:x=k
  ·exact .inr e1
  ·left
   by_cases e2:x=i
   ·rw [e2,z];exact B
   ·rw [t x e2 e1]
    by_cases e3:j=i
    ·rw [e3,D] at w
     rcases h.gl.gap k x b v B (by omega) with n|n
     ·exact n
     ·exact absurd n e2
    ·rw [E j e3 J] at w
     rw [t j e3 J] at g
     rcases h.gl.gap j x s v g w with n|n
     ·exact n
     ·exact absurd n e2
 ·intro j s g w
  rw [a] at s w;have:=Qfh b s (fun e=> q j g e.symm);omega
theorem WInv.done {m:List Sl} {i c k:Nat} (h:WInv m i c) (t:m.length≤16) (hi:i < m.length) (z:k=(i+1+c) % m.length) (a:(at' m k).u=false):Q0c m=true:=by
 have n:0 < m.length:=by omega
 have b:k < m.length:=by rw [z];exact Nat.mod_lt _ n
 refine Q9q (by omega) t h.gl.slots h.gl.dist ?_;intro j x d B f p
 rcases h.gl.gap j x d B f p with w|w
 ·exact w
 ·exfalso
  subst w
  have hs:c < Q1C m.length x j:=Nat.lt_of_not_le fun v=> h.seen j d f v p
  have D:=QfT hi d
  have l:Q1C m.length x k=c+1:=by rw [z,Nat.add_assoc,Nat.add_comm 1 c];exact Q4V hi (by omega)
  have q:j≠k:=fun e=> by rw [e,a] at f;cases f
  have y:Q1C m.length x k < Q1C m.length x j:=by
   rcases Nat.lt_or_ge (c+1) (Q1C m.length x j) with g|g
   ·omega
   ·exact absurd (QfA hi d b (by omega)) q
  have H:=QhP (QgI n j) hi d p
  have s:x≠k:=fun e=> by rw [e,Qgd b] at l;omega
  have r:Q1C m.length (hm m j) k < Q1C m.length (hm m j) j:=by
   have:=QgI n j;have F:=Q15 this b;have A:=Q15 this hi;have C:=Q15 this d;have E:=Q15 hi b;have G:=Q15 hi d
   (repeat' split at F) <;> (repeat' split at A) <;> (repeat' split at C) <;> (repeat' split at E) <;> (repeat' split at G) <;> omega
  rcases h.gl.gap j k d b f r with g|g
  ·rw [g] at a;cases a
  ·exact s g.symm
theorem Q6f {n:Nat} {R:List Sl}:∀(g:Nat) (m:List Sl) (i c k:Nat),k=(i+1+c) % n→DropInv n R g m i k→WInv m i c→Q0c R=true
 |g,m,i,c,k,hk,hD,hW=> by
  have b:=hD.len;have hi:=hD.hi;have l:=hD.hk;have j:=hD.free
  cases hu:(m.getD k sl0).u with
  |false=>
   rw [←hD.done hu];exact hW.done (by have:=hD.le;omega) (by omega) (by rw [b];exact hk) hu
  |true=>
   cases hm':Q4X n m i k with
   |true=>
    obtain ⟨r,h⟩:=hD.move hu hm';obtain ⟨f,rfl⟩:∃f,g=f+1:=⟨g - 1,by omega⟩;have d:=QaD.1 hm';exact Q6f f _ k 0 _ (by rw [Nat.add_zero]) h (hW.move (by omega) (by omega) hu j (by rw [b];unfold hm;rw [b];exact d))
   |false=>
    obtain ⟨r,h⟩:=hD.stay hu hm';obtain ⟨f,rfl⟩:∃f,g=f+1:=⟨g - 1,by omega⟩
    have d:¬Q1C n i k≤Q1C n (Q0S n (m.getD k sl0).a (m.getD k sl0).p) k:=fun q=> by rw [QaD.2 q] at hm';cases hm'
    refine Q6f f m i (c+1) _ ?_ h (hW.stay (by omega) (by rw [b];exact hk) hu j (by rw [b];unfold hm;rw [b];exact d));rw [hk,Nat.mod_add_mod];congr 1
theorem Q8q {l:List Sl} {i:Nat} (h:Q0c l=true) (hi:i < l.length):Q0c (Q1F l i)=true:=by
 obtain ⟨a,h2,_⟩:=Q07.1 h;exact Q6f _ _ i 0 _ (by rw [Nat.add_zero]) (DropInv.start h2 hi (Q2j h)) (WInv.start h hi)
theorem Qf2 {m:List Sl} {i:Nat} (h:Q0c m=true) (hi:i < m.length) (c:(at' m i).u=true):Q0Z m (at' m i).a (at' m i).p=((i:Int),true):=by
 have b:=((Bool.and_eq_true _ _).mp ((Q07.1 h).2.2 i hi)).2;unfold Q9S at b;rw [show (m.getD i sl0).u=true from c] at b
 simpa using b
theorem Q5A {l:List Sl} (h:Q0c l=true) {a p:Int} {j:Nat}:Q0Z l a p=((j:Int),true)↔j < l.length∧(at' l j).u=true∧(at' l j).a=a∧(at' l j).p=p:=by
 have m:=(Q07.1 h).1
 constructor
 ·intro e
  rcases Q1f l (by omega) a p with b|⟨k,g,⟨b,_⟩|⟨b,c,i,d⟩⟩
  ·rw [b] at e;cases e
  ·rw [b] at e;injection e with _ e;cases e
  ·rw [b] at e
   injection e with e _
   have:k=j:=by omega
   subst this;exact ⟨g,c,i,d⟩
 ·rintro ⟨f,c,rfl,rfl⟩
  exact Qf2 h f c
theorem Qhm {l:List Sl} {a p v t:Int} {k:Nat} {f:Bool} (h:Q0c l=true) (z:Q0h a p=true) (hv:0≤v∧v≤100000) (r:0≤t∧t≤200000) (s:k < l.length) (q:Q0Z l a p=((k:Int),f)):Q0c (l.set k ⟨true,a,p,v,t⟩)=true:=by
 obtain ⟨A,h2,y⟩:=Q07.1 h;have b:(l.set k ⟨true,a,p,v,t⟩).length=l.length:=List.length_set;have hs:=Q1E (m:=l) ⟨true,a,p,v,t⟩ s;refine Q07.2 ⟨by omega,by omega,fun i hi=> ?_⟩;rw [b] at hi
 by_cases hik:k=i
 ·subst hik
  refine Q4M ?_ ?_
  ·rw [show (l.set k ⟨true,a,p,v,t⟩).getD k sl0=⟨true,a,p,v,t⟩ from hs]
   exact (Q3M rfl).2 ⟨z,hv.1,hv.2,r.1,r.2⟩
  ·rw [show (l.set k ⟨true,a,p,v,t⟩).getD k sl0=⟨true,a,p,v,t⟩ from hs]
   refine Q91 (by omega) (by omega) (by rw [hs]) (by rw [hs]) (by rw [hs]) (fun x g c=> ?_);rw [b] at g c
   have n:k≠x:=fun e=> by rw [e] at c;exact absurd c (Nat.lt_irrefl _)
   rw [Q0U _ n];exact Q5e (by omega) s q x g c
 ·have d:=Q0U (m:=l) ⟨true,a,p,v,t⟩ hik
  have w:=(Bool.and_eq_true _ _).mp (y i hi)
  cases hu:(at' l i).u with
  |false=> exact Q4H (by rw [show (l.set k ⟨true,a,p,v,t⟩).getD i sl0=at' l i from d];exact hu) (by rw [show (l.set k ⟨true,a,p,v,t⟩).getD i sl0=at' l i from d];exact w.1)
  |true=>
   have j:=Qf2 h hi hu;refine Q4M ?_ ?_
   ·rw [show (l.set k ⟨true,a,p,v,t⟩).getD i sl0=at' l i from d];exact w.1
   ·rw [show (l.set k ⟨true,a,p,v,t⟩).getD i sl0=at' l i from d]
    refine Q91 (by omega) (by omega) (by rw [d];exact hu) (by rw [d]) (by rw [d]) (fun x g c=> ?_);rw [b] at g c
    by_cases hkx:k=x
    ·subst hkx
     rw [hs];refine ⟨rfl,fun e=> hik ?_⟩;rw [←e.1,←e.2,q] at j;injection j with j _;omega
    ·rw [Q0U _ hkx]
     exact Q5e (by omega) hi j x g c
theorem Q7Z {l:List Sl} {a p v t:Int} (h:Q0c l=true) (c:Q0h a p=true) (hv:0≤v∧v≤100000) (b:0≤t∧t≤200000):Q0c (Q4c l a p v t)=true:=by
 have f:=(Q07.1 h).1
 rcases Q1f l (by omega) a p with e|⟨k,d,⟨e,_⟩|⟨e,_⟩⟩
 ·unfold Q4c;rw [e,if_neg (by decide)];exact h
 ·unfold Q4c;rw [e,if_pos (by simp)];simpa using Qhm h c hv b d e
 ·unfold Q4c;rw [e,if_pos (by simp)];simpa using Qhm h c hv b d e
def Qg9 (m:List Sl) (s:Sl):Prop:=∃j,j < m.length∧at' m j=s
theorem Qh7 {m:List Sl} {i k:Nat} {s:Sl} (hi:i < m.length) (g:k < m.length) (c:i≠k) (a:(at' m i).u=false) (hs:s.u=true):Qg9 ((m.set i (at' m k)).set k sl0) s↔Qg9 m s:=by
 have d:((m.set i (at' m k)).set k sl0).length=m.length:=by rw [List.length_set,List.length_set]
 have f:k < (m.set i (at' m k)).length:=by rw [List.length_set];exact g
 constructor
 ·rintro ⟨j,b,e⟩
  rw [d] at b
  by_cases hjk:k=j
  ·subst hjk
   rw [Q1E _ f] at e;rw [←e] at hs;cases hs
  ·rw [Q0U _ hjk] at e
   by_cases hji:i=j
   ·subst hji
    rw [Q1E _ hi] at e;exact ⟨k,g,e⟩
   ·rw [Q0U _ hji] at e
    exact ⟨j,b,e⟩
 ·rintro ⟨j,b,e⟩
  by_cases hji:i=j
  ·subst hji
   rw [e,hs] at a;cases a
  ·by_cases hjk:k=j
   ·subst hjk
    exact ⟨i,by rw [d];exact hi,by rw [Q0U _ (fun h=> c h.symm),Q1E _ hi];exact e⟩
   ·exact ⟨j,by rw [d];exact b,by rw [Q0U _ hjk,Q0U _ hji];exact e⟩
theorem Q9i {n:Nat} {R:List Sl} {s:Sl} (hs:s.u=true):∀(g:Nat) (m:List Sl) (i k:Nat),DropInv n R g m i k→(Qg9 R s↔Qg9 m s)
 |g,m,i,k,hD=> by
  have d:=hD.len;have hi:=hD.hi;have f:=hD.hk
  cases hu:(m.getD k sl0).u with
  |false=> rw [←hD.done hu]
  |true=>
   cases hm':Q4X n m i k with
   |true=>
    obtain ⟨j,c⟩:=hD.move hu hm';obtain ⟨a,rfl⟩:∃a,g=a+1:=⟨g - 1,by omega⟩
    have b:i≠k:=fun e=> by have h:=hD.free;rw [e,hu] at h;cases h
    exact (Q9i hs a _ _ _ c).trans (Qh7 (by omega) (by omega) b hD.free hs)
   |false=>
    obtain ⟨j,c⟩:=hD.stay hu hm';obtain ⟨a,rfl⟩:∃a,g=a+1:=⟨g - 1,by omega⟩;exact Q9i hs a _ _ _ c
theorem Q8P {l:List Sl} {i:Nat} (h:Q0c l=true) (hi:i < l.length) {s:Sl} (hs:s.u=true):Qg9 (Q1F l i) s↔∃j,j < l.length∧j≠i∧at' l j=s:=by
 rw [Q9i hs _ _ _ _ (DropInv.start (Q07.1 h).2.1 hi (Q2j h))]
 constructor
 ·rintro ⟨j,a,e⟩
  rw [List.length_set] at a
  by_cases hji:i=j
  ·subst hji
   rw [Q1E _ hi] at e;rw [←e] at hs;cases hs
  ·rw [Q0U _ hji] at e
   exact ⟨j,a,fun h=> hji h.symm,e⟩
 ·rintro ⟨j,a,b,e⟩
  exact ⟨j,by rw [List.length_set];exact a,by rw [Q0U _ (fun h=> b h.symm)];exact e⟩
theorem Q60 {l:List Sl} (h:Q0c l=true) {a p:Int} {s:Sl}:((Q0Z l a p).2=true∧Q6j l a p=s)↔(Qg9 l s∧s.u=true∧s.a=a∧s.p=p):=by
 have n:=(Q07.1 h).1
 constructor
 ·rintro ⟨b,h2⟩
  rcases Q1f l (by omega) a p with e|⟨k,m,⟨e,_⟩|⟨e,c,d,f⟩⟩
  ·rw [e] at b;cases b
  ·rw [e] at b;cases b
  ·unfold Q6j at h2
   rw [e,if_pos rfl] at h2
   have g:at' l k=s:=by simpa [at'] using h2
   subst g;exact ⟨⟨k,m,rfl⟩,c,d,f⟩
 ·rintro ⟨⟨j,i,rfl⟩,c,d,f⟩
  have e:=(Q5A h).2 ⟨i,c,d,f⟩;refine ⟨by rw [e], ?_⟩;unfold Q6j;rw [e,if_pos rfl];simp [at']
theorem Qf3 {l:List Sl} {a p b c:Int} {i:Nat} (h:Q0c l=true) (e:Q0Z l a p=((i:Int),true)) (k:¬(b=a∧c=p)) (s:Sl):((Q0Z (Q1F l i) b c).2=true∧Q6j (Q1F l i) b c=s)↔((Q0Z l b c).2=true∧Q6j l b c=s):=by
 obtain ⟨hi,u,q,r⟩:=(Q5A h).1 e;rw [Q60 (Q8q h hi),Q60 h]
 constructor
 ·rintro ⟨t,h2,f,g⟩
  obtain ⟨j,n,_,d⟩:=(Q8P h hi h2).1 t;exact ⟨⟨j,n,d⟩,h2,f,g⟩
 ·rintro ⟨⟨j,n,d⟩,h2,f,g⟩
  refine ⟨(Q8P h hi h2).2 ⟨j,n,fun m=> ?_,d⟩,h2,f,g⟩;subst m;rw [d] at q r;exact k ⟨f.symm.trans q,g.symm.trans r⟩
end Go.Proofs.YtpneolgdghbinaaGreat
